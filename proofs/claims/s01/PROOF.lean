import PyProof.Rows.All
import Wide.All
import OpenK.AllK
import Wide.FinOn
import PyProof.EqAt
import PyProof.EqKinds
import PyProof.TupleCall
import KE.BitLaws
import Open.SpecLaws
import KE.OsHead
import KE.OsGo
import PyProof.EnumMake
import PyProof.EnumIter
import PyProof.Rows.CallKw2
import KE.KDictList
import PyProof.Rows.SortShellAny
import PyProof.ListRange
import KE.KSortedM
import PySem.Challenge.RW_strandstore_s01_answers
set_option Elab.async false
set_option linter.all false
section
namespace SS
open Km348
def ws : Nat → List Nat → Nat
  | _, [] => 0
  | k, x :: r => k * x + ws (k + 1) r
theorem ws_app : ∀ (k : Nat) (a b : List Nat), ws k (a ++ b) = ws k a + ws (k + a.length) b
  | k, [], b => by simp [ws]
  | k, x :: a, b => by
    show k * x + ws (k + 1) (a ++ b) = k * x + ws (k + 1) a + ws (k + (a.length + 1)) b
    rw [ws_app (k + 1) a b, show k + 1 + a.length = k + (a.length + 1) by omega]
    omega
def sm : List Nat → Nat
  | [] => 0
  | x :: r => x + sm r
theorem ws_succ : ∀ (k : Nat) (a : List Nat), ws (k + 1) a = ws k a + sm a
  | _, [] => rfl
  | k, x :: a => by
    show (k + 1) * x + ws (k + 1 + 1) a = k * x + ws (k + 1) a + (x + sm a)
    rw [ws_succ (k + 1) a, Nat.succ_mul]
    omega
theorem fold_ws : ∀ (l : List Nat) (k s : Nat), ((List.range' k l.length).zip l).foldl (fun s x => s + (x.1 + 1) * x.2) s = s + ws (k + 1) l
  | [], k, s => by simp [ws]
  | x :: l, k, s => by
    show ((List.range' (k + 1) l.length).zip l).foldl (fun s x => s + (x.1 + 1) * x.2) (s + (k + 1) * x) = s + ((k + 1) * x + ws (k + 1 + 1) l)
    rw [fold_ws l (k + 1)]
    omega
theorem weight_eq (l : List Nat) : weight l = ws 1 l % 128 := by
  unfold weight
  rw [List.range_eq_range', fold_ws l 0 0, Nat.zero_add]
def Bits (l : List Nat) : Prop := ∀ x ∈ l, x ≤ 1
theorem sm_le : ∀ {l : List Nat}, Bits l → sm l ≤ l.length
  | [], _ => Nat.le_refl _
  | x :: l, h => by
    have h1 := h x (List.mem_cons_self ..)
    have h2 := sm_le (l := l) fun y hy => h y (List.mem_cons_of_mem _ hy)
    show x + sm l ≤ l.length + 1
    omega
theorem all0 : ∀ {l : List Nat}, sm l = 0 → l = List.replicate l.length 0
  | [], _ => rfl
  | x :: l, h => by
    have h : x + sm l = 0 := h
    have h1 : x = 0 := by omega
    have h2 := all0 (l := l) (by omega)
    subst h1
    show 0 :: l = 0 :: List.replicate l.length 0
    rw [← h2]
theorem all1 : ∀ {l : List Nat}, Bits l → sm l = l.length → l = List.replicate l.length 1
  | [], _, _ => rfl
  | x :: l, b, h => by
    have h : x + sm l = l.length + 1 := h
    have b2 : Bits l := fun y hy => b y (List.mem_cons_of_mem _ hy)
    have h1 := b x (List.mem_cons_self ..)
    have h3 := sm_le b2
    have h2 := all1 (l := l) b2 (by omega)
    have hx : x = 1 := by omega
    subst hx
    show 1 :: l = 1 :: List.replicate l.length 1
    rw [← h2]
theorem rep_snoc (n x : Nat) : x :: List.replicate n x = List.replicate n x ++ [x] := by
  rw [← List.replicate_succ, List.replicate_succ']
theorem shift_eq {pre m post : List Nat} {p q : Nat} (hm : Bits m) (hp : p ≤ 1) (hq : q ≤ 1) (hl : pre.length + m.length + 1 < 128)
    (h : ws 1 (pre ++ (m ++ [q]) ++ post) % 128 = ws 1 (pre ++ (p :: m) ++ post) % 128) : m ++ [q] = p :: m := by
  have hs := sm_le hm
  have e : ws (1 + pre.length) (p :: m) = (1 + pre.length) * p + (ws (1 + pre.length) m + sm m) := by
    show (1 + pre.length) * p + ws (1 + pre.length + 1) m = _
    rw [ws_succ]
  have l1 : (pre ++ (m ++ [q])).length = (pre ++ (p :: m)).length := by simp
  rw [ws_app, ws_app 1 (pre ++ (p :: m)), l1, ws_app 1 pre, ws_app 1 pre (p :: m), ws_app _ m, e] at h
  have e2 : ws (1 + pre.length + m.length) [q] = (1 + pre.length + m.length) * q := by simp [ws]
  rw [e2] at h
  have hpp : p = 0 ∨ p = 1 := by omega
  have hqq : q = 0 ∨ q = 1 := by omega
  rcases hpp with rfl | rfl <;> rcases hqq with rfl | rfl
  · have : sm m = 0 := by simp only [Nat.mul_zero] at h; omega
    rw [all0 this, ← rep_snoc]
  · simp only [Nat.mul_zero, Nat.mul_one] at h
    omega
  · simp only [Nat.mul_zero, Nat.mul_one] at h
    omega
  · have : sm m = m.length := by simp only [Nat.mul_one] at h; omega
    rw [all1 hm this, ← rep_snoc]
end SS
end
section
namespace SS
open Km348
theorem split2 {l : List Nat} {i j : Nat} (h1 : i < j) (h2 : j < l.length) : ∃ pre p m q post, l = pre ++ p :: (m ++ q :: post) ∧ pre.length = i ∧ pre.length + 1 + m.length = j := by
  refine ⟨l.take i, l[i], (l.drop (i + 1)).take (j - i - 1), l[j], l.drop (j + 1), ?_, ?_, ?_⟩
  · apply List.ext_getElem?
    intro n
    by_cases c1 : n < i
    · rw [List.getElem?_append_left (by simp; omega), List.getElem?_take_of_lt c1]
    · rw [List.getElem?_append_right (by simp; omega), List.length_take, Nat.min_eq_left (by omega)]
      rcases Nat.eq_or_lt_of_le (Nat.not_lt.mp c1) with c2 | c2
      · subst c2
        rw [Nat.sub_self, List.getElem?_cons_zero, List.getElem?_eq_getElem]
      · obtain ⟨d, hd⟩ : ∃ d, n - i = d + 1 := ⟨n - i - 1, by omega⟩
        rw [hd, List.getElem?_cons_succ]
        by_cases c3 : d < j - i - 1
        · rw [List.getElem?_append_left (by simp; omega), List.getElem?_take_of_lt c3, List.getElem?_drop]
          congr 1; omega
        · rw [List.getElem?_append_right (by simp; omega), List.length_take, List.length_drop, Nat.min_eq_left (by omega)]
          rcases Nat.eq_or_lt_of_le (Nat.not_lt.mp c3) with c4 | c4
          · rw [← c4, Nat.sub_self, List.getElem?_cons_zero, show n = j by omega, List.getElem?_eq_getElem]
          · obtain ⟨e, he⟩ : ∃ e, d - (j - i - 1) = e + 1 := ⟨d - (j - i - 1) - 1, by omega⟩
            rw [he, List.getElem?_cons_succ, List.getElem?_drop]
            congr 1; omega
  · simp; omega
  · simp; omega
theorem Bits.app {a b : List Nat} (h : Bits (a ++ b)) : Bits a ∧ Bits b :=
  ⟨fun x hx => h x (List.mem_append.mpr (.inl hx)), fun x hx => h x (List.mem_append.mpr (.inr hx))⟩
theorem drop_lt {l : List Nat} {i j : Nat} (hb : Bits l) (hl : l.length ≤ 65) (h1 : i < j) (h2 : j < l.length)
    (h : ws 1 (dropAt l i) % 128 = ws 1 (dropAt l j) % 128) : dropAt l i = dropAt l j := by
  obtain ⟨pre, p, m, q, post, rfl, rfl, rfl⟩ := split2 h1 h2
  have e1 : dropAt (pre ++ p :: (m ++ q :: post)) pre.length = pre ++ (m ++ [q]) ++ post := by
    unfold dropAt
    rw [List.take_left]
    have : List.drop (pre.length + 1) (pre ++ p :: (m ++ q :: post)) = m ++ q :: post := by
      rw [← List.drop_drop, List.drop_left]; rfl
    rw [this]; simp
  have e2 : dropAt (pre ++ p :: (m ++ q :: post)) (pre.length + 1 + m.length) = pre ++ (p :: m) ++ post := by
    have : pre ++ p :: (m ++ q :: post) = (pre ++ p :: m) ++ (q :: post) := by simp
    rw [this]
    have l3 : pre.length + 1 + m.length = (pre ++ p :: m).length := by simp; omega
    unfold dropAt
    rw [l3, List.take_left, ← List.drop_drop, List.drop_left]; rfl
  rw [e1, e2] at h ⊢
  have b1 := hb.app.2
  have b2 : Bits (m ++ q :: post) := fun x hx => b1 x (List.mem_cons_of_mem _ hx)
  have hp : p ≤ 1 := b1 p (List.mem_cons_self ..)
  have hq : q ≤ 1 := b2.app.2 q (List.mem_cons_self ..)
  have := shift_eq (pre := pre) (m := m) (post := post) (p := p) (q := q) b2.app.1 hp hq (by simp at hl; omega) h
  rw [this]
theorem drop_uniq {l : List Nat} {i j : Nat} (hb : Bits l) (hl : l.length ≤ 65) (hi : i < l.length) (hj : j < l.length)
    (h : ws 1 (dropAt l i) % 128 = ws 1 (dropAt l j) % 128) : dropAt l i = dropAt l j := by
  rcases Nat.lt_trichotomy i j with c | c | c
  · exact drop_lt hb hl c hj h
  · rw [c]
  · exact (drop_lt hb hl c hi h.symm).symm
theorem dropAt_getElem? (l : List Nat) (i n : Nat) : (dropAt l i)[n]? = if n < i then l[n]? else l[n + 1]? := by
  unfold dropAt
  by_cases c : n < i
  · rw [if_pos c]
    by_cases c2 : n < l.length
    · rw [List.getElem?_append_left (by simp; omega), List.getElem?_take_of_lt c]
    · rw [List.getElem?_eq_none (by simp; omega), List.getElem?_eq_none (by omega)]
  · rw [if_neg c]
    by_cases c2 : i ≤ l.length
    · rw [List.getElem?_append_right (by simp; omega), List.getElem?_drop, List.length_take, Nat.min_eq_left c2]
      congr 1; omega
    · rw [List.getElem?_eq_none (by simp; omega), List.getElem?_eq_none (by omega)]
theorem putAt_getElem? {l : List Nat} {i : Nat} (x n : Nat) (hi : i ≤ l.length) : (putAt l i x)[n]? = if n < i then l[n]? else if n = i then some x else l[n - 1]? := by
  unfold putAt
  by_cases c : n < i
  · rw [if_pos c, List.getElem?_append_left (by simp; omega), List.getElem?_take_of_lt c]
  · rw [if_neg c, List.getElem?_append_right (by simp; omega), List.length_take, Nat.min_eq_left hi]
    by_cases c2 : n = i
    · rw [if_pos c2, c2, Nat.sub_self, List.getElem?_cons_zero]
    · rw [if_neg c2]
      obtain ⟨d, hd⟩ : ∃ d, n - i = d + 1 := ⟨n - i - 1, by omega⟩
      rw [hd, List.getElem?_cons_succ, List.getElem?_drop]
      congr 1; omega
theorem putAt_length {l : List Nat} {i : Nat} (x : Nat) (hi : i ≤ l.length) : (putAt l i x).length = l.length + 1 := by
  unfold putAt; simp; omega
theorem dropAt_length {l : List Nat} {i : Nat} (hi : i < l.length) : (dropAt l i).length + 1 = l.length := by
  unfold dropAt; simp; omega
theorem drop_put {l : List Nat} {i j : Nat} (x y : Nat) (h1 : i ≤ j) (h2 : j ≤ l.length) : dropAt (putAt (putAt l j y) i x) (j + 1) = putAt l i x := by
  apply List.ext_getElem?
  intro n
  rw [dropAt_getElem?, putAt_getElem? (l := putAt l j y) x _ (by rw [putAt_length y h2]; omega), putAt_getElem? (l := putAt l j y) x _ (by rw [putAt_length y h2]; omega), putAt_getElem? x n (by omega), putAt_getElem? y _ h2, putAt_getElem? y _ h2, putAt_getElem? y _ h2, putAt_getElem? y _ h2]
  repeat' split
  all_goals first | rfl | omega | (congr 1; omega)
theorem drop_put2 {l : List Nat} {i j : Nat} (x y : Nat) (h1 : i ≤ j) (h2 : j ≤ l.length) : dropAt (putAt (putAt l j y) i x) i = putAt l j y := by
  apply List.ext_getElem?
  intro n
  rw [dropAt_getElem?, putAt_getElem? (l := putAt l j y) x _ (by rw [putAt_length y h2]; omega), putAt_getElem? (l := putAt l j y) x _ (by rw [putAt_length y h2]; omega)]
  repeat' split
  all_goals first | rfl | omega | (congr 1; omega)
theorem mem_putAt {l : List Nat} {i x y : Nat} (h : y ∈ putAt l i x) : y = x ∨ y ∈ l := by
  unfold putAt at h
  rcases List.mem_append.mp h with h | h
  · exact .inr (List.mem_of_mem_take h)
  · rcases List.mem_cons.mp h with h | h
    · exact .inl h
    · exact .inr (List.mem_of_mem_drop h)
theorem Bits.put {l : List Nat} {i x : Nat} (h : Bits l) (hx : x ≤ 1) : Bits (putAt l i x) := fun y hy => by
  rcases mem_putAt hy with e | e
  · omega
  · exact h y e
theorem put_le {l : List Nat} {i j x y : Nat} (hb : Bits l) (hx : x ≤ 1) (hy : y ≤ 1) (hl : l.length ≤ 63) (h1 : i ≤ j) (h2 : j ≤ l.length)
    (h : ws 1 (putAt l i x) % 128 = ws 1 (putAt l j y) % 128) : putAt l i x = putAt l j y := by
  have e1 := drop_put x y h1 h2
  have e2 := drop_put2 x y h1 h2
  have ln : (putAt (putAt l j y) i x).length = l.length + 2 := by rw [putAt_length x (by rw [putAt_length y h2]; omega), putAt_length y h2]
  have := drop_uniq (l := putAt (putAt l j y) i x) (i := j + 1) (j := i) ((hb.put hy).put hx) (by omega) (by omega) (by omega) (by rw [e1, e2]; exact h)
  rw [e1, e2] at this
  exact this
theorem put_uniq {l : List Nat} {i j x y : Nat} (hb : Bits l) (hx : x ≤ 1) (hy : y ≤ 1) (hl : l.length ≤ 63) (h1 : i ≤ l.length) (h2 : j ≤ l.length)
    (h : ws 1 (putAt l i x) % 128 = ws 1 (putAt l j y) % 128) : putAt l i x = putAt l j y := by
  rcases Nat.le_total i j with c | c
  · exact put_le hb hx hy hl c h2 h
  · exact (put_le hb hy hx hl c h1 h.symm).symm
theorem ws_set : ∀ (l : List Nat) (k i x v : Nat), l[i]? = some v → ws k (l.set i x) + (k + i) * v = ws k l + (k + i) * x
  | [], _, _, _, _, h => by simp at h
  | a :: l, k, 0, x, v, h => by
    have e : a = v := Option.some.inj h
    subst e
    show k * x + ws (k + 1) l + (k + 0) * a = k * a + ws (k + 1) l + (k + 0) * x
    simp only [Nat.add_zero]; omega
  | a :: l, k, i + 1, x, v, h => by
    have ih := ws_set l (k + 1) i x v h
    show k * a + ws (k + 1) (l.set i x) + (k + (i + 1)) * v = k * a + ws (k + 1) l + (k + (i + 1)) * x
    rw [show k + (i + 1) = k + 1 + i by omega]
    omega
theorem set_uniq {l : List Nat} {i j x y : Nat} (hb : Bits l) (hx : x ≤ 1) (hy : y ≤ 1) (hl : l.length ≤ 64) (h1 : i < l.length) (h2 : j < l.length)
    (h : ws 1 (l.set i x) % 128 = ws 1 (l.set j y) % 128) : l.set i x = l.set j y := by
  have a1 := ws_set l 1 i x l[i] (List.getElem?_eq_getElem h1)
  have a2 := ws_set l 1 j y l[j] (List.getElem?_eq_getElem h2)
  have b1 := hb l[i] (List.getElem_mem h1)
  have b2 := hb l[j] (List.getElem_mem h2)
  have same1 : x = l[i] → l.set i x = l := fun e => by rw [e]; exact List.set_getElem_self h1
  have same2 : y = l[j] → l.set j y = l := fun e => by rw [e]; exact List.set_getElem_self h2
  generalize hu : l[i] = u at *
  generalize hv : l[j] = v at *
  have ux : (x = 0 ∨ x = 1) := by omega
  have uy : (y = 0 ∨ y = 1) := by omega
  have uu : (u = 0 ∨ u = 1) := by omega
  have uv : (v = 0 ∨ v = 1) := by omega
  by_cases c1 : x = u
  · rw [same1 c1] at h ⊢
    by_cases c2 : y = v
    · rw [same2 c2]
    · exfalso
      rcases uy with rfl | rfl <;> rcases uv with rfl | rfl <;> simp only [Nat.mul_zero, Nat.mul_one, Nat.add_zero] at a2 <;> omega
  · by_cases c2 : y = v
    · exfalso
      rw [same2 c2] at h
      rcases ux with rfl | rfl <;> rcases uu with rfl | rfl <;> simp only [Nat.mul_zero, Nat.mul_one, Nat.add_zero] at a1 <;> omega
    · by_cases c3 : i = j
      · subst c3
        have : u = v := hu.symm.trans hv
        have : x = y := by omega
        rw [this]
      · exfalso
        rcases ux with rfl | rfl <;> rcases uu with rfl | rfl <;> rcases uy with rfl | rfl <;> rcases uv with rfl | rfl <;> simp only [Nat.mul_zero, Nat.mul_one, Nat.add_zero] at a1 a2 <;> omega
def Let4 (l : List Nat) : Prop := ∀ x ∈ l, x < 4
theorem bit_le (k x : Nat) : bit k x ≤ 1 := by unfold bit; omega
theorem bits_map (k : Nat) (l : List Nat) : Bits (l.map (bit k)) := fun y hy => by
  obtain ⟨x, _, rfl⟩ := List.mem_map.mp hy
  exact bit_le k x
theorem map_dropAt (f : Nat → Nat) (l : List Nat) (i : Nat) : (dropAt l i).map f = dropAt (l.map f) i := by
  unfold dropAt; rw [List.map_append, List.map_take, List.map_drop]
theorem map_putAt (f : Nat → Nat) (l : List Nat) (i x : Nat) : (putAt l i x).map f = putAt (l.map f) i (f x) := by
  unfold putAt; rw [List.map_append, List.map_take, List.map_cons, List.map_drop]
theorem rows_inj : ∀ {a b : List Nat}, Let4 a → Let4 b → upper a = upper b → lower a = lower b → a = b
  | [], [], _, _, _, _ => rfl
  | [], _ :: _, _, _, h, _ => by simp [upper] at h
  | _ :: _, [], _, _, h, _ => by simp [upper] at h
  | x :: a, y :: b, ha, hb, hu, hw => by
    have u1 : bit 1 x = bit 1 y ∧ upper a = upper b := by
      unfold upper at hu; rw [List.map_cons, List.map_cons] at hu; exact List.cons.inj hu
    have w1 : bit 0 x = bit 0 y ∧ lower a = lower b := by
      unfold lower at hw; rw [List.map_cons, List.map_cons] at hw; exact List.cons.inj hw
    have hx := ha x (List.mem_cons_self ..)
    have hy := hb y (List.mem_cons_self ..)
    have e : x = y := by
      have a1 := u1.1; have a2 := w1.1
      unfold bit at a1 a2
      simp only [Nat.pow_one, Nat.pow_zero, Nat.div_one] at a1 a2
      omega
    rw [e, rows_inj (fun z hz => ha z (List.mem_cons_of_mem _ hz)) (fun z hz => hb z (List.mem_cons_of_mem _ hz)) u1.2 w1.2]
inductive Near (l : List Nat) : List Nat → Prop
  | same : Near l l
  | drop (i : Nat) (h : i < l.length) : Near l (dropAt l i)
  | put (i x : Nat) (h : i ≤ l.length) (hx : x < 4) : Near l (putAt l i x)
  | set (i x : Nat) (h : i < l.length) (hx : x < 4) : Near l (l.set i x)
theorem near_iff {l a : List Nat} : a ∈ nearby l ↔ Near l a := by
  unfold nearby
  constructor
  · intro h
    rcases List.mem_cons.mp h with rfl | h
    · exact .same
    rcases List.mem_append.mp h with h | h
    · obtain ⟨i, hi, rfl⟩ := List.mem_map.mp h
      exact .drop i (List.mem_range.mp hi)
    rcases List.mem_append.mp h with h | h
    · obtain ⟨i, hi, h⟩ := List.mem_flatMap.mp h
      obtain ⟨x, hx, rfl⟩ := List.mem_map.mp h
      have := List.mem_range.mp hi
      exact .put i x (by omega) (List.mem_range.mp hx)
    · obtain ⟨i, hi, h⟩ := List.mem_flatMap.mp h
      obtain ⟨x, hx, rfl⟩ := List.mem_map.mp h
      exact .set i x (List.mem_range.mp hi) (List.mem_range.mp hx)
  · intro h
    cases h with
    | same => exact List.mem_cons_self ..
    | drop i h => exact List.mem_cons_of_mem _ (List.mem_append.mpr (.inl (List.mem_map.mpr ⟨i, List.mem_range.mpr h, rfl⟩)))
    | put i x h hx => exact List.mem_cons_of_mem _ (List.mem_append.mpr (.inr (List.mem_append.mpr (.inl (List.mem_flatMap.mpr ⟨i, List.mem_range.mpr (by omega), List.mem_map.mpr ⟨x, List.mem_range.mpr hx, rfl⟩⟩)))))
    | set i x h hx => exact List.mem_cons_of_mem _ (List.mem_append.mpr (.inr (List.mem_append.mpr (.inr (List.mem_flatMap.mpr ⟨i, List.mem_range.mpr h, List.mem_map.mpr ⟨x, List.mem_range.mpr hx, rfl⟩⟩)))))
theorem Near.let4 {l a : List Nat} (h : Near l a) (hl : Let4 l) : Let4 a := by
  cases h with
  | same => exact hl
  | drop i h => intro x hx
                unfold dropAt at hx
                rcases List.mem_append.mp hx with e | e
                · exact hl x (List.mem_of_mem_take e)
                · exact hl x (List.mem_of_mem_drop e)
  | put i x h hx => intro y hy
                    rcases mem_putAt hy with e | e
                    · omega
                    · exact hl y e
  | set i x h hx => intro y hy
                    rcases List.mem_or_eq_of_mem_set hy with e | e
                    · exact hl y e
                    · omega
theorem right_iff {s : List Nat} : right s = true ↔ s.length = 64 ∧ Let4 s ∧ ws 1 (upper s) % 128 = 0 ∧ ws 1 (lower s) % 128 = 0 := by
  unfold right
  rw [Bool.and_eq_true, Bool.and_eq_true, Bool.and_eq_true, weight_eq, weight_eq, beq_iff_eq, beq_iff_eq, beq_iff_eq, List.all_eq_true]
  constructor
  · rintro ⟨h1, h2, h3, h4⟩
    exact ⟨h1, fun x hx => of_decide_eq_true (h2 x hx), h3, h4⟩
  · rintro ⟨h1, h2, h3, h4⟩
    exact ⟨h1, fun x hx => decide_eq_true (h2 x hx), h3, h4⟩
theorem Near.len {l a : List Nat} (h : Near l a) (la : a.length = 64) :
    (l.length = 64 ∧ ∃ i x, i < l.length ∧ a = l.set i x) ∨ (l.length = 65 ∧ ∃ i, i < l.length ∧ a = dropAt l i) ∨ (l.length = 63 ∧ ∃ i x, i ≤ l.length ∧ a = putAt l i x) := by
  cases h with
  | same => exact .inl ⟨la, 0, l[0], by omega, by rw [List.set_getElem_self]⟩
  | drop i h => exact .inr (.inl ⟨by have := dropAt_length h; omega, i, h, rfl⟩)
  | put i x h hx => exact .inr (.inr ⟨by have := putAt_length x h; omega, i, x, h, rfl⟩)
  | set i x h hx => exact .inl ⟨by rw [← la, List.length_set], i, x, h, rfl⟩
theorem row_uniq (f : Nat → Nat) (hf : ∀ x, f x ≤ 1) {l a b : List Nat} (ha : Near l a) (hb : Near l b) (la : a.length = 64) (lb : b.length = 64)
    (h : ws 1 (a.map f) % 128 = ws 1 (b.map f) % 128) : a.map f = b.map f := by
  have bl : Bits (l.map f) := fun y hy => by
    obtain ⟨x, _, rfl⟩ := List.mem_map.mp hy
    exact hf x
  have nl : (l.map f).length = l.length := List.length_map ..
  rcases ha.len la with ⟨n1, i, x, hi, rfl⟩ | ⟨n1, i, hi, rfl⟩ | ⟨n1, i, x, hi, rfl⟩ <;> rcases hb.len lb with ⟨n2, j, y, hj, rfl⟩ | ⟨n2, j, hj, rfl⟩ | ⟨n2, j, y, hj, rfl⟩ <;> try omega
  · rw [List.map_set, List.map_set] at h ⊢
    exact set_uniq bl (hf x) (hf y) (by omega) (by omega) (by omega) h
  · rw [map_dropAt, map_dropAt] at h ⊢
    exact drop_uniq bl (by omega) (by omega) (by omega) h
  · rw [map_putAt, map_putAt] at h ⊢
    exact put_uniq bl (hf x) (hf y) (by omega) (by omega) (by omega) h
theorem near_uniq {l a b : List Nat} (hl : Let4 l) (ha : Near l a) (hb : Near l b) (ra : right a = true) (rb : right b = true) : a = b := by
  obtain ⟨la, _, ua, wa⟩ := right_iff.mp ra
  obtain ⟨lb, _, ub, wb⟩ := right_iff.mp rb
  exact rows_inj (ha.let4 hl) (hb.let4 hl) (row_uniq (bit 1) (bit_le 1) ha hb la lb (by unfold upper at ua ub; rw [ua, ub])) (row_uniq (bit 0) (bit_le 0) ha hb la lb (by unfold lower at wa wb; rw [wa, wb]))
theorem mended_some {l a : List Nat} (hl : Let4 l) : mended l = some a ↔ Near l a ∧ right a = true := by
  unfold mended
  constructor
  · intro h
    exact ⟨near_iff.mp (List.mem_of_find?_eq_some h), List.find?_some h⟩
  · rintro ⟨h, r⟩
    cases q : (nearby l).find? right with
    | none =>
      have := List.find?_eq_none.mp q a (near_iff.mpr h)
      exact absurd r this
    | some b =>
      have h1 := near_iff.mp (List.mem_of_find?_eq_some q)
      have h2 := List.find?_some q
      rw [near_uniq hl h h1 r h2]
end SS
end
section
set_option maxRecDepth 10000
namespace SS
open Km348
theorem xor_lt {x y : Nat} (hx : x < 256) (hy : y < 256) : x ^^^ y < 256 := Nat.xor_lt_two_pow (n := 8) hx hy
theorem double_eq {x : Nat} (hx : x < 256) : double x = (x <<< 1) ^^^ ((x >>> 7) * 0x11B) := by
  unfold double
  rw [Nat.shiftRight_eq_div_pow, Nat.shiftLeft_eq]
  split
  · rw [show x / 2 ^ 7 = 0 by omega]; simp; omega
  · rw [show x / 2 ^ 7 = 1 by omega]; simp [Nat.mul_comm]
theorem bit01 {x : Nat} (hx : x < 256) : x >>> 7 = 0 ∨ x >>> 7 = 1 := by
  rw [Nat.shiftRight_eq_div_pow]; omega
theorem double_xor {x y : Nat} (hx : x < 256) (hy : y < 256) : double (x ^^^ y) = double x ^^^ double y := by
  rw [double_eq hx, double_eq hy, double_eq (xor_lt hx hy), Nat.shiftLeft_xor_distrib, Nat.shiftRight_xor_distrib]
  have e : (x >>> 7 ^^^ y >>> 7) * 0x11B = (x >>> 7) * 0x11B ^^^ (y >>> 7) * 0x11B := by
    rcases bit01 hx with e1 | e1 <;> rcases bit01 hy with e2 | e2 <;> rw [e1, e2] <;> decide
  rw [e]
  generalize x <<< 1 = a; generalize y <<< 1 = b; generalize (x >>> 7) * 0x11B = c; generalize (y >>> 7) * 0x11B = d
  rw [Nat.xor_assoc, Nat.xor_assoc, ← Nat.xor_assoc b c d, Nat.xor_comm b c, Nat.xor_assoc c b d]
theorem forall256 {p : Nat → Prop} [DecidablePred p] (h : (List.range 256).all (fun i => decide (p i)) = true) : ∀ x, x < 256 → p x := fun x hx =>
  of_decide_eq_true (List.all_eq_true.mp h x (List.mem_range.mpr hx))
theorem double_lt : ∀ x, x < 256 → double x < 256 := forall256 (by decide +kernel)
def tri (x : Nat) : Nat := double x ^^^ x
theorem tri_lt {x : Nat} (hx : x < 256) : tri x < 256 := xor_lt (double_lt x hx) hx
theorem tri_xor {x y : Nat} (hx : x < 256) (hy : y < 256) : tri (x ^^^ y) = tri x ^^^ tri y := by
  unfold tri
  rw [double_xor hx hy]
  generalize double x = a; generalize double y = b
  rw [Nat.xor_assoc, Nat.xor_assoc, ← Nat.xor_assoc b x y, Nat.xor_comm b x, Nat.xor_assoc x b y]
theorem tri_double : ∀ x, x < 256 → tri (double x) = double (tri x) := forall256 (by decide +kernel)
def tS : Nat → Nat → Nat → Nat → Nat
  | 0, _, _, _ => 0
  | n + 1, a, b, k => (if b.testBit k then a else 0) ^^^ tS n (double a) b (k + 1)
theorem tS_lt : ∀ (n a b k : Nat), a < 256 → tS n a b k < 256
  | 0, _, _, _, _ => (by decide : 0 < 256)
  | n + 1, a, b, k, h => by
    show (if b.testBit k then a else 0) ^^^ tS n (double a) b (k + 1) < 256
    refine xor_lt ?_ (tS_lt n _ b _ (double_lt a h))
    split
    · exact h
    · decide
theorem fold_tS (b : Nat) : ∀ (n k z a : Nat), ((List.range' k n).foldl (fun (z : Nat × Nat) i => (if b.testBit i then z.1 ^^^ z.2 else z.1, double z.2)) (z, a)).1 = z ^^^ tS n a b k
  | 0, k, z, a => by simp [tS]
  | n + 1, k, z, a => by
    rw [List.range'_succ, List.foldl_cons, fold_tS b n (k + 1)]
    show (if b.testBit k then z ^^^ a else z) ^^^ tS n (double a) b (k + 1) = z ^^^ ((if b.testBit k then a else 0) ^^^ tS n (double a) b (k + 1))
    split
    · rw [Nat.xor_assoc]
    · rw [Nat.zero_xor]
theorem times_tS (a b : Nat) : times a b = tS 8 a b 0 := by
  unfold times
  rw [List.range_eq_range', fold_tS, Nat.zero_xor]
theorem times_lt {a b : Nat} (h : a < 256) : times a b < 256 := by rw [times_tS]; exact tS_lt 8 a b 0 h
theorem tS_tri : ∀ (n a b k : Nat), a < 256 → tS n (tri a) b k = tri (tS n a b k)
  | 0, _, _, _, _ => (by decide : 0 = tri 0)
  | n + 1, a, b, k, h => by
    show (if b.testBit k then tri a else 0) ^^^ tS n (double (tri a)) b (k + 1) = tri ((if b.testBit k then a else 0) ^^^ tS n (double a) b (k + 1))
    rw [tri_xor (by split; exact h; decide) (tS_lt n _ b _ (double_lt a h)), ← tS_tri n (double a) b (k + 1) (double_lt a h), tri_double a h]
    congr 1
    split <;> rfl
theorem times_tri {a : Nat} (b : Nat) (h : a < 256) : times (tri a) b = tri (times a b) := by
  rw [times_tS, times_tS, tS_tri 8 a b 0 h]
theorem times_one : ∀ b, b < 256 → times 1 b = b := forall256 (by decide +kernel)
theorem tS_zero : ∀ (n b k : Nat), tS n 0 b k = 0
  | 0, _, _ => rfl
  | n + 1, b, k => by
    show (if b.testBit k then 0 else 0) ^^^ tS n (double 0) b (k + 1) = 0
    rw [show double 0 = 0 from rfl, tS_zero n b (k + 1)]
    split <;> rfl
theorem zero_times (b : Nat) : times 0 b = 0 := by rw [times_tS, tS_zero]
theorem times_zero : ∀ a, a < 256 → times a 0 = 0 := forall256 (by decide +kernel)
def gE : Nat → Nat
  | 0 => 1
  | n + 1 => tri (gE n)
theorem gE_lt : ∀ n, gE n < 256
  | 0 => by decide
  | n + 1 => tri_lt (gE_lt n)
theorem gE_times : ∀ (i j : Nat), times (gE i) (gE j) = gE (i + j)
  | 0, j => by rw [show gE 0 = 1 from rfl, times_one _ (gE_lt j), Nat.zero_add]
  | i + 1, j => by
    rw [show gE (i + 1) = tri (gE i) from rfl, times_tri _ (gE_lt i), gE_times i j, show i + 1 + j = i + j + 1 by omega]
    rfl
theorem gE_255 : gE 255 = 1 := by decide +kernel
theorem gE_add255 (n : Nat) : gE (n + 255) = gE n := by
  rw [← gE_times, gE_255, show (1 : Nat) = gE 0 from rfl, gE_times]
  rfl
theorem gE_mod (n : Nat) : gE (n % 255) = gE n := by
  have : ∀ q r, gE (r + 255 * q) = gE r := fun q => by
    induction q with
    | zero => intro r; rfl
    | succ q ih => intro r; rw [show r + 255 * (q + 1) = r + 255 * q + 255 by omega, gE_add255, ih]
  rw [← this (n / 255) (n % 255), Nat.mod_add_div]
theorem gE_power (k : Nat) : ∀ n, power n (gE k) = gE (k * n)
  | 0 => rfl
  | n + 1 => by
    show times (gE k) (power n (gE k)) = _
    rw [gE_power k n, gE_times, Nat.mul_succ, Nat.add_comm]
theorem gE_inverse (k : Nat) : inverse (gE k) = gE (254 * k) := by
  unfold inverse
  rw [gE_power, Nat.mul_comm]
def logT (i : Nat) : List Nat := (List.range i).foldl (fun l e => l.set (gE e) e) (List.replicate 256 0)
theorem logT_len : ∀ i, (logT i).length = 256 := fun i => by
  unfold logT
  have : ∀ (r l : List Nat), (r.foldl (fun l e => l.set (gE e) e) l).length = l.length := fun r => by
    induction r with
    | nil => intro l; rfl
    | cons a r ih => intro l; rw [List.foldl_cons, ih, List.length_set]
  rw [this, List.length_replicate]
theorem logT_succ (i : Nat) : logT (i + 1) = (logT i).set (gE i) i := by
  unfold logT
  rw [List.range_succ, List.foldl_append]
  rfl
def lg (a : Nat) : Nat := (logT 255).getD a 0
theorem lg_all : (List.range 256).all (fun a => decide (a = 0 ∨ (lg a < 255 ∧ gE (lg a) = a))) = true := by decide +kernel
theorem lg_ok {a : Nat} (h : a < 256) (h0 : a ≠ 0) : lg a < 255 ∧ gE (lg a) = a :=
  (of_decide_eq_true (List.all_eq_true.mp lg_all a (List.mem_range.mpr h))).resolve_left h0
theorem times_lg {a b : Nat} (ha : a < 256) (hb : b < 256) (a0 : a ≠ 0) (b0 : b ≠ 0) : times a b = gE (lg a + lg b) := by
  rw [← gE_times, (lg_ok ha a0).2, (lg_ok hb b0).2]
theorem times_comm {a b : Nat} (ha : a < 256) (hb : b < 256) : times a b = times b a := by
  by_cases a0 : a = 0
  · rw [a0, zero_times, times_zero b hb]
  · by_cases b0 : b = 0
    · rw [b0, zero_times, times_zero a ha]
    · rw [times_lg ha hb a0 b0, times_lg hb ha b0 a0, Nat.add_comm]
def gZ (z : Int) : Nat := gE (z % 255).toNat
theorem gZ_nat (n : Nat) : gZ (n : Int) = gE n := by
  unfold gZ
  rw [show ((n : Int) % 255).toNat = n % 255 by omega, gE_mod]
theorem gZ_lt (z : Int) : gZ z < 256 := gE_lt _
theorem gZ_add (x y : Int) : times (gZ x) (gZ y) = gZ (x + y) := by
  unfold gZ
  rw [gE_times, ← gE_mod]
  congr 1
  omega
theorem gZ_inv (x : Int) : inverse (gZ x) = gZ (-x) := by
  unfold gZ
  rw [gE_inverse, ← gE_mod]
  congr 1
  omega
theorem gZ_lg {a : Nat} (h : a < 256) (h0 : a ≠ 0) : gZ (lg a : Int) = a := by rw [gZ_nat, (lg_ok h h0).2]
end SS
end
section
set_option maxRecDepth 10000
namespace SS
open Km348
def coef (ps : List Nat) (t x : Nat) : Nat := ps.foldl (fun m y => if y = x then m else times m (times (t ^^^ y) (inverse (x ^^^ y)))) 1
theorem through_eq (l : List (Nat × Nat)) (p : Nat) : through l p = l.foldl (fun s x => s ^^^ times x.2 (coef (l.map (·.1)) p x.1)) 0 := by
  unfold through coef
  congr 1
  funext s x
  rw [List.foldl_map]
def dl (ps : List Nat) (t : Nat) : Int := ((ps.filter fun y => decide (y ≠ t)).map fun y => (lg (t ^^^ y) : Int)).sum
theorem xor_ne {a b : Nat} (h : a ≠ b) : a ^^^ b ≠ 0 := fun e => h (by
  have : a ^^^ b ^^^ b = b := by rw [e, Nat.zero_xor]
  rwa [Nat.xor_assoc, Nat.xor_self, Nat.xor_zero] at this)
theorem coef_acc (t x : Nat) (ht : t < 256) (hx : x < 256) : ∀ (ps : List Nat) (z : Int), (∀ y ∈ ps, y < 256) → t ∉ ps →
    ps.foldl (fun m y => if y = x then m else times m (times (t ^^^ y) (inverse (x ^^^ y)))) (gZ z) =
      gZ (z + ((ps.filter fun y => decide (y ≠ x)).map fun y => (lg (t ^^^ y) : Int) - (lg (x ^^^ y) : Int)).sum)
  | [], z, _, _ => by simp
  | y :: ps, z, hp, hn => by
    have hy := hp y (List.mem_cons_self ..)
    have hty : t ≠ y := fun e => hn (by rw [e]; exact List.mem_cons_self ..)
    have ih := fun z => coef_acc t x ht hx ps z (fun u hu => hp u (List.mem_cons_of_mem _ hu)) (fun h => hn (List.mem_cons_of_mem _ h))
    rw [List.foldl_cons, List.filter_cons]
    by_cases c : y = x
    · rw [if_pos c, if_neg (by simp [c]), ih]
    · rw [if_neg c, if_pos (by simp [c]), List.map_cons, List.sum_cons]
      have e1 : times (t ^^^ y) (inverse (x ^^^ y)) = gZ ((lg (t ^^^ y) : Int) - (lg (x ^^^ y) : Int)) := by
        have a1 := gZ_lg (xor_lt ht hy) (xor_ne hty)
        have a2 := gZ_lg (xor_lt hx hy) (xor_ne fun e => c e.symm)
        have a3 : inverse (x ^^^ y) = gZ (-(lg (x ^^^ y) : Int)) := by rw [← gZ_inv, a2]
        rw [a3, Int.sub_eq_add_neg, ← gZ_add, a1]
      rw [e1, gZ_add, ih, Int.add_assoc]
theorem coef_gZ {ps : List Nat} {t x : Nat} (ht : t < 256) (hx : x < 256) (hp : ∀ y ∈ ps, y < 256) (hn : t ∉ ps) :
    coef ps t x = gZ (((ps.filter fun y => decide (y ≠ x)).map fun y => (lg (t ^^^ y) : Int) - (lg (x ^^^ y) : Int)).sum) := by
  unfold coef
  rw [show (1 : Nat) = gZ 0 from rfl, coef_acc t x ht hx ps 0 hp hn, Int.zero_add]
theorem sum_sub {f g : Nat → Int} : ∀ l : List Nat, (l.map fun y => f y - g y).sum = (l.map f).sum - (l.map g).sum
  | [] => rfl
  | a :: l => by
    rw [List.map_cons, List.map_cons, List.map_cons, List.sum_cons, List.sum_cons, List.sum_cons, sum_sub l]
    omega
theorem sum_but (f : Nat → Int) {x : Nat} : ∀ {l : List Nat}, l.Nodup → x ∈ l → ((l.filter fun y => decide (y ≠ x)).map f).sum = (l.map f).sum - f x
  | [], _, h => by simp at h
  | a :: l, nd, h => by
    obtain ⟨n1, n2⟩ := List.nodup_cons.mp nd
    rw [List.filter_cons, List.map_cons, List.sum_cons]
    by_cases c : a = x
    · subst c
      rw [if_neg (by simp)]
      have : l.filter (fun y => decide (y ≠ a)) = l := List.filter_eq_self.mpr fun y hy => by
        simp only [ne_eq, decide_not, Bool.not_eq_eq_eq_not, Bool.not_true, decide_eq_false_iff_not]
        intro e; exact n1 (by rw [← e]; exact hy)
      rw [this]; omega
    · rw [if_pos (by simp [c]), List.map_cons, List.sum_cons]
      rcases List.mem_cons.mp h with e | e
      · exact absurd e.symm c
      · rw [sum_but f n2 e]; omega
theorem dl_none {ps : List Nat} {t : Nat} (hn : t ∉ ps) : dl ps t = (ps.map fun y => (lg (t ^^^ y) : Int)).sum := by
  unfold dl
  rw [List.filter_eq_self.mpr fun y hy => by
    simp only [ne_eq, decide_not, Bool.not_eq_eq_eq_not, Bool.not_true, decide_eq_false_iff_not]
    intro e; exact hn (by rw [← e]; exact hy)]
theorem coef_dl {ps : List Nat} {t x : Nat} (ht : t < 256) (hp : ∀ y ∈ ps, y < 256) (nd : ps.Nodup) (hn : t ∉ ps) (hx : x ∈ ps) :
    coef ps t x = gZ (dl ps t - (lg (t ^^^ x) : Int) - dl ps x) := by
  rw [coef_gZ ht (hp x hx) hp hn, sum_sub, sum_but (fun y => (lg (t ^^^ y) : Int)) nd hx, dl_none hn]
  rfl
theorem coef_lt {ps : List Nat} {t x : Nat} (ht : t < 256) (hp : ∀ y ∈ ps, y < 256) (nd : ps.Nodup) (hn : t ∉ ps) (hx : x ∈ ps) : coef ps t x < 256 := by
  rw [coef_dl ht hp nd hn hx]; exact gZ_lt _
end SS
end
section
set_option maxRecDepth 10000
namespace SS
open Km348
def interp (l : List (Nat × List Nat)) (t i : Nat) : Nat := l.foldl (fun s x => s ^^^ times (x.2.getD i 0) (coef (l.map (·.1)) t x.1)) 0
theorem loadAt_some {l : List (Nat × List Nat)} {p : Nat} {x : Nat × List Nat} (h : l.find? (fun x => x.1 == p) = some x) : loadAt l p = x.2 := by
  unfold loadAt; rw [h]
theorem loadAt_none {l : List (Nat × List Nat)} {p : Nat} (h : p ∉ l.map (·.1)) : loadAt l p = (List.range 12).map (interp l p) := by
  unfold loadAt
  have e : l.find? (fun x => x.1 == p) = none := by
    rw [List.find?_eq_none]
    intro x hx c
    exact h (List.mem_map.mpr ⟨x, hx, eq_of_beq c⟩)
  rw [e]
  show (List.range 12).map (fun i => through (l.map fun x => (x.1, x.2.getD i 0)) p) = _
  congr 1
  funext i
  unfold interp
  rw [through_eq, List.foldl_map, List.map_map]
  rfl
def tot (l : List (Nat × List Nat)) (t m : Nat) : List Nat := (List.range 12).map fun i => (l.take m).foldl (fun s x => s ^^^ times (x.2.getD i 0) (coef (l.map (·.1)) t x.1)) 0
theorem tot_zero (l : List (Nat × List Nat)) (t : Nat) : tot l t 0 = List.replicate 12 0 := by
  unfold tot; rfl
theorem tot_all (l : List (Nat × List Nat)) (t : Nat) : tot l t l.length = (List.range 12).map (interp l t) := by
  unfold tot interp; rw [List.take_length]
theorem tot_len (l : List (Nat × List Nat)) (t m : Nat) : (tot l t m).length = 12 := by unfold tot; rw [List.length_map, List.length_range]
theorem tot_succ {l : List (Nat × List Nat)} {t m : Nat} {x : Nat × List Nat} (hx : l[m]? = some x) (hl : x.2.length = 12) (hb : ∀ b ∈ x.2, b < 256) (hc : coef (l.map (·.1)) t x.1 < 256) :
    tot l t (m + 1) = ((tot l t m).zip x.2).map fun z => z.1 ^^^ times (coef (l.map (·.1)) t x.1) z.2 := by
  apply List.ext_getElem?
  intro i
  by_cases hi : i < 12
  · have e1 : (tot l t (m + 1))[i]? = some ((l.take (m + 1)).foldl (fun s x => s ^^^ times (x.2.getD i 0) (coef (l.map (·.1)) t x.1)) 0) := by
      unfold tot; rw [List.getElem?_map, List.getElem?_range hi]; rfl
    have e2 : (tot l t m)[i]? = some ((l.take m).foldl (fun s x => s ^^^ times (x.2.getD i 0) (coef (l.map (·.1)) t x.1)) 0) := by
      unfold tot; rw [List.getElem?_map, List.getElem?_range hi]; rfl
    have e3 : x.2[i]? = some (x.2.getD i 0) := by
      rw [List.getD_eq_getElem?_getD, List.getElem?_eq_getElem (by omega)]; rfl
    have hm : x.2.getD i 0 < 256 := hb _ (List.mem_of_getElem? e3)
    have e4 : ((tot l t m).zip x.2)[i]? = some ((l.take m).foldl (fun s x => s ^^^ times (x.2.getD i 0) (coef (l.map (·.1)) t x.1)) 0, x.2.getD i 0) := List.getElem?_zip_eq_some.mpr ⟨e2, e3⟩
    rw [e1, List.getElem?_map, e4, List.take_add_one, hx, List.foldl_append]
    show some (_ ^^^ times (x.2.getD i 0) (coef (l.map (·.1)) t x.1)) = some (_ ^^^ times (coef (l.map (·.1)) t x.1) (x.2.getD i 0))
    rw [times_comm hm hc]
  · rw [List.getElem?_eq_none (by rw [tot_len]; omega), List.getElem?_eq_none]
    rw [List.length_map, List.length_zip, tot_len]
    omega
theorem tot_lt {l : List (Nat × List Nat)} {t : Nat} (hb : ∀ x ∈ l, ∀ b ∈ x.2, b < 256) : ∀ m, ∀ z ∈ tot l t m, z < 256 := by
  intro m z hz
  unfold tot at hz
  obtain ⟨i, _, rfl⟩ := List.mem_map.mp hz
  have : ∀ (r : List (Nat × List Nat)) (s : Nat), s < 256 → (∀ x ∈ r, ∀ b ∈ x.2, b < 256) → r.foldl (fun s x => s ^^^ times (x.2.getD i 0) (coef (l.map (·.1)) t x.1)) s < 256 := fun r => by
    induction r with
    | nil => intro s hs _; exact hs
    | cons a r ih =>
      intro s hs hr
      rw [List.foldl_cons]
      refine ih _ (xor_lt hs (times_lt ?_)) fun x hx => hr x (List.mem_cons_of_mem _ hx)
      by_cases c : i < a.2.length
      · rw [List.getD_eq_getElem?_getD, List.getElem?_eq_getElem c]
        exact hr a (List.mem_cons_self ..) _ (List.getElem_mem c)
      · rw [List.getD_eq_getElem?_getD, List.getElem?_eq_none (by omega)]
        decide
  exact this _ 0 (by decide) fun x hx => hb x (List.mem_of_mem_take hx)
end SS
end
section
set_option maxRecDepth 10000
namespace SS
open Km348
def cnt : Nat → Nat → Nat
  | _, 0 => 0
  | i, m + 1 => (if isPower i = true then 0 else 1) + cnt (i + 1) m
theorem place_len : ∀ (l : List Nat) (i n : Nat), (place l i n).length = n
  | _, _, 0 => rfl
  | l, i, n + 1 => by
    unfold place
    split
    · rw [List.length_cons, place_len l (i + 1) n]
    · rw [List.length_cons, place_len l.tail (i + 1) n]
theorem place_snoc : ∀ (l : List Nat) (i m : Nat), place l i (m + 1) = place l i m ++ [if isPower (i + m) = true then 0 else (l.drop (cnt i m)).headD 0]
  | l, i, 0 => by
    show (if isPower i = true then 0 :: [] else l.headD 0 :: []) = [] ++ [if isPower (i + 0) = true then 0 else (l.drop 0).headD 0]
    rw [Nat.add_zero, List.drop_zero]
    split <;> rfl
  | l, i, m + 1 => by
    have step : ∀ l k, place l i (k + 1) = if isPower i = true then 0 :: place l (i + 1) k else l.headD 0 :: place l.tail (i + 1) k := fun _ _ => rfl
    rw [step, step]
    by_cases h : isPower i = true
    · rw [if_pos h, if_pos h, place_snoc l (i + 1) m, List.cons_append]
      rw [show cnt i (m + 1) = cnt (i + 1) m by show (if isPower i = true then 0 else 1) + cnt (i + 1) m = _; rw [if_pos h]; omega, show i + 1 + m = i + (m + 1) by omega]
    · rw [if_neg h, if_neg h, place_snoc l.tail (i + 1) m, List.cons_append]
      rw [show cnt i (m + 1) = cnt (i + 1) m + 1 by show (if isPower i = true then 0 else 1) + cnt (i + 1) m = _; rw [if_neg h]; omega, show i + 1 + m = i + (m + 1) by omega]
      rw [← List.drop_one, List.drop_drop, Nat.add_comm 1]
theorem place_zero : ∀ (l : List Nat) (i n : Nat), place (l ++ [0]) i n = place l i n
  | _, _, 0 => rfl
  | [], i, n + 1 => by
    show (if isPower i = true then 0 :: place [0] (i + 1) n else 0 :: place [] (i + 1) n) = if isPower i = true then 0 :: place [] (i + 1) n else 0 :: place [] (i + 1) n
    rw [show place [0] (i + 1) n = place [] (i + 1) n from place_zero [] (i + 1) n]
  | a :: l, i, n + 1 => by
    show (if isPower i = true then 0 :: place ((a :: l) ++ [0]) (i + 1) n else a :: place (l ++ [0]) (i + 1) n) = if isPower i = true then 0 :: place (a :: l) (i + 1) n else a :: place l (i + 1) n
    rw [place_zero (a :: l) (i + 1) n, place_zero l (i + 1) n]
theorem cnt_lt : (List.range 64).all (fun m => isPower (1 + m) || decide (cnt 1 m < 57)) = true := by decide +kernel
theorem cnt_57 {m : Nat} (h : m < 64) (hp : ¬ isPower (1 + m) = true) : cnt 1 m < 57 := by
  have := List.all_eq_true.mp cnt_lt m (List.mem_range.mpr h)
  rw [Bool.or_eq_true] at this
  exact of_decide_eq_true (this.resolve_left hp)
theorem cnt_succ : ∀ (i m : Nat), cnt i (m + 1) = cnt i m + (if isPower (i + m) = true then 0 else 1)
  | i, 0 => by
    show (if isPower i = true then 0 else 1) + 0 = 0 + (if isPower (i + 0) = true then 0 else 1)
    rw [Nat.add_zero, Nat.zero_add]; rfl
  | i, m + 1 => by
    show (if isPower i = true then 0 else 1) + cnt (i + 1) (m + 1) = (if isPower i = true then 0 else 1) + cnt (i + 1) m + (if isPower (i + (m + 1)) = true then 0 else 1)
    rw [cnt_succ (i + 1) m, show i + 1 + m = i + (m + 1) by omega]
    omega
theorem place_bits : ∀ {l : List Nat} (i n : Nat), Bits l → Bits (place l i n)
  | _, _, 0, _ => fun x hx => by simp [place] at hx
  | l, i, n + 1, h => by
    have ht : Bits l.tail := fun x hx => h x (List.mem_of_mem_tail hx)
    have hh : l.headD 0 ≤ 1 := by
      cases l with
      | nil => exact Nat.zero_le _
      | cons a r => exact h a (List.mem_cons_self ..)
    intro x hx
    unfold place at hx
    split at hx
    · rcases List.mem_cons.mp hx with e | e
      · omega
      · exact place_bits (i + 1) n h x e
    · rcases List.mem_cons.mp hx with e | e
      · omega
      · exact place_bits (i + 1) n ht x e
theorem place_power : ∀ (l : List Nat) (i n j : Nat), j < n → isPower (i + j) = true → (place l i n)[j]? = some 0
  | _, _, 0, _, h, _ => by omega
  | l, i, n + 1, 0, _, hp => by
    unfold place
    rw [if_pos (by simpa using hp)]; rfl
  | l, i, n + 1, j + 1, h, hp => by
    have hp' : isPower (i + 1 + j) = true := by rw [show i + 1 + j = i + (j + 1) by omega]; exact hp
    unfold place
    split
    · rw [List.getElem?_cons_succ]; exact place_power l (i + 1) n j (by omega) hp'
    · rw [List.getElem?_cons_succ]; exact place_power l.tail (i + 1) n j (by omega) hp'
def WP : List Nat := [1, 2, 4, 8, 16, 32, 64]
def put1 (w : Nat) (r : List Nat) (p : Nat) : List Nat := if w &&& p ≠ 0 then r.set (p - 1) 1 else r
def bal (w : Nat) (t : Nat) (r : List Nat) : List Nat := (WP.take t).foldl (put1 w) r
theorem bal_succ {w t p : Nat} (r : List Nat) (h : WP[t]? = some p) : bal w (t + 1) r = put1 w (bal w t r) p := by
  unfold bal
  rw [List.take_add_one, h, List.foldl_append]; rfl
theorem put1_len (w : Nat) (r : List Nat) (p : Nat) : (put1 w r p).length = r.length := by
  unfold put1; split <;> simp
theorem bal_len (w t : Nat) (r : List Nat) : (bal w t r).length = r.length := by
  unfold bal
  generalize WP.take t = l
  induction l generalizing r with
  | nil => rfl
  | cons a l ih => rw [List.foldl_cons, ih, put1_len]
theorem put1_get {w p j : Nat} (r : List Nat) (hj : j < r.length) : (put1 w r p)[j]? = if w &&& p ≠ 0 ∧ p - 1 = j then some 1 else r[j]? := by
  unfold put1
  by_cases c : w &&& p ≠ 0
  · rw [if_pos c]
    by_cases d : p - 1 = j
    · rw [if_pos ⟨c, d⟩, d, List.getElem?_set_self hj]
    · rw [if_neg (fun x => d x.2), List.getElem?_set_ne d]
  · rw [if_neg c, if_neg (fun x => c x.1)]
theorem fold_put {w j : Nat} : ∀ (ps : List Nat) (r : List Nat), j < r.length → (ps.foldl (put1 w) r)[j]? = if ps.any (fun p => decide (w &&& p ≠ 0 ∧ p - 1 = j)) = true then some 1 else r[j]?
  | [], r, _ => by simp
  | p :: ps, r, hj => by
    rw [List.foldl_cons, fold_put ps _ (by rw [put1_len]; exact hj), put1_get r hj, List.any_cons]
    by_cases c : ps.any (fun p => decide (w &&& p ≠ 0 ∧ p - 1 = j)) = true
    · rw [if_pos c, if_pos (by rw [c, Bool.or_true])]
    · rw [if_neg c]
      by_cases d : w &&& p ≠ 0 ∧ p - 1 = j
      · rw [if_pos d, if_pos (by rw [decide_eq_true d, Bool.true_or])]
      · rw [if_neg d, if_neg (by rw [decide_eq_false d, Bool.false_or]; exact c)]
theorem isPower_iff (i : Nat) : isPower i = true ↔ i ∈ WP := by
  unfold isPower
  show List.contains WP i = true ↔ _
  rw [List.contains_iff_mem]
theorem any_WP (w j : Nat) : WP.any (fun p => decide (w &&& p ≠ 0 ∧ p - 1 = j)) = (isPower (j + 1) && decide ((j + 1) &&& w ≠ 0)) := by
  rw [Bool.eq_iff_iff, List.any_eq_true, Bool.and_eq_true, isPower_iff, decide_eq_true_eq]
  constructor
  · rintro ⟨p, hp, h⟩
    obtain ⟨h1, h2⟩ := of_decide_eq_true h
    have hp0 : p ≠ 0 := fun e => by rw [e] at hp; revert hp; decide
    have : p = j + 1 := by omega
    subst this
    exact ⟨hp, by rw [Nat.and_comm]; exact h1⟩
  · rintro ⟨hp, h⟩
    exact ⟨j + 1, hp, decide_eq_true ⟨by rw [Nat.and_comm]; exact h, by omega⟩⟩
theorem balanced_eq (l : List Nat) : balanced (place l 1 64) = bal ((128 - ws 1 (place l 1 64) % 128) % 128) 7 (place l 1 64) := by
  unfold balanced
  rw [weight_eq]
  generalize (128 - ws 1 (place l 1 64) % 128) % 128 = w
  apply List.ext_getElem?
  intro j
  have hl := place_len l 1 64
  unfold bal
  rw [show WP.take 7 = WP from rfl]
  by_cases hj : j < 64
  · rw [fold_put WP _ (by omega), any_WP, List.getElem?_map]
    have e : ((List.range (place l 1 64).length).zip (place l 1 64))[j]? = some (j, (place l 1 64)[j]'(by omega)) := by
      rw [List.getElem?_zip_eq_some]
      exact ⟨List.getElem?_range (by omega), List.getElem?_eq_getElem (by omega)⟩
    rw [e]
    show some (if isPower (j + 1) = true then (if (j + 1) &&& w = 0 then 0 else 1) else (place l 1 64)[j]'(by omega)) = _
    by_cases c : isPower (j + 1) = true
    · rw [if_pos c, c, Bool.true_and, place_power l 1 64 j hj (by rw [Nat.add_comm]; exact c)]
      by_cases d : (j + 1) &&& w = 0
      · rw [if_pos d, if_neg (by simp [d])]
      · rw [if_neg d, if_pos (decide_eq_true d)]
    · rw [if_neg c, if_neg (by simp [c]), List.getElem?_eq_getElem]
  · rw [List.getElem?_eq_none (by rw [List.length_map, List.length_zip, List.length_range]; omega), List.getElem?_eq_none]
    have := bal_len w 7 (place l 1 64)
    unfold bal at this
    rw [show WP.take 7 = WP from rfl] at this
    omega
theorem bal_bits {w t : Nat} {r : List Nat} (h : Bits r) : Bits (bal w t r) := by
  unfold bal
  generalize WP.take t = l
  induction l generalizing r with
  | nil => exact h
  | cons a l ih =>
    rw [List.foldl_cons]
    apply ih
    unfold put1
    split
    · intro x hx
      rcases List.mem_or_eq_of_mem_set hx with e | e
      · exact h x e
      · omega
    · exact h
theorem bitsOf_snoc (l : List Nat) (b : Nat) : bitsOf (l ++ [b]) = bitsOf l ++ (List.range 8).map fun i => bit (7 - i) b := by
  unfold bitsOf
  rw [List.flatMap_append, List.flatMap_cons, List.flatMap_nil, List.append_nil]
theorem bitsOf_len : ∀ l : List Nat, (bitsOf l).length = 8 * l.length
  | [] => rfl
  | b :: l => by
    have ih := bitsOf_len l
    unfold bitsOf at ih ⊢
    rw [List.flatMap_cons, List.length_append, ih, List.length_map, List.length_range, List.length_cons]
    omega
theorem bitsOf_bits (l : List Nat) : Bits (bitsOf l) := fun x hx => by
  unfold bitsOf at hx
  obtain ⟨b, _, h⟩ := List.mem_flatMap.mp hx
  obtain ⟨i, _, rfl⟩ := List.mem_map.mp h
  exact bit_le _ _
end SS
end
section
set_option maxRecDepth 10000
namespace SS
open Km348
def tk : Nat → List Nat → List Nat
  | _, [] => []
  | k, x :: r => if isPower k = true then tk (k + 1) r else x :: tk (k + 1) r
theorem tk_snoc : ∀ (k : Nat) (l : List Nat) (x : Nat), tk k (l ++ [x]) = tk k l ++ (if isPower (k + l.length) = true then [] else [x])
  | k, [], x => by
    show (if isPower k = true then [] else [x]) = [] ++ (if isPower (k + 0) = true then [] else [x])
    rfl
  | k, y :: l, x => by
    show (if isPower k = true then tk (k + 1) (l ++ [x]) else y :: tk (k + 1) (l ++ [x])) = (if isPower k = true then tk (k + 1) l else y :: tk (k + 1) l) ++ (if isPower (k + (l.length + 1)) = true then [] else [x])
    rw [tk_snoc (k + 1) l x, show k + 1 + l.length = k + (l.length + 1) by omega]
    by_cases c : isPower k = true
    · rw [if_pos c, if_pos c]
    · rw [if_neg c, if_neg c]; rfl
theorem tk_len : ∀ (k : Nat) (l : List Nat), (tk k l).length ≤ l.length
  | _, [] => Nat.le_refl _
  | k, x :: l => by
    have := tk_len (k + 1) l
    unfold tk
    split
    · rw [List.length_cons]; omega
    · rw [List.length_cons, List.length_cons]; omega
theorem taken_go : ∀ (l : List Nat) (k : Nat), ((((List.range' k l.length).zip l).filter fun x => !(isPower (x.1 + 1))).map Prod.snd) = tk (k + 1) l
  | [], _ => rfl
  | x :: l, k => by
    rw [List.length_cons, List.range'_succ, List.zip_cons_cons, List.filter_cons]
    unfold tk
    have ih := taken_go l (k + 1)
    by_cases c : isPower (k + 1) = true
    · rw [if_neg (by simp [c]), if_pos c, ih]
    · rw [if_pos (by simp [c]), if_neg c, List.map_cons, ih]
theorem taken_eq (l : List Nat) : taken l = tk 1 l := by
  unfold taken
  rw [List.range_eq_range', taken_go l 0]
theorem tk_cnt : ∀ (l : List Nat) (k : Nat), (tk k l).length = cnt k l.length
  | [], _ => rfl
  | x :: l, k => by
    have ih := tk_cnt l (k + 1)
    show (if isPower k = true then tk (k + 1) l else x :: tk (k + 1) l).length = (if isPower k = true then 0 else 1) + cnt (k + 1) l.length
    by_cases c : isPower k = true
    · rw [if_pos c, if_pos c, ih]; omega
    · rw [if_neg c, if_neg c, List.length_cons, ih]; omega
theorem taken_57 {l : List Nat} (h : l.length = 64) : (taken l).length = 57 := by
  rw [taken_eq, tk_cnt, h]; decide +kernel
theorem mem_tk : ∀ (l : List Nat) (k x : Nat), x ∈ tk k l → x ∈ l
  | [], _, _, h => by simp [tk] at h
  | y :: l, k, x, h => by
    unfold tk at h
    split at h
    · exact List.mem_cons_of_mem _ (mem_tk l (k + 1) x h)
    · rcases List.mem_cons.mp h with e | e
      · rw [e]; exact List.mem_cons_self ..
      · exact List.mem_cons_of_mem _ (mem_tk l (k + 1) x e)
theorem taken_bits {l : List Nat} (h : Bits l) : Bits (taken l) := fun x hx => h x (mem_tk l 1 x (by rw [← taken_eq]; exact hx))
theorem byteOf_snoc (l : List Nat) (b : Nat) : byteOf (l ++ [b]) = 2 * byteOf l + b := by
  unfold byteOf; rw [List.foldl_append]; rfl
theorem bytesOf_eq : ∀ (n : Nat) (l : List Nat), bytesOf n l = (List.range n).map fun i => byteOf ((l.drop (8 * i)).take 8)
  | 0, _ => rfl
  | n + 1, l => by
    rw [List.range_succ_eq_map, List.map_cons, List.map_map]
    show byteOf (l.take 8) :: bytesOf n (l.drop 8) = _
    rw [bytesOf_eq n]
    congr 1
    apply List.map_congr_left
    intro i _
    show byteOf (((l.drop 8).drop (8 * i)).take 8) = byteOf ((l.drop (8 * (i + 1))).take 8)
    rw [List.drop_drop, show 8 + 8 * i = 8 * (i + 1) by omega]
theorem byteOf_lt : ∀ (l : List Nat), Bits l → byteOf l < 2 ^ l.length := by
  intro l
  have : ∀ (l : List Nat) (s : Nat), Bits l → l.foldl (fun s b => 2 * s + b) s < (s + 1) * 2 ^ l.length := by
    intro l
    induction l with
    | nil => intro s _; simp
    | cons b l ih =>
      intro s hb
      have h1 := hb b (List.mem_cons_self ..)
      have h2 := ih (2 * s + b) fun x hx => hb x (List.mem_cons_of_mem _ hx)
      rw [List.foldl_cons, List.length_cons, Nat.pow_succ]
      refine Nat.lt_of_lt_of_le h2 ?_
      have h3 : (2 * s + b + 1) ≤ (s + 1) * 2 := by omega
      calc (2 * s + b + 1) * 2 ^ l.length ≤ (s + 1) * 2 * 2 ^ l.length := Nat.mul_le_mul_right _ h3
        _ = (s + 1) * (2 ^ l.length * 2) := by rw [Nat.mul_assoc, Nat.mul_comm 2]
  intro hb
  have := this l 0 hb
  simpa [byteOf] using this
theorem bytesOf_len (n : Nat) (l : List Nat) : (bytesOf n l).length = n := by rw [bytesOf_eq, List.length_map, List.length_range]
theorem bytesOf_lt {n : Nat} {l : List Nat} (h : Bits l) : ∀ x ∈ bytesOf n l, x < 256 := by
  rw [bytesOf_eq]
  intro x hx
  obtain ⟨i, _, rfl⟩ := List.mem_map.mp hx
  refine Nat.lt_of_lt_of_le (byteOf_lt _ fun y hy => h y (List.mem_of_mem_drop (List.mem_of_mem_take hy))) ?_
  have : ((l.drop (8 * i)).take 8).length ≤ 8 := by rw [List.length_take]; omega
  exact Nat.le_trans (Nat.pow_le_pow_right (by decide) this) (by decide)
def content (U L : List Nat) : Option (List Nat) := if (taken U).getD 56 0 = 0 ∧ (taken L).getD 56 0 = 0 then some (bytesOf 14 ((taken U).take 56 ++ (taken L).take 56)) else none
theorem inside_eq (s : List Nat) : inside s = (content (upper s) (lower s)).map fun l => (l.getD 0 0 + 256 * l.getD 1 0, l.drop 2) := by
  unfold inside content
  by_cases c : (taken (upper s)).getD 56 0 = 0 ∧ (taken (lower s)).getD 56 0 = 0
  · rw [if_pos c, if_pos c]; rfl
  · rw [if_neg c, if_neg c]; rfl
theorem content_some {U L l : List Nat} (hU : Bits U) (hL : Bits L) (h : content U L = some l) : l.length = 14 ∧ ∀ x ∈ l, x < 256 := by
  unfold content at h
  split at h
  · have h := Option.some.inj h
    subst h
    refine ⟨bytesOf_len _ _, bytesOf_lt fun x hx => ?_⟩
    rcases List.mem_append.mp hx with e | e
    · exact taken_bits hU x (List.mem_of_mem_take e)
    · exact taken_bits hL x (List.mem_of_mem_take e)
  · cases h
theorem numberOf_some {c n : Nat} (h : numberOf c = some n) : n < 4 ∧ LETTER[n]? = some c := by
  unfold numberOf at h
  obtain ⟨h1, h2, _⟩ := List.findIdx?_eq_some_iff_getElem.mp h
  refine ⟨h1, ?_⟩
  rw [List.getElem?_eq_getElem h1, eq_of_beq h2]
theorem numberOf_none {c : Nat} : numberOf c = none ↔ c ∉ LETTER := by
  unfold numberOf
  rw [List.findIdx?_eq_none_iff]
  constructor
  · intro h m
    have := h c m
    simp at this
  · intro h x hx
    rw [beq_eq_false_iff_ne]
    intro e
    exact h (e ▸ hx)
theorem readAs_cons (c : Nat) (l : List Nat) : readAs (c :: l) = (numberOf c).bind fun n => (readAs l).map fun r => n :: r := by
  unfold readAs
  rw [List.map_cons]
  cases e : numberOf c with
  | none => rfl
  | some n => rfl
theorem readAs_none : ∀ {l : List Nat}, readAs l = none ↔ ¬ ∀ x ∈ l, x ∈ LETTER
  | [] => by
    constructor
    · intro h; cases h
    · intro h; exact absurd (fun x hx => by simp at hx) h
  | c :: l => by
    rw [readAs_cons]
    have ih := readAs_none (l := l)
    cases e : numberOf c with
    | none =>
      have := numberOf_none.mp e
      exact ⟨fun _ h => this (h c (List.mem_cons_self ..)), fun _ => rfl⟩
    | some n =>
      have hc : c ∈ LETTER := List.mem_of_getElem? (numberOf_some e).2
      cases e2 : readAs l with
      | none =>
        refine ⟨fun _ h => ih.mp e2 fun x hx => h x (List.mem_cons_of_mem _ hx), fun _ => rfl⟩
      | some r =>
        constructor
        · intro h; cases h
        · intro h
          refine absurd (fun x hx => ?_) h
          rcases List.mem_cons.mp hx with e3 | e3
          · rw [e3]; exact hc
          · have : ¬ readAs l = none := by rw [e2]; intro z; cases z
            rw [ih] at this
            exact Classical.not_not.mp this x e3
theorem readAs_get : ∀ {l s : List Nat}, readAs l = some s → s.length = l.length ∧ ∀ (m x : Nat), l[m]? = some x → ∃ n, s[m]? = some n ∧ n < 4 ∧ LETTER[n]? = some x
  | [], s, h => by
    have h := Option.some.inj h
    subst h
    exact ⟨rfl, fun m x e => by simp at e⟩
  | c :: l, s, h => by
    rw [readAs_cons] at h
    cases e : numberOf c with
    | none => rw [e] at h; cases h
    | some n =>
      rw [e] at h
      cases e2 : readAs l with
      | none => rw [e2] at h; cases h
      | some r =>
        rw [e2] at h
        have h := Option.some.inj h
        subst h
        obtain ⟨h1, h2⟩ := readAs_get e2
        refine ⟨by rw [List.length_cons, List.length_cons, h1], fun m x hm => ?_⟩
        cases m with
        | zero =>
          have hm : c = x := Option.some.inj hm
          subst hm
          exact ⟨n, rfl, (numberOf_some e)⟩
        | succ m => exact h2 m x hm
theorem readAs_let4 {l s : List Nat} (h : readAs l = some s) : Let4 s := fun x hx => by
  obtain ⟨h1, h2⟩ := readAs_get h
  obtain ⟨m, hm⟩ := List.mem_iff_getElem?.mp hx
  have hl : m < l.length := by rw [← h1]; exact (List.getElem?_eq_some_iff.mp hm).1
  obtain ⟨n, e1, e2, _⟩ := h2 m _ (List.getElem?_eq_getElem hl)
  rw [hm] at e1
  rw [Option.some.inj e1]
  exact e2
end SS
end
section
set_option maxRecDepth 10000
namespace SS
open Km348
def tries (l : List Nat) (i : Nat) : List (List Nat) :=
  if l.length = 65 then [dropAt l i] else if l.length = 63 then [putAt l i 0, putAt l i 1] else [l.set i 0, l.set i 1]
def rowAt (l : List Nat) (i : Nat) : Option (List Nat) := (tries l i).find? fun t => decide (ws 1 t % 128 = 0)
theorem bit1_of {x y : Nat} (hx : x ≤ 1) (hy : y ≤ 1) : bit 1 (2 * x + y) = x := by unfold bit; omega
theorem bit0_of {x y : Nat} (hx : x ≤ 1) (hy : y ≤ 1) : bit 0 (2 * x + y) = y := by
  unfold bit; rw [Nat.pow_zero, Nat.div_one]; omega
theorem upper_len (s : List Nat) : (upper s).length = s.length := List.length_map ..
theorem lower_len (s : List Nat) : (lower s).length = s.length := List.length_map ..
theorem mem2 {α : Type} {a b x : α} (h : x ∈ [a, b]) : x = a ∨ x = b := by simpa using h
theorem both_right {s u l : List Nat} {i : Nat} (h4 : Let4 s) (hl : 63 ≤ s.length ∧ s.length ≤ 65) (hi : i < max s.length 64) (hu : rowAt (upper s) i = some u) (hw : rowAt (lower s) i = some l) :
    ∃ t, mended s = some t ∧ upper t = u ∧ lower t = l := by
  unfold rowAt at hu hw
  have mu := List.mem_of_find?_eq_some hu
  have mw := List.mem_of_find?_eq_some hw
  have wu : ws 1 u % 128 = 0 := by simpa using List.find?_some hu
  have ww : ws 1 l % 128 = 0 := by simpa using List.find?_some hw
  unfold tries at mu mw
  rw [upper_len] at mu
  rw [lower_len] at mw
  by_cases c1 : s.length = 65
  · rw [if_pos c1] at mu mw
    have mu := List.mem_singleton.mp mu
    have mw := List.mem_singleton.mp mw
    subst mu mw
    have hd : i < s.length := by omega
    have eu : upper (dropAt s i) = dropAt (upper s) i := map_dropAt _ _ _
    have ew : lower (dropAt s i) = dropAt (lower s) i := map_dropAt _ _ _
    refine ⟨dropAt s i, (mended_some h4).mpr ⟨.drop i hd, right_iff.mpr ⟨by have := dropAt_length hd; omega, (Near.drop i hd).let4 h4, ?_, ?_⟩⟩, eu, ew⟩
    · rw [eu]; exact wu
    · rw [ew]; exact ww
  · rw [if_neg c1] at mu mw
    by_cases c2 : s.length = 63
    · rw [if_pos c2] at mu mw
      obtain ⟨x, hx, rfl⟩ : ∃ x, x ≤ 1 ∧ u = putAt (upper s) i x := by
        rcases mem2 mu with e | e
        · exact ⟨0, by decide, e⟩
        · exact ⟨1, by decide, e⟩
      obtain ⟨y, hy, rfl⟩ : ∃ y, y ≤ 1 ∧ l = putAt (lower s) i y := by
        rcases mem2 mw with e | e
        · exact ⟨0, by decide, e⟩
        · exact ⟨1, by decide, e⟩
      have hd : i ≤ s.length := by omega
      have eu : upper (putAt s i (2 * x + y)) = putAt (upper s) i x := by
        unfold upper; rw [map_putAt, bit1_of hx hy]
      have ew : lower (putAt s i (2 * x + y)) = putAt (lower s) i y := by
        unfold lower; rw [map_putAt, bit0_of hx hy]
      have nr : Near s (putAt s i (2 * x + y)) := .put i _ hd (by omega)
      refine ⟨putAt s i (2 * x + y), (mended_some h4).mpr ⟨nr, right_iff.mpr ⟨by rw [putAt_length _ hd]; omega, nr.let4 h4, ?_, ?_⟩⟩, eu, ew⟩
      · rw [eu]; exact wu
      · rw [ew]; exact ww
    · rw [if_neg c2] at mu mw
      obtain ⟨x, hx, rfl⟩ : ∃ x, x ≤ 1 ∧ u = (upper s).set i x := by
        rcases mem2 mu with e | e
        · exact ⟨0, by decide, e⟩
        · exact ⟨1, by decide, e⟩
      obtain ⟨y, hy, rfl⟩ : ∃ y, y ≤ 1 ∧ l = (lower s).set i y := by
        rcases mem2 mw with e | e
        · exact ⟨0, by decide, e⟩
        · exact ⟨1, by decide, e⟩
      have hd : i < s.length := by omega
      have eu : upper (s.set i (2 * x + y)) = (upper s).set i x := by
        unfold upper; rw [List.map_set, bit1_of hx hy]
      have ew : lower (s.set i (2 * x + y)) = (lower s).set i y := by
        unfold lower; rw [List.map_set, bit0_of hx hy]
      have nr : Near s (s.set i (2 * x + y)) := .set i _ hd (by omega)
      refine ⟨s.set i (2 * x + y), (mended_some h4).mpr ⟨nr, right_iff.mpr ⟨by rw [List.length_set]; omega, nr.let4 h4, ?_, ?_⟩⟩, eu, ew⟩
      · rw [eu]; exact wu
      · rw [ew]; exact ww
theorem row_some {l t : List Nat} {i : Nat} (h : t ∈ tries l i) (w : ws 1 t % 128 = 0) : ∃ u, rowAt l i = some u := by
  unfold rowAt
  cases e : (tries l i).find? fun t => decide (ws 1 t % 128 = 0) with
  | some u => exact ⟨u, rfl⟩
  | none =>
    have := List.find?_eq_none.mp e t h
    exact absurd (decide_eq_true w) this
theorem b01 {x : Nat} (f : Nat → List Nat) (h : x ≤ 1) : f x ∈ [f 0, f 1] := by
  have : x = 0 ∨ x = 1 := by omega
  rcases this with e | e <;> subst e <;> simp
theorem right_both {s t : List Nat} (h4 : Let4 s) (h : mended s = some t) : ∃ i u l, i < max s.length 64 ∧ rowAt (upper s) i = some u ∧ rowAt (lower s) i = some l := by
  obtain ⟨nr, rt⟩ := (mended_some h4).mp h
  obtain ⟨lt, t4, wu, ww⟩ := right_iff.mp rt
  have key : ∀ i, i < max s.length 64 → upper t ∈ tries (upper s) i → lower t ∈ tries (lower s) i → ∃ i u l, i < max s.length 64 ∧ rowAt (upper s) i = some u ∧ rowAt (lower s) i = some l := fun i hi h1 h2 => by
    obtain ⟨u, hu⟩ := row_some h1 wu
    obtain ⟨l, hl⟩ := row_some h2 ww
    exact ⟨i, u, l, hi, hu, hl⟩
  rcases nr.len lt with ⟨n1, i, x, hi, e⟩ | ⟨n1, i, hi, e⟩ | ⟨n1, i, x, hi, e⟩
  · refine key i (by omega) ?_ ?_
    · unfold tries
      rw [upper_len, if_neg (by omega), if_neg (by omega), e]
      unfold upper
      rw [List.map_set]
      exact b01 (fun z => (s.map (bit 1)).set i z) (bit_le 1 x)
    · unfold tries
      rw [lower_len, if_neg (by omega), if_neg (by omega), e]
      unfold lower
      rw [List.map_set]
      exact b01 (fun z => (s.map (bit 0)).set i z) (bit_le 0 x)
  · refine key i (by omega) ?_ ?_
    · unfold tries
      rw [upper_len, if_pos (by omega), e]
      unfold upper
      rw [map_dropAt]
      exact List.mem_singleton.mpr rfl
    · unfold tries
      rw [lower_len, if_pos (by omega), e]
      unfold lower
      rw [map_dropAt]
      exact List.mem_singleton.mpr rfl
  · refine key i (by omega) ?_ ?_
    · unfold tries
      rw [upper_len, if_neg (by omega), if_pos (by omega), e]
      unfold upper
      rw [map_putAt]
      exact b01 (fun z => putAt (s.map (bit 1)) i z) (bit_le 1 x)
    · unfold tries
      rw [lower_len, if_neg (by omega), if_pos (by omega), e]
      unfold lower
      rw [map_putAt]
      exact b01 (fun z => putAt (s.map (bit 0)) i z) (bit_le 0 x)
def mendedC (s : List Nat) : Option (List Nat) := (mended s).bind fun t => content (upper t) (lower t)
theorem mendedC_at {s u l : List Nat} {i : Nat} (h4 : Let4 s) (hl : 63 ≤ s.length ∧ s.length ≤ 65) (hi : i < max s.length 64) (hu : rowAt (upper s) i = some u) (hw : rowAt (lower s) i = some l) : mendedC s = content u l := by
  obtain ⟨t, e1, e2, e3⟩ := both_right h4 hl hi hu hw
  unfold mendedC
  rw [e1, ← e2, ← e3]; rfl
theorem mendedC_none {s : List Nat} (h4 : Let4 s) (h : ∀ i, i < max s.length 64 → rowAt (upper s) i = none ∨ rowAt (lower s) i = none) : mendedC s = none := by
  unfold mendedC
  cases e : mended s with
  | none => rfl
  | some t =>
    obtain ⟨i, u, l, hi, h1, h2⟩ := right_both h4 e
    rcases h i hi with c | c
    · rw [h1] at c; cases c
    · rw [h2] at c; cases c
theorem bind_inside (s : List Nat) : (mended s).bind inside = (mendedC s).map fun l => (l.getD 0 0 + 256 * l.getD 1 0, l.drop 2) := by
  unfold mendedC
  cases mended s with
  | none => rfl
  | some t => exact inside_eq t
theorem tries_len {l t : List Nat} {i : Nat} (hl : 63 ≤ l.length ∧ l.length ≤ 65) (hi : i < max l.length 64) (h : t ∈ tries l i) : t.length = 64 := by
  unfold tries at h
  by_cases c1 : l.length = 65
  · rw [if_pos c1] at h
    rw [List.mem_singleton.mp h]
    have := dropAt_length (l := l) (i := i) (by omega)
    omega
  · rw [if_neg c1] at h
    by_cases c2 : l.length = 63
    · rw [if_pos c2] at h
      rcases mem2 h with e | e <;> rw [e, putAt_length _ (by omega)] <;> omega
    · rw [if_neg c2] at h
      rcases mem2 h with e | e <;> rw [e, List.length_set] <;> omega
theorem tries_bits {l t : List Nat} {i : Nat} (hb : Bits l) (h : t ∈ tries l i) : Bits t := by
  unfold tries at h
  by_cases c1 : l.length = 65
  · rw [if_pos c1] at h
    rw [List.mem_singleton.mp h]
    intro x hx
    unfold dropAt at hx
    rcases List.mem_append.mp hx with e | e
    · exact hb x (List.mem_of_mem_take e)
    · exact hb x (List.mem_of_mem_drop e)
  · rw [if_neg c1] at h
    by_cases c2 : l.length = 63
    · rw [if_pos c2] at h
      rcases mem2 h with e | e <;> rw [e]
      · exact hb.put (by decide)
      · exact hb.put (by decide)
    · rw [if_neg c2] at h
      rcases mem2 h with e | e <;> rw [e] <;> intro x hx <;> rcases List.mem_or_eq_of_mem_set hx with e | e
      · exact hb x e
      · omega
      · exact hb x e
      · omega
theorem upper_bits (s : List Nat) : Bits (upper s) := bits_map 1 s
theorem lower_bits (s : List Nat) : Bits (lower s) := bits_map 0 s
end SS
end
section
set_option maxRecDepth 10000
namespace SS
open Km348
abbrev Ld := List (Nat × List Nat)
def at_ (p : Nat) : Nat × List Nat → Bool := fun x => x.1 == p
theorem find_mem {S : Ld} {p : Nat} {x : Nat × List Nat} (h : S.find? (at_ p) = some x) : x ∈ S ∧ x.1 = p := ⟨List.mem_of_find?_eq_some h, by have := List.find?_some h; exact eq_of_beq (show (x.1 == p) = true from this)⟩
theorem find_not {S : Ld} {p : Nat} (h : S.find? (at_ p) = none) : p ∉ S.map (·.1) := fun m => by
  obtain ⟨x, hx, e⟩ := List.mem_map.mp m
  have := List.find?_eq_none.mp h x hx
  exact this (by rw [← e]; exact beq_self_eq_true _)
theorem not_find {S : Ld} {p : Nat} (h : p ∉ S.map (·.1)) : S.find? (at_ p) = none := by
  rw [List.find?_eq_none]
  intro x hx e
  exact h (List.mem_map.mpr ⟨x, hx, eq_of_beq e⟩)
theorem nd_key : ∀ {S : Ld} {x y : Nat × List Nat}, (S.map (·.1)).Nodup → x ∈ S → y ∈ S → x.1 = y.1 → x = y
  | [], _, _, _, h, _, _ => by cases h
  | z :: S, x, y, nd, hx, hy, e => by
    rw [List.map_cons, List.nodup_cons] at nd
    rcases List.mem_cons.mp hx with e1 | e1 <;> rcases List.mem_cons.mp hy with e2 | e2
    · rw [e1, e2]
    · exact absurd (List.mem_map.mpr ⟨y, e2, by rw [← e, e1]⟩) nd.1
    · exact absurd (List.mem_map.mpr ⟨x, e1, by rw [e, e2]⟩) nd.1
    · exact nd_key nd.2 e1 e2 e
theorem mem_find {S : Ld} {p : Nat} {x : Nat × List Nat} (nd : (S.map (·.1)).Nodup) (hx : x ∈ S) (e : x.1 = p) : S.find? (at_ p) = some x := by
  cases h : S.find? (at_ p) with
  | none => exact absurd (List.mem_map.mpr ⟨x, hx, e⟩) (find_not h)
  | some y =>
    obtain ⟨h1, h2⟩ := find_mem h
    rw [nd_key nd h1 hx (by rw [h2, e])]
theorem find_perm {S S' : Ld} (h : S'.Perm S) (nd : (S.map (·.1)).Nodup) (p : Nat) : S'.find? (at_ p) = S.find? (at_ p) := by
  cases e : S.find? (at_ p) with
  | none => exact not_find fun m => find_not e ((h.map _).mem_iff.mp m)
  | some x =>
    obtain ⟨h1, h2⟩ := find_mem e
    exact mem_find ((h.map (·.1)).nodup_iff.mpr nd) (h.mem_iff.mpr h1) h2
def Srt (S : Ld) : Prop := (S.map (·.1)).Pairwise (· < ·)
theorem Srt.nd {S : Ld} (h : Srt S) : (S.map (·.1)).Nodup := List.Pairwise.imp (fun h => Nat.ne_of_lt h) h
theorem ge_ix : ∀ {l : List Nat} {lo j x : Nat}, l.Pairwise (· < ·) → (∀ y ∈ l, lo ≤ y) → l[j]? = some x → lo + j ≤ x
  | [], _, _, _, _, _, h => by simp at h
  | a :: l, lo, 0, x, _, hl, h => by
    have h : a = x := Option.some.inj h
    rw [← h]
    exact hl a (List.mem_cons_self ..)
  | a :: l, lo, j + 1, x, hp, hl, h => by
    rw [List.pairwise_cons] at hp
    have ha := hl a (List.mem_cons_self ..)
    have := ge_ix (l := l) (lo := lo + 1) (j := j) hp.2 (fun y hy => by have := hp.1 y hy; omega) h
    omega
theorem take_find {S : Ld} {k i : Nat} {x : Nat × List Nat} (h : Srt S) (hi : i < k) (e : S.find? (at_ i) = some x) : (S.take k).find? (at_ i) = some x := by
  obtain ⟨h1, h2⟩ := find_mem e
  obtain ⟨j, hj⟩ := List.mem_iff_getElem?.mp h1
  have := ge_ix (lo := 0) (j := j) (x := i) h (fun y _ => Nat.zero_le _) (by rw [List.getElem?_map, hj, ← h2]; rfl)
  refine mem_find ?_ (List.mem_iff_getElem?.mpr ⟨j, by rw [List.getElem?_take_of_lt (by omega)]; exact hj⟩) h2
  rw [List.map_take]
  exact (List.take_sublist _ _).nodup h.nd
theorem fill_some {S : Ld} {k i : Nat} {x : Nat × List Nat} (h : Srt S) (hi : i < k) (e : S.find? (at_ i) = some x) : loadAt (S.take k) i = x.2 :=
  loadAt_some (take_find h hi e)
theorem fill_not {S : Ld} {k i : Nat} (e : S.find? (at_ i) = none) : i ∉ (S.take k).map (·.1) := fun m => by
  rw [List.map_take] at m
  exact find_not e (List.mem_of_mem_take m)
theorem interp_lt {l : Ld} {t : Nat} (hb : ∀ x ∈ l, ∀ b ∈ x.2, b < 256) : ∀ z ∈ (List.range 12).map (interp l t), z < 256 := by
  rw [← tot_all]; exact tot_lt hb _
theorem loadAt_ok {l : Ld} (hb : ∀ x ∈ l, x.2.length = 12 ∧ ∀ b ∈ x.2, b < 256) (i : Nat) : (loadAt l i).length = 12 ∧ ∀ b ∈ loadAt l i, b < 256 := by
  cases e : l.find? (at_ i) with
  | some x => rw [loadAt_some e]; exact hb x (find_mem e).1
  | none =>
    rw [loadAt_none (find_not e)]
    exact ⟨by rw [List.length_map, List.length_range], interp_lt fun x hx => (hb x hx).2⟩
end SS
end
section
set_option maxRecDepth 10000
namespace SS
open Km348
theorem insert_perm (x : Nat × List Nat) : ∀ l : Ld, (Km348.insert x l).Perm (x :: l)
  | [] => List.Perm.refl _
  | y :: l => by
    unfold Km348.insert
    split
    · exact List.Perm.refl _
    · exact ((insert_perm x l).cons y).trans (List.Perm.swap x y l)
theorem insert_srt {x : Nat × List Nat} : ∀ {l : Ld}, Srt l → x.1 ∉ l.map (·.1) → Srt (Km348.insert x l)
  | [], _, _ => by
    show ([x.1] : List Nat).Pairwise (· < ·)
    exact List.pairwise_singleton _ _
  | y :: l, h, hn => by
    have h' : ((y :: l).map (·.1)).Pairwise (· < ·) := h
    rw [List.map_cons, List.pairwise_cons] at h'
    rw [List.map_cons, List.mem_cons, not_or] at hn
    unfold Km348.insert
    split
    · rename_i c
      show ((x :: y :: l).map (·.1)).Pairwise (· < ·)
      rw [List.map_cons, List.pairwise_cons]
      refine ⟨fun z hz => ?_, h⟩
      rw [List.map_cons] at hz
      rcases List.mem_cons.mp hz with e | e
      · omega
      · have := h'.1 z e; omega
    · rename_i c
      have ih := insert_srt (x := x) (l := l) h'.2 hn.2
      show ((y :: Km348.insert x l).map (·.1)).Pairwise (· < ·)
      rw [List.map_cons, List.pairwise_cons]
      refine ⟨fun z hz => ?_, ih⟩
      have hz := (((insert_perm x l).map (·.1)).mem_iff).mp hz
      rw [List.map_cons] at hz
      rcases List.mem_cons.mp hz with e | e
      · omega
      · exact h'.1 z e
structure ROk (R : Reader) : Prop where
  good : R.size.good = true
  srt : Srt R.got
  ok : ∀ x ∈ R.got, x.1 < R.size.strands ∧ x.2.length = 12 ∧ ∀ b ∈ x.2, b < 256
def toPl (s : Nat) (x : Nat × List Nat) : Nat × List Nat := (x.1 % s, x.2)
theorem group_eq (R : Reader) (g : Nat) : R.group g = (R.got.filter fun x => x.1 / (R.size.k + R.size.m) == g).map (toPl (R.size.k + R.size.m)) := rfl
theorem group_srt {z : Size} {got : Ld} (h : Srt got) (g : Nat) : Srt ((⟨z, got⟩ : Reader).group g) := by
  rw [group_eq]
  show ((((got.filter fun x => x.1 / (z.k + z.m) == g).map (toPl (z.k + z.m)))).map (·.1)).Pairwise (· < ·)
  rw [List.map_map, List.pairwise_map]
  have h' : (got.map (·.1)).Pairwise (· < ·) := h
  rw [List.pairwise_map] at h'
  refine (h'.sublist List.filter_sublist).imp_of_mem ?_
  intro a b ha hb hab
  have ha := eq_of_beq (List.mem_filter.mp ha).2
  have hb := eq_of_beq (List.mem_filter.mp hb).2
  show a.1 % (z.k + z.m) < b.1 % (z.k + z.m)
  have e1 := Nat.div_add_mod a.1 (z.k + z.m)
  have e2 := Nat.div_add_mod b.1 (z.k + z.m)
  rw [ha] at e1
  rw [hb] at e2
  omega
theorem mem_group {R : Reader} {g : Nat} {y : Nat × List Nat} (h : y ∈ R.group g) : ∃ x ∈ R.got, x.1 / (R.size.k + R.size.m) = g ∧ y = (x.1 % (R.size.k + R.size.m), x.2) := by
  rw [group_eq] at h
  obtain ⟨x, hx, e⟩ := List.mem_map.mp h
  obtain ⟨h1, h2⟩ := List.mem_filter.mp hx
  exact ⟨x, h1, eq_of_beq h2, e.symm⟩
theorem group_in {R : Reader} {x : Nat × List Nat} (h : x ∈ R.got) : (x.1 % (R.size.k + R.size.m), x.2) ∈ R.group (x.1 / (R.size.k + R.size.m)) := by
  rw [group_eq]
  exact List.mem_map.mpr ⟨x, List.mem_filter.mpr ⟨h, beq_self_eq_true _⟩, rfl⟩
theorem group_find_some {R : Reader} {q : Nat} {y : Nat × List Nat} (hs : Srt R.got) (h : R.got.find? (at_ q) = some y) : (R.group (q / (R.size.k + R.size.m))).find? (at_ (q % (R.size.k + R.size.m))) = some (q % (R.size.k + R.size.m), y.2) := by
  obtain ⟨h1, h2⟩ := find_mem h
  have hm := group_in h1
  rw [h2] at hm
  exact mem_find (group_srt (z := R.size) hs _).nd hm rfl
theorem group_find_none {R : Reader} {q : Nat} (h : R.got.find? (at_ q) = none) : (R.group (q / (R.size.k + R.size.m))).find? (at_ (q % (R.size.k + R.size.m))) = none := by
  refine not_find fun m => ?_
  obtain ⟨y, hy, e⟩ := List.mem_map.mp m
  obtain ⟨x, hx, e1, e2⟩ := mem_group hy
  rw [e2] at e
  have e : x.1 % (R.size.k + R.size.m) = q % (R.size.k + R.size.m) := e
  have a1 := Nat.div_add_mod x.1 (R.size.k + R.size.m)
  have a2 := Nat.div_add_mod q (R.size.k + R.size.m)
  rw [e1, e] at a1
  exact find_not h (List.mem_map.mpr ⟨x, hx, by omega⟩)
theorem group_ins {z : Size} {got : Ld} {x : Nat × List Nat} (g : Nat) : ((⟨z, Km348.insert x got⟩ : Reader).group g).Perm (if x.1 / (z.k + z.m) = g then (⟨z, got⟩ : Reader).group g ++ [(x.1 % (z.k + z.m), x.2)] else (⟨z, got⟩ : Reader).group g) := by
  rw [group_eq, group_eq]
  have p := ((insert_perm x got).filter fun y => y.1 / (z.k + z.m) == g).map (toPl (z.k + z.m))
  refine p.trans ?_
  by_cases c : x.1 / (z.k + z.m) = g
  · rw [if_pos c, List.filter_cons, if_pos (by rw [c]; exact beq_self_eq_true _), List.map_cons]
    exact List.perm_append_comm (l₁ := [toPl (z.k + z.m) x])
  · rw [if_neg c, List.filter_cons, if_neg (fun e => c (eq_of_beq e))]
theorem filter_ins {x : Nat × List Nat} {p : Nat × List Nat → Bool} (hp : p x = false) : ∀ l : Ld, (Km348.insert x l).filter p = l.filter p
  | [] => by
    show List.filter p [x] = []
    rw [List.filter_cons, hp]; rfl
  | y :: l => by
    unfold Km348.insert
    split
    · rw [List.filter_cons (x := x), hp]; rfl
    · rw [List.filter_cons, List.filter_cons, filter_ins hp l]
theorem group_other {z : Size} {got : Ld} {x : Nat × List Nat} {g : Nat} (c : ¬ x.1 / (z.k + z.m) = g) : (⟨z, Km348.insert x got⟩ : Reader).group g = (⟨z, got⟩ : Reader).group g := by
  rw [group_eq, group_eq]
  have := filter_ins (x := x) (p := fun y => y.1 / (z.k + z.m) == g) (beq_eq_false_iff_ne.mpr c) got
  exact congrArg (List.map (toPl (z.k + z.m))) this
theorem pw_len : ∀ (l : List Nat) (lo hi : Nat), l.Pairwise (· < ·) → (∀ y ∈ l, lo ≤ y ∧ y < hi) → l.length ≤ hi - lo
  | [], lo, hi, _, _ => by simp
  | a :: l, lo, hi, hp, hb => by
    rw [List.pairwise_cons] at hp
    have ha := hb a (List.mem_cons_self ..)
    have := pw_len l (a + 1) hi hp.2 fun y hy => ⟨by have := hp.1 y hy; omega, (hb y (List.mem_cons_of_mem _ hy)).2⟩
    rw [List.length_cons]
    omega
theorem group_ok {R : Reader} (h : ROk R) (hk : 1 ≤ R.size.k) (g : Nat) : Srt (R.group g) ∧ (∀ x ∈ R.group g, x.1 < R.size.k + R.size.m ∧ x.2.length = 12 ∧ ∀ b ∈ x.2, b < 256) ∧ (R.group g).length ≤ R.size.k + R.size.m := by
  have h1 : Srt (R.group g) := group_srt (z := R.size) h.srt g
  have h2 : ∀ x ∈ R.group g, x.1 < R.size.k + R.size.m ∧ x.2.length = 12 ∧ ∀ b ∈ x.2, b < 256 := fun x hx => by
    obtain ⟨y, hy, _, rfl⟩ := mem_group hx
    exact ⟨Nat.mod_lt _ (by omega), (h.ok y hy).2⟩
  refine ⟨h1, h2, ?_⟩
  have hs : ((R.group g).map (·.1)).Pairwise (· < ·) := h1
  have := pw_len _ 0 (R.size.k + R.size.m) hs fun y hy => by
    obtain ⟨x, hx, rfl⟩ := List.mem_map.mp hy
    exact ⟨Nat.zero_le _, (h2 x hx).1⟩
  rw [List.length_map] at this
  omega
theorem foldl_sum : ∀ (l : List Nat) (s : Nat), ((l.foldl (· + ·) s : Nat) : Int) = (s : Int) + (l.map fun n : Nat => (n : Int)).sum
  | [], s => by simp
  | a :: l, s => by
    rw [List.foldl_cons, foldl_sum l, List.map_cons, List.sum_cons]
    omega
theorem lacks_sum (R : Reader) : ((R.lacks : Nat) : Int) = (((List.range R.size.groups).map fun g => R.size.k - (R.group g).length).map fun n : Nat => (n : Int)).sum := by
  unfold Reader.lacks
  rw [foldl_sum]
  omega
def chunk (R : Reader) (i : Nat) : List Nat := loadAt ((R.group (i / R.size.k)).take R.size.k) (i % R.size.k)
theorem flat2 {α : Type} (f : Nat → List α) (k : Nat) : ∀ a : Nat, (List.range a).flatMap (fun g => (List.range k).flatMap fun i => f (g * k + i)) = (List.range (a * k)).flatMap f
  | 0 => by simp
  | a + 1 => by
    rw [List.range_succ, List.flatMap_append, flat2 f k a, Nat.succ_mul, List.range_add, List.flatMap_append]
    congr 1
    rw [List.flatMap_cons, List.flatMap_nil, List.append_nil, List.flatMap_map]
theorem file_eq {R : Reader} (hk : 1 ≤ R.size.k) : R.file = ((List.range (R.size.groups * R.size.k)).flatMap (chunk R)).take R.size.n := by
  unfold Reader.file
  rw [← flat2 (chunk R) R.size.k]
  congr 1
  congr 1
  funext g
  rw [List.flatMap_def, List.flatMap_def]
  congr 1
  apply List.map_congr_left
  intro i hi
  have hi := List.mem_range.mp hi
  unfold chunk
  rw [Nat.mul_comm g, Nat.mul_add_div (by omega), Nat.div_eq_of_lt hi, Nat.add_zero, Nat.mul_add_mod, Nat.mod_eq_of_lt hi]
theorem flat_len {α : Type} {f : Nat → List α} (h : ∀ i, (f i).length = 12) : ∀ (n a : Nat), ((List.range' a n).flatMap f).length = 12 * n
  | 0, _ => rfl
  | n + 1, a => by
    rw [List.range'_succ, List.flatMap_cons, List.length_append, h, flat_len h n]
    omega
theorem flat_drop {α : Type} {f : Nat → List α} (h : ∀ i, (f i).length = 12) : ∀ (a lo n : Nat), ((List.range' lo (a + n)).flatMap f).drop (12 * a) = (List.range' (lo + a) n).flatMap f
  | 0, lo, n => by rw [Nat.zero_add, Nat.mul_zero, List.drop_zero, Nat.add_zero]
  | a + 1, lo, n => by
    rw [show a + 1 + n = (a + n) + 1 by omega, List.range'_succ, List.flatMap_cons, show 12 * (a + 1) = 12 + 12 * a by omega, ← List.drop_drop, List.drop_append, h, Nat.sub_self, List.drop_of_length_le (l := f lo) (by rw [h]; exact Nat.le_refl _), List.nil_append, List.drop_zero, flat_drop h a]
    rw [show lo + 1 + a = lo + (a + 1) by omega]
theorem flat_take {α : Type} {f : Nat → List α} (h : ∀ i, (f i).length = 12) : ∀ (c lo n : Nat), ((List.range' lo (c + n)).flatMap f).take (12 * c) = (List.range' lo c).flatMap f
  | 0, lo, n => by rw [Nat.mul_zero, List.take_zero]; rfl
  | c + 1, lo, n => by
    rw [show c + 1 + n = (c + n) + 1 by omega, List.range'_succ, List.range'_succ, List.flatMap_cons, List.flatMap_cons, show 12 * (c + 1) = 12 + 12 * c by omega, List.take_append, h, List.take_of_length_le (by rw [h]; omega), show 12 + 12 * c - 12 = 12 * c by omega, flat_take h c]
theorem block_eq {α : Type} {f : Nat → List α} (h : ∀ i, (f i).length = 12) {T n first e : Nat} (hn : n ≤ 12 * T) (h1 : first < e) (h2 : e ≤ n) (h3 : e ≤ first + 256) (h4 : e = min (first + 256) n) :
    ((((List.range' (first / 12) ((e - 1) / 12 + 1 - first / 12)).flatMap f).drop (first - 12 * (first / 12))).take (e - first)) = ((((List.range T).flatMap f).take n).drop first).take 256 := by
  have ha : first / 12 ≤ (e - 1) / 12 := Nat.div_le_div_right (by omega)
  obtain ⟨c, hc⟩ : ∃ c, (e - 1) / 12 + 1 - first / 12 = c := ⟨_, rfl⟩
  obtain ⟨a, hA⟩ : ∃ a, first / 12 = a := ⟨_, rfl⟩
  rw [hc, hA]
  have hT : a + c ≤ T := by omega
  rw [List.range_eq_range', show T = a + (T - a) by omega, List.drop_take, List.take_take]
  have e1 := flat_drop h a 0 (T - a)
  have e2 := flat_take h c (0 + a) (T - a - c)
  rw [show c + (T - a - c) = T - a by omega, ← e1, Nat.zero_add] at e2
  rw [← e2, List.drop_take, List.take_take, List.drop_drop]
  rw [show 12 * a + (first - 12 * a) = first by omega]
  congr 1
  omega
theorem groups_n {z : Size} (hk : 1 ≤ z.k) : z.n ≤ 12 * (z.groups * z.k) := by
  unfold Size.groups LOAD
  have := Nat.lt_mul_div_succ (z.n + 12 * z.k - 1) (b := 12 * z.k) (by omega)
  have e : 12 * ((z.n + 12 * z.k - 1) / (12 * z.k) * z.k) = 12 * z.k * ((z.n + 12 * z.k - 1) / (12 * z.k)) := by
    rw [Nat.mul_comm _ z.k, Nat.mul_assoc]
  rw [e]
  rw [Nat.mul_succ] at this
  omega
end SS
end
section
set_option maxRecDepth 10000
namespace SS
open Km348
theorem whole_id (c : List (List Int)) : PyKm348.whole c = c := by
  unfold PyKm348.whole
  split <;> rfl
theorem told_only (v : Int) : Km348Neutral.told (only v) = [v] := rfl
theorem step_0 (ws : Option Writer) (rs : Option Reader) (k m : Int) (row : List Int) :
    Km348Neutral.step ([ws], [rs]) [[0, k, m], row] = (([if (⟨k.toNat, m.toNat, row.length⟩ : Size).good = true then some ⟨⟨k.toNat, m.toNat, row.length⟩, Km348Neutral.nats row⟩ else ws], [rs]), [if (⟨k.toNat, m.toNat, row.length⟩ : Size).good = true then (((⟨k.toNat, m.toNat, row.length⟩ : Size).strands : Nat) : Int) else -22]) := by
  show Km348Neutral.step0 ([ws], [rs]) 0 (.wStart ⟨k.toNat, m.toNat, row.length⟩ (Km348Neutral.nats row)) = _
  generalize (⟨k.toNat, m.toNat, row.length⟩ : Size) = z
  generalize Km348Neutral.nats row = l
  cases hg : z.good with
  | true =>
    rw [if_pos rfl, if_pos rfl]
    cases ws with
    | some W =>
      show (([some W].set 0 (some (wDoes W (.wStart z l)).1), [rs]), Km348Neutral.told (wDoes W (.wStart z l)).2) = _
      unfold wDoes
      dsimp only
      rw [hg]
      rfl
    | none =>
      show (if (Km348Neutral.told (wDoes ⟨⟨1, 0, 1⟩, [0]⟩ (.wStart z l)).2).headD 0 < 0 then ([none], [rs]) else ([none].set 0 (some (wDoes ⟨⟨1, 0, 1⟩, [0]⟩ (.wStart z l)).1), [rs]), Km348Neutral.told (wDoes ⟨⟨1, 0, 1⟩, [0]⟩ (.wStart z l)).2) = _
      have e : wDoes ⟨⟨1, 0, 1⟩, [0]⟩ (.wStart z l) = (⟨z, l⟩, only (z.strands : Nat)) := by unfold wDoes; dsimp only; rw [hg]; rfl
      rw [e, told_only]
      show (if ((z.strands : Nat) : Int) < 0 then _ else _, _) = _
      rw [if_neg (by omega)]
      rfl
  | false =>
    rw [if_neg Bool.false_ne_true, if_neg Bool.false_ne_true]
    cases ws with
    | some W =>
      show (([some W].set 0 (some (wDoes W (.wStart z l)).1), [rs]), Km348Neutral.told (wDoes W (.wStart z l)).2) = _
      unfold wDoes
      dsimp only
      rw [hg]
      rfl
    | none =>
      show (if (Km348Neutral.told (wDoes ⟨⟨1, 0, 1⟩, [0]⟩ (.wStart z l)).2).headD 0 < 0 then ([none], [rs]) else ([none].set 0 (some (wDoes ⟨⟨1, 0, 1⟩, [0]⟩ (.wStart z l)).1), [rs]), Km348Neutral.told (wDoes ⟨⟨1, 0, 1⟩, [0]⟩ (.wStart z l)).2) = _
      have e : wDoes ⟨⟨1, 0, 1⟩, [0]⟩ (.wStart z l) = (⟨⟨1, 0, 1⟩, [0]⟩, only (-22)) := by unfold wDoes; dsimp only; rw [hg]; rfl
      rw [e, told_only]
      rfl
theorem step_2 (ws : Option Writer) (rs : Option Reader) (k m n : Int) :
    Km348Neutral.step ([ws], [rs]) [[2, k, m, n]] = (([ws], [if (⟨k.toNat, m.toNat, n.toNat⟩ : Size).good = true then some ⟨⟨k.toNat, m.toNat, n.toNat⟩, []⟩ else rs]), [if (⟨k.toNat, m.toNat, n.toNat⟩ : Size).good = true then (((⟨k.toNat, m.toNat, n.toNat⟩ : Size).strands : Nat) : Int) else -22]) := by
  show Km348Neutral.step1 ([ws], [rs]) 0 (.rStart ⟨k.toNat, m.toNat, n.toNat⟩) = _
  generalize (⟨k.toNat, m.toNat, n.toNat⟩ : Size) = z
  cases hg : z.good with
  | true =>
    rw [if_pos rfl, if_pos rfl]
    cases rs with
    | some R =>
      show (([ws], [some R].set 0 (some (rDoes R (.rStart z)).1)), Km348Neutral.told (rDoes R (.rStart z)).2) = _
      unfold rDoes
      dsimp only
      rw [hg]
      rfl
    | none =>
      show (if (Km348Neutral.told (rDoes ⟨⟨1, 0, 1⟩, []⟩ (.rStart z)).2).headD 0 < 0 then ([ws], [none]) else ([ws], [none].set 0 (some (rDoes ⟨⟨1, 0, 1⟩, []⟩ (.rStart z)).1)), Km348Neutral.told (rDoes ⟨⟨1, 0, 1⟩, []⟩ (.rStart z)).2) = _
      have e : rDoes ⟨⟨1, 0, 1⟩, []⟩ (.rStart z) = (⟨z, []⟩, only (z.strands : Nat)) := by unfold rDoes; dsimp only; rw [hg]; rfl
      rw [e, told_only]
      show (if ((z.strands : Nat) : Int) < 0 then _ else _, _) = _
      rw [if_neg (by omega)]
      rfl
  | false =>
    rw [if_neg Bool.false_ne_true, if_neg Bool.false_ne_true]
    cases rs with
    | some R =>
      show (([ws], [some R].set 0 (some (rDoes R (.rStart z)).1)), Km348Neutral.told (rDoes R (.rStart z)).2) = _
      unfold rDoes
      dsimp only
      rw [hg]
      rfl
    | none =>
      show (if (Km348Neutral.told (rDoes ⟨⟨1, 0, 1⟩, []⟩ (.rStart z)).2).headD 0 < 0 then ([ws], [none]) else ([ws], [none].set 0 (some (rDoes ⟨⟨1, 0, 1⟩, []⟩ (.rStart z)).1)), Km348Neutral.told (rDoes ⟨⟨1, 0, 1⟩, []⟩ (.rStart z)).2) = _
      have e : rDoes ⟨⟨1, 0, 1⟩, []⟩ (.rStart z) = (⟨⟨1, 0, 1⟩, []⟩, only (-22)) := by unfold rDoes; dsimp only; rw [hg]; rfl
      rw [e, told_only]
      rfl
theorem step_1 (W : Writer) (rs : Option Reader) (q : Int) :
    Km348Neutral.step ([some W], [rs]) [[1, q]] = (([some W], [rs]), if W.size.strands ≤ q.toNat then [-2] else 0 :: (writtenAs (written W.size W.bytes q.toNat)).map fun n : Nat => (n : Int)) := by
  show (([some W].set 0 (some (wDoes W (.wStrand q.toNat)).1), [rs]), Km348Neutral.told (wDoes W (.wStrand q.toNat)).2) = _
  unfold wDoes
  dsimp only
  by_cases c : W.size.strands ≤ q.toNat
  · rw [if_pos c, if_pos c]; rfl
  · rw [if_neg c, if_neg c]; rfl
theorem step_1n (rs : Option Reader) (q : Int) : (Km348Neutral.step ([none], [rs]) [[1, q]]).2 = [] := rfl
theorem step_3 (ws : Option Writer) (R : Reader) (row : List Int) :
    Km348Neutral.step ([ws], [some R]) [[3], row] = (([ws], [some (rDoes R (.rRead (Km348Neutral.nats row) row.length)).1]), Km348Neutral.told (rDoes R (.rRead (Km348Neutral.nats row) row.length)).2) := rfl
theorem step_3n (ws : Option Writer) (row : List Int) : (Km348Neutral.step ([ws], [none]) [[3], row]).2 = [] := rfl
theorem step_4 (ws : Option Writer) (R : Reader) : Km348Neutral.step ([ws], [some R]) [[4]] = (([ws], [some R]), [((R.lacks : Nat) : Int)]) := rfl
theorem step_4n (ws : Option Writer) : (Km348Neutral.step ([ws], [none]) [[4]]).2 = [] := rfl
theorem step_5 (ws : Option Writer) (R : Reader) (b : Int) : Km348Neutral.step ([ws], [some R]) [[5, b]] = (([ws], [some R]), Km348Neutral.told (rDoes R (.rBytes b.toNat)).2) := rfl
theorem step_5n (ws : Option Writer) (b : Int) : (Km348Neutral.step ([ws], [none]) [[5, b]]).2 = [] := rfl
theorem natural_iff {z : Int} {b : Nat} (h : Km348Neutral.natural z b = true) : ∃ n : Nat, z = (n : Int) ∧ n < 2 ^ b := by
  unfold Km348Neutral.natural at h
  rw [Bool.and_eq_true, decide_eq_true_eq, decide_eq_true_eq] at h
  refine ⟨z.toNat, by omega, ?_⟩
  have : ((z.toNat : Nat) : Int) = z := by omega
  have h2 : (z.toNat : Int) < ((2 ^ b : Nat) : Int) := by rw [this, Int.natCast_pow]; exact h.2
  omega
theorem row_nats : ∀ (row : List Int), row.all (fun z => Km348Neutral.natural z 8) = true → row = (Km348Neutral.nats row).map (fun n : Nat => (n : Int)) ∧ ∀ b ∈ Km348Neutral.nats row, b < 256
  | [], _ => ⟨rfl, fun b h => by cases h⟩
  | z :: row, h => by
    rw [List.all_cons, Bool.and_eq_true] at h
    obtain ⟨n, rfl, hn⟩ := natural_iff h.1
    obtain ⟨h1, h2⟩ := row_nats row h.2
    refine ⟨?_, fun b hb => ?_⟩
    · show (n : Int) :: row = ((n : Int).toNat : Int) :: (Km348Neutral.nats row).map _
      rw [← h1, Int.toNat_natCast]
    · have hb : b ∈ (n : Int).toNat :: Km348Neutral.nats row := hb
      rcases List.mem_cons.mp hb with e | e
      · rw [e, Int.toNat_natCast]; exact hn
      · exact h2 b e
theorem nats_len (row : List Int) : (Km348Neutral.nats row).length = row.length := List.length_map ..
end SS
end
section
set_option maxRecDepth 100000
set_option maxHeartbeats 2000000
namespace SS
open PySem PySem.Calls PyProof.Rows
section
variable {prog : Program} {w : World} {A : Around} {E : Value → Shared → Prop}
abbrev EnR (it : Addr) (lent : Value) (c : Int) (held : Value) : Obj := { cls := .type "enumerate", dict := none, data := .fields #[lent, .bool false, .ref it, rawInt c, .none, held], slots := #[] }
theorem but_trans {a : Addr} {x y z : Heap} (p : Heap.SameBut a x y) (q : Heap.SameBut a y z) : Heap.SameBut a x z := ⟨q.1.trans p.1, fun b hb => (q.2 b hb).trans (p.2 b hb)⟩
theorem en_tail {g : Array GenState} {d : Drawn} {os : OsState} {tk : Nat} {hp : Heap} {e it : Addr} {c : Int} {x held : Value} {Q : Value → Shared → Prop} (he : hp.get? e = some (EnR it .none c held))
    (hQ : ∀ h', h'.get? e = some (EnR it (rawInt (hp.objs.size : Int)) (c + 1) x) → h'.get? hp.objs.size = some { cls := .type "tuple", data := .seq #[.int c tk, x] } → h'.objs.size = hp.objs.size + 1 → (∀ b o, b ≠ e → hp.get? b = some o → h'.get? b = some o) →
      Q (.ref hp.objs.size) ⟨h', g, d, tk + 1, os⟩) :
    wpAny (model prog w) A (do
      let .int i _ ← field (.ref e) 3 | unsupported "internal:enumerate.__next__"
      let given ← field (.ref e) 4
      let index ← if given == .none then mkInt i else pure given
      setField (.ref e) 3 (rawInt (i + 1)); setField (.ref e) 4 .none
      let result ← newTuple [index, x]
      if ← Builtin.SmallTypes.ownedTupleIsFree (.ref e) then
        rule "enumerate.__next__.owned-tuple-again"
        let old ← field (.ref e) 5
        setField (.ref e) 5 x
        Builtin.SmallTypes.ownedTupleHandOut (.ref e) result
        letGo [old] [result]
      ret result) (fun fin s' => ∃ v, fin = .done (.ret v) ∧ Q v s') E ⟨hp, g, d, tk, os⟩ := by
  have lt : e < hp.objs.size := Heap.lt_size he
  refine wpAny_bind (wpAny_field he rfl (x := rawInt c) rfl (wpAny_bind (wpAny_field he rfl (x := .none) rfl ?_)))
  refine wpAny_bind (m := mkInt c) (wpAny_mkInt ?_)
  refine wpAny_bind (wpAny_setField_rec he (by simp) fun u1 a1 b1 => wpAny_bind (wpAny_setField_rec a1 (by simp) fun u2 a2 b2 => wpAny_bind (wpAny_newTuple ?_)))
  have b12 : Heap.SameBut e hp u2 := but_trans b1 b2
  have z2 : u2.objs.size = hp.objs.size := b12.1
  have a3 : (u2.push { cls := .type "tuple", data := .seq #[.int c tk, x] }).get? e = some (EnR it .none (c + 1) held) := Heap.get?_push_of_some _ a2
  have p3 : (u2.push { cls := .type "tuple", data := .seq #[.int c tk, x] }).get? hp.objs.size = some { cls := .type "tuple", data := .seq #[.int c tk, x] } := by
    have := Heap.get?_push_size u2 (o := { cls := .type "tuple", data := .seq #[.int c tk, x] }) rfl
    rw [z2] at this
    exact this
  have q3 : (u2.push { cls := .type "tuple", data := .seq #[.int c tk, x] }).objs.size = hp.objs.size + 1 := by rw [Heap.size_push, z2]
  have r3 : ∀ b o, b ≠ e → hp.get? b = some o → (u2.push { cls := .type "tuple", data := .seq #[.int c tk, x] }).get? b = some o := fun b o hb eb => Heap.get?_push_of_some _ (by rw [b12.2 b hb]; exact eb)
  dsimp only
  rw [z2]
  generalize u2.push { cls := .type "tuple", data := .seq #[.int c tk, x] } = u3 at a3 p3 q3 r3
  unfold Builtin.SmallTypes.ownedTupleIsFree Builtin.SmallTypes.ownedTupleHandOut
  refine wpAny_bind (wpAny_bind (wpAny_field a3 rfl (x := .none) rfl (wpAny_pure ?_)))
  dsimp only
  rw [if_pos rfl]
  refine wpAny_bind (wpAny_rule (wpAny_bind (wpAny_field a3 rfl (x := held) rfl (wpAny_bind (wpAny_setField_rec a3 (by simp) fun u4 a4 b4 => ?_)))))
  refine wpAny_bind (wpAny_bind (wpAny_setField_rec a4 (by simp) fun u5 a5 b5 => wpAny_setField_rec a5 (by simp) fun u6 a6 b6 => wpAny_bind (wpAny_letGo (wpAny_pure ⟨_, rfl, ?_⟩))))
  have bA : Heap.SameBut e u3 u6 := but_trans b4 (but_trans b5 b6)
  exact hQ u6 a6 (by rw [bA.2 _ (Nat.ne_of_gt lt)]; exact p3) (by rw [bA.1]; exact q3) fun b o hb eb => by rw [bA.2 b hb]; exact r3 b o hb eb
end
section
variable {prog : Program} {w : World} {A : Around} {E : Value → Shared → Prop} {s : Shared}
theorem next_enum_c {e it l : Addr} {i : Nat} {c : Int} {items : Array Value} {x old : Value} {Q : Option Value → Shared → Prop}
    (he : IsEnum s.heap e it c old) (hit : s.heap.IsListIter it l i) (hl : s.heap.IsList l items) (hx : items[i]? = some x) (hne : e ≠ it)
    (hQ : ∀ h', IsEnumOut h' e it (c + 1) x s.heap.objs.size → h'.IsListIter it l (i + 1) →
      h'.get? s.heap.objs.size = some { cls := .type "tuple", data := .seq #[.int c s.toks, x] } → h'.objs.size = s.heap.objs.size + 1 →
      (∀ b o, b ≠ e → b ≠ it → s.heap.get? b = some o → h'.get? b = some o) → Q (some (.ref s.heap.objs.size)) { s with heap := h', toks := s.toks + 1 }) :
    wpAny (model prog w) A (pyNext (.ref e)) Q E s := by
  unfold pyNext
  refine wpAny_bind (wpAny_attempt (wpAny_callSpecial?_slot (name := Str.ofString "__next__") ⟨_, he, rfl⟩ F.slot_enumerate_next (wpAny_call_entry F.slot_enumerate_next ⟨_, he, rfl⟩ F.entry_enumerate_next (Q := _) ?_ (F.args_enumerate_next_1 _))))
  obtain ⟨hp, g, d, tk, os⟩ := s
  refine wpAny_bind (m := field (.ref e) 2) (wpAny_field he rfl (x := .ref it) rfl (wpAny_bind (wpAny_nextOf_list_item hit hl hx fun v1 it1 sb => ?_)))
  have sb : Heap.SameBut it hp v1 := sb
  have sz : v1.objs.size = hp.objs.size := sb.1
  refine en_tail (hp := v1) (by rw [sb.2 e hne]; exact he) fun h' r1 r2 r3 r4 => wpAny_pure ?_
  rw [sz] at r1 r2 r3 ⊢
  refine hQ h' r1 ?_ r2 r3 fun b o hb hi eb => r4 b o hb (by rw [sb.2 b hi]; exact eb)
  obtain ⟨oi, ei, ri⟩ := it1
  exact ⟨oi, r4 it oi (Ne.symm hne) ei, ri⟩
theorem next_enum_c_end {e it l : Addr} {i : Nat} {c : Int} {items : Array Value} {old : Value} {Q : Option Value → Shared → Prop} (hh : A.handled = none)
    (he : IsEnum s.heap e it c old) (hit : s.heap.IsListIter it l i) (hl : s.heap.IsList l items) (hx : items[i]? = none)
    (hQ : ∀ h', Heap.ExtBut it s.heap h' → Q none { s with heap := h' }) : wpAny (model prog w) A (pyNext (.ref e)) Q E s := by
  unfold pyNext
  refine wpAny_bind (wpAny_attempt (wpAny_callSpecial?_slot (name := Str.ofString "__next__") ⟨_, he, rfl⟩ F.slot_enumerate_next (wpAny_call_entry F.slot_enumerate_next ⟨_, he, rfl⟩ F.entry_enumerate_next ?_ (F.args_enumerate_next_1 _))))
  refine wpAny_bind (m := field (.ref e) 2) (wpAny_field he rfl (x := .ref it) rfl (wpAny_bind (wpAny_nextOf_list_end hh hit hl hx fun h' ex ext isS => ?_)))
  exact wpAny_bind (wpAny_isInstance (T := "StopIteration") (b := true) isS isSubtype_stop (wpAny_pure (hQ h' ext)))
end
abbrev kwS (c : Int) (t : Tok) : List (Str × Value) := [("start", .int c t)]
theorem en_new (l : Addr) (items : Array Value) (n : Nat) (dct : Option Addr) (sl : Array (Option Value)) (t : Tok) :
    Meets (Builtin.«enumerate.__new__» ⟨[.type "enumerate", .ref l], kwS 1 t⟩) (fun _ R s => s.heap.get? l = some { cls := .type "list", dict := dct, data := .seq items n, slots := sl } ∧
      R (.ok (.ret (.ref (s.heap.push { cls := .type "list_iterator", data := .fields #[.ref l, .int 0 0] }).objs.size)))
        { s with heap := (s.heap.push { cls := .type "list_iterator", data := .fields #[.ref l, .int 0 0] }).push (EnR s.heap.objs.size .none 1 .none) }) :=
  .of_wp fun prog w A R s ⟨hl, h⟩ => by
    cases s
    have hsub := sub_enumerate
    have hL : Heap.IsList _ l items := ⟨_, hl, rfl, n, rfl⟩
    wp_walk using AutoSeq1.wpAny_loadPart' hl
    refine wpAny_stack_any fun st => wpAny_pure ?_
    split
    · rename_i cv _ _ _ _ _
      cases (cv == Value.type "enumerate") <;> (wp_walk using AutoSeq1.wpAny_loadPart' hl, wpAny_pyIter_list hL; exact ⟨_, rfl, h⟩)
    · wp_walk using AutoSeq1.wpAny_loadPart' hl, wpAny_pyIter_list hL
      exact ⟨_, rfl, h⟩
theorem args_oi_kw (a b : Value) (c : Int) (t : Tok) : argsOk "object.__init__" ⟨[a, b], kwS c t⟩ := by
  unfold argsOk; kernel_rfl
theorem ct_kw (b : Value) (c : Int) (t : Tok) : checkTypeCall "enumerate" ⟨[b], kwS c t⟩ = pure () := by kernel_rfl
theorem cn_kw (b : Value) (c : Int) (t : Tok) : checkBuiltinCall "enumerate.__new__" ⟨[.type "enumerate", b], kwS c t⟩ = pure () := by kernel_rfl
section
variable {prog : Program} {w : World} {A : Around} {E : Value → Shared → Prop} {s : Shared}
theorem en_init {self b : Value} {kw : List (Str × Value)} : Meets (Builtin.«object.__init__» ⟨[self, b], kw⟩) (fun _ R s => s.TypeIs self "enumerate" ∧ R (.ok (.ret .none)) s) := by
  have hl := F.called_enumerate.init.lookup
  have hm := F.called_enumerate.made
  have hne : (some "enumerate.__new__" != some "object.__new__") = true := by decide
  refine .of_wp fun prog w A R s ⟨hT, hq⟩ => ?_
  repeat (any_goals (first | assumption | wp_step))
  exact ⟨_, rfl, hq⟩
theorem call_enum_1 {l : Addr} {items : Array Value} {t : Tok} {Q : Value → Shared → Prop} (hL : s.heap.IsList l items)
    (h : ∀ h', IsEnum h' (s.heap.objs.size + 1) s.heap.objs.size 1 .none → h'.IsListIter s.heap.objs.size l 0 → h'.objs.size = s.heap.objs.size + 2 →
      (∀ b o, s.heap.get? b = some o → h'.get? b = some o) → Q (.ref (s.heap.objs.size + 1)) { s with heap := h' }) :
    wpAny (model prog w) A (call (.type "enumerate") [.ref l] (kwS 1 t)) Q E s := by
  obtain ⟨⟨c, dct, dt, sl⟩, hl, rfl, n, rfl⟩ := hL
  have ft := F.called_enumerate
  obtain ⟨c0, tl, hmro⟩ := ft.mro
  have hmade := ft.made
  have hsub := ft.sub
  have h1 := ft.notType
  have h2 := ft.canCreate
  have hct := ct_kw (.ref l) 1 t
  have sz : (s.heap.push { cls := .type "list_iterator", data := .fields #[.ref l, .int 0 0] }).objs.size = s.heap.objs.size + 1 := Heap.size_push ..
  refine wpAny_call (codeAny_of_tree (wpAny_pure ⟨Code.quiet_builtin _ (by decide +kernel), codeAny_builtin F.entry_type_call ?_⟩))
  rw [Around.under_plain (weight_type_call_type _ _ _) (units_type_call_type _ _ _)]
  repeat (any_goals (first | assumption | wp_step))
  have made : wants (fun obj s₁ => s₁.TypeIs obj "enumerate" ∧ Q obj s₁) E (.ok (.ret (.ref (s.heap.push { cls := .type "list_iterator", data := .fields #[.ref l, .int 0 0] }).objs.size)))
      { s with heap := (s.heap.push { cls := .type "list_iterator", data := .fields #[.ref l, .int 0 0] }).push (EnR s.heap.objs.size .none 1 .none) } := by
    have at1 := Heap.get?_push_size (s.heap.push { cls := .type "list_iterator", data := .fields #[.ref l, .int 0 0] }) (o := EnR s.heap.objs.size .none 1 .none) rfl
    have at0 := Heap.get?_push_of_some (EnR s.heap.objs.size .none 1 .none) (Heap.get?_push_size s.heap (o := { cls := .type "list_iterator", data := .fields #[.ref l, .int 0 0] }) rfl)
    refine ⟨⟨_, at1, rfl⟩, ?_⟩
    rw [sz] at at1 ⊢
    exact h _ at1 ⟨_, at0, rfl, rfl⟩ (by rw [Heap.size_push, sz]) fun b o eb => Heap.get?_push_of_some _ (Heap.get?_push_of_some _ eb)
  refine codeAny_mono (codeAny_call_builtin ft.plain F.entry_enumerate_new (wpAny_of_eq (cn_kw _ _ _) (en_new l items n dct sl t prog w A.in1 _ s ⟨hl, made⟩))) ?_
  rintro (ee | fl) s1 hr
  · exact hr
  · cases fl
    case ret obj =>
      obtain ⟨hT, hq⟩ := hr
      have hli := ft.init.lookup
      have hbi := ft.init.bind obj
      repeat (any_goals (first | assumption | wp_step))
      refine codeAny_mono (codeAny_call_builtin ft.init.plain F.entry_object_init (ft.init.check _ _ _ _ _ _ _ _ hT (args_oi_kw obj _ _ _) (en_init prog w A.in1 (wants (fun r s2 => r = .none ∧ Q obj s2) E) s1 ⟨hT, rfl, hq⟩))) ?_
      rintro (ee | fl) s2 hr2
      · exact hr2
      · cases fl
        case ret rv =>
          obtain ⟨rfl, hq2⟩ := hr2
          repeat (any_goals (first | assumption | wp_step))
        all_goals exact hr2.elim
    all_goals exact hr.elim
theorem callWith_type_kw {M : Model} {pos : Pos} {T : String} {first : List Value} {args : List (Bool × Sem Value)} {kws : List (Option Str × Sem Value)} {Q : Value → Shared → Prop}
    (hplain : args.any (·.1) = false) (hkw : kws.any (·.1.isNone) = false)
    (h : wpAny M A (evalArgs (.type T) true args kws) (fun a s1 => wpAny M A (call (.type T) (first ++ a.pos) a.kw) Q E s1) E s) : wpAny M A (callWith pos (.type T) first args kws) Q E s := by
  have st : (args.any (·.1) || kws.any (·.1.isNone)) = false := by rw [hplain, hkw]; rfl
  unfold callWith
  refine wpAny_bind (wpAny_holding (wpAny_mono h (fun a s1 q => wpAny_bind (wpAny_standAt ?_)) fun _ _ e => e))
  rw [st]
  exact wpAny_bind (wpAny_pure (wpAny_bind (wpAny_mono q (fun r s2 q2 => wpAny_bind (wpAny_holding (wpAny_point (wpAny_pure q2)))) fun _ _ e => e)))
end
end SS
end
section
set_option maxRecDepth 100000
set_option maxHeartbeats 2000000
namespace SS
open PySem PySem.Calls PyProof.Rows
open Sem (wp)
open AutoSeq1 (wpAny_loadPart')
open PySem.SeqAt
theorem wp_cons {M : Model} {A : Around} {E : Value → Shared → Prop} {β : Type} {x : Nat} {l : List Nat} {b : β} {f : Nat → β → Sem (ForInStep β)} {Q : β → Shared → Prop} {s : Shared}
    (h : wpAny M A (f x b) (fun r s' => match r with | .done b' => Q b' s' | .yield b' => wpAny M A (forIn l b' f) Q E s') E s) : wpAny M A (forIn (x :: l) b f) Q E s := by
  rw [List.forIn_cons]
  refine wpAny_bind (wpAny_mono h (fun r s' h' => ?_) fun _ _ e => e)
  cases r with
  | done b' => exact wpAny_pure h'
  | yield b' => exact h'
theorem wp_range {M : Model} {A : Around} {E : Value → Shared → Prop} {β : Type} {b : Nat} {c : β} {f : Nat → β → Sem (ForInStep β)} {Q : β → Shared → Prop} {s : Shared} (h : wpAny M A (forIn (List.range' 0 b) c f) Q E s) : wpAny M A (forIn ([:b] : Std.Legacy.Range) c f) Q E s := by
  rw [Std.Legacy.Range.forIn_eq_forIn_range']
  have hsz : ([:b] : Std.Legacy.Range).size = b := by simp [Std.Legacy.Range.size]
  show wpAny M A (forIn (List.range' 0 ([:b] : Std.Legacy.Range).size 1) c f) Q E s
  rw [hsz]
  exact h
theorem wp_search {M : Model} {A : Around} {E : Value → Shared → Prop} {β : Type} {b : β} {f : Nat → β → Sem (ForInStep β)} {Q : β → Shared → Prop} {s : Shared} {n j : Nat} (hj : j < n)
    (h1 : ∀ i, i < j → ∀ Q' : ForInStep β → Shared → Prop, Q' (.yield b) s → wpAny M A (f i b) Q' E s) (h2 : wpAny M A (f j b) (fun r s' => ∃ b', r = .done b' ∧ Q b' s') E s) : wpAny M A (forIn (List.range' 0 n) b f) Q E s := by
  have key : ∀ k i, n - i = k → i ≤ j → wpAny M A (forIn (List.range' i k) b f) Q E s := by
    intro k
    induction k with
    | zero => intro i hk hi; omega
    | succ k ih =>
      intro i hk hi
      rw [List.range'_succ]
      refine wp_cons ?_
      by_cases c : i = j
      · subst c
        exact wpAny_mono h2 (fun r s' ⟨b', e, q⟩ => by rw [e]; exact q) fun _ _ e => e
      · exact h1 i (by omega) _ (ih (i + 1) (by omega) (by omega))
  exact key n 0 (by omega) (Nat.zero_le _)
theorem tuple_indexAt (l : Addr) (items : Array Value) (n : Nat) (dd : Option Addr) (sl : Array (Option Value)) (x : Value) (e : Value → Bool) (j : Nat) (hj : j < items.size)
    (hit : e items[j] = true) (hno : ∀ m (hm : m < items.size), m < j → e items[m] = false) :
    Meets (Builtin.«tuple.index» ⟨[.ref l, x], []⟩)
      (fun A R s => s.heap.get? l = some { cls := .type "tuple", dict := dd, data := .seq items n, slots := sl } ∧ (∀ y, y ∈ items → EqAt A.in1 s y x (e y)) ∧ R (.ok (.ret (.int j s.toks))) { s with toks := s.toks + 1 }) := by
  refine .of_wp fun prog w A R s h => ?_
  obtain ⟨hp, g, d, tk, os⟩ := s; obtain ⟨hl, he, h⟩ := h
  wp_walk using wpAny_loadPart' hl
  rw [Nat.min_self]
  change wpAny _ _ (forIn ([:items.size] : Std.Legacy.Range) (none, ()) _) _ _ _
  refine wp_range ?_
  refine wp_search hj (fun i hi Q' q => ?_) ?_
  · have hlt : i < items.size := by omega
    simp only [Array.getElem?_eq_getElem hlt]
    refine wpAny_bind ((he _ (Array.getElem_mem hlt)) _ _ _ _ ?_)
    rw [hno i hlt hi]
    exact wpAny_pure q
  · simp only [Array.getElem?_eq_getElem hj]
    refine wpAny_bind ((he _ (Array.getElem_mem hj)) _ _ _ _ ?_)
    rw [hit]
    exact wpAny_bind (wpAny_bind (wpAny_mkInt (wpAny_pure (wpAny_pure ⟨_, rfl, wpAny_pure ⟨_, rfl, h⟩⟩))))
end SS
end
section
set_option maxRecDepth 100000
set_option maxHeartbeats 2000000
namespace SS
open PySem PySem.Calls PyProof.Rows PySem.W
open Sem (wp)
section
variable {prog : Program} {w : World} {A : Around} {E : Value → Shared → Prop} {s : Shared}
theorem collect_src {T : String} {r d : Addr} {n : Nat} {P : Nat → Value → Prop} {OK : Heap → Prop} {Q : List Value → Shared → Prop} (K : KdlSrc prog w T r d n P OK) (hh : A.handled = none) (hok : OK s.heap) (hn : n ≤ sizeLine)
    (hQ : ∀ h' tk acc, (∀ b o, s.heap.get? b = some o → h'.get? b = some o) → s.heap.objs.size ≤ h'.objs.size → ItemsOf P acc n → Q acc.toList { s with heap := h', toks := tk }) : wpAny (model prog w) A (collect (.ref r)) Q E s := by
  obtain ⟨l1, l2⟩ := K.there _ hok
  unfold collect
  refine wpAny_bind (wpAny_runValue (codeAny_builtin F.entry_proto_collect ?_))
  rw [Around.under_plainId F.plain_proto_collect _]
  show wpAny _ A.in1 (newList [] >>= fun l => again (.builtin "list.__iadd__" ⟨[l, .ref r], []⟩)) _ _ s
  refine wpAny_bind (wpAny_newObj_type ?_)
  refine wpAny_pure ⟨plainId_quiet F.plain_list_iadd _, codeAny_builtin F.entry_list_iadd ?_⟩
  rw [Around.under_plainId F.plain_list_iadd _]
  show wpAny _ A.in1 (Builtin.List.listExtendWith (.ref s.heap.objs.size) (.ref r) (.ref s.heap.objs.size)) _ _ _
  have hS : (s.heap.push { cls := .type "list", data := .seq #[] }).get? s.heap.objs.size = some { cls := .type "list", data := .seq #[] } := Heap.get?_push_size _ rfl
  have fin : ∀ (r' : Result) (s' : Shared), (∃ h' tk acc c', r' = .ok (.ret (.ref s.heap.objs.size)) ∧ s' = { s with heap := h', toks := tk } ∧ (∀ b o, b ≠ s.heap.objs.size → (s.heap.push { cls := .type "list", data := .seq #[] }).get? b = some o → h'.get? b = some o) ∧ h'.get? s.heap.objs.size = some { cls := .type "list", dict := none, data := .seq acc c', slots := #[] } ∧ ItemsOf P acc n) →
      match r' with
        | Except.ok (Flow.ret v) =>
          wpAny (model prog w) A
            (match v with
            | Value.ref a => do
              let __do_lift ← load a
              match __do_lift.data with
                | Data.seq xs epoch => pure xs.toList
                | x => unsupported "internal:collect"
            | x => unsupported "internal:collect")
            Q E s'
        | Except.ok a => False
        | Except.error e => E e s' := by
    rintro r' s' ⟨h', tk, acc, c', rfl, rfl, hk, hS', hacc⟩
    show wpAny _ A (load s.heap.objs.size >>= _) _ _ _
    refine wpAny_bind (wpAny_load hS' ?_)
    exact wpAny_pure (hQ h' tk acc (fun b o e => hk b o (Nat.ne_of_lt (Heap.lt_size e)) (Heap.get?_push_of_some _ e)) (Nat.le_of_lt (Heap.lt_size hS')) hacc)
  have key := kdl_extend (A := A) (s := { s with heap := s.heap.push { cls := .type "list", data := .seq #[] } }) (R := fun r' s' => ∃ h' tk acc c', r' = .ok (.ret (.ref s.heap.objs.size)) ∧ s' = { s with heap := h', toks := tk } ∧ (∀ b o, b ≠ s.heap.objs.size → (s.heap.push { cls := .type "list", data := .seq #[] }).get? b = some o → h'.get? b = some o) ∧ h'.get? s.heap.objs.size = some { cls := .type "list", dict := none, data := .seq acc c', slots := #[] } ∧ ItemsOf P acc n)
    K hh (K.keep _ _ hok fun b _ o e => Heap.get?_push_of_some _ e) s.heap.objs.size (Nat.ne_of_gt l1) (Nat.ne_of_gt l2) (.ref s.heap.objs.size) 0 hS (fun h' tk acc' c' hk hS' hacc => ⟨h', tk, acc', c', rfl, rfl, hk, hS', hacc⟩) hn
  refine wpAny_mono key (fun f s' h' => ?_) fun e s' h' => ?_
  · cases f with
    | done f => exact fin _ _ h'
    | again c => exact ⟨h'.1, codeAny_mono h'.2 fun r' s'' q => fin _ _ q⟩
  · exact fin _ _ h'
theorem sorted_src {T : String} {r d : Addr} {n : Nat} {P : Nat → Value → Prop} {OK : Heap → Prop} {ns : List Int} {Q : Value → Shared → Prop} (K : KdlSrc prog w T r d n P OK) (hh : A.handled = none) (hok : OK s.heap) (hn : n ≤ sizeLine)
    (hP : ∀ vs : List Value, vs.length = n → (∀ j v, vs[j]? = some v → P j v) → IntsAre vs ns)
    (h : ∀ (out : Array Value) (ns' : List Int) (h' : Heap) (a : Addr) (tk e : Nat), IntsAre out.toList ns' → ns'.Perm ns → ns'.Pairwise (· ≤ ·) → (∀ b o, s.heap.get? b = some o → h'.get? b = some o) → s.heap.objs.size ≤ a → h'.get? a = some (seqObj "list" out e) → Q (.ref a) { s with heap := h', toks := tk }) :
    wpAny (model prog w) A (call (.builtin "sorted") [.ref r]) Q E s := by
  refine Calls.call_function_entry kind_sorted plain_sorted entry_sorted (args_sorted1 _) ?_
  unfold Builtin.«sorted»
  refine wpAny_bind (m := checkCount "sorted" 1 1 _) (wpAny_pure ?_)
  refine wpAny_bind (collect_src K hh hok hn fun h1 tk acc hk hsz hacc => ?_)
  refine wpAny_bind (wpAny_newList (hsz := by rw [Array.length_toList, hacc.1]; exact hn) ?_)
  have hI : IntsAre acc.toList ns := hP _ (by rw [Array.length_toList]; exact hacc.1) fun j v e => hacc.2 j v (by rw [← Array.getElem?_toList]; exact e)
  have hoL : (h1.push (seqObj "list" acc.toList.toArray 0)).get? h1.objs.size = some (seqObj "list" acc.toList.toArray 0) := Heap.get?_push_size _ rfl
  show wpAny _ _ _ _ _ { s with heap := h1.push (seqObj "list" acc.toList.toArray 0), toks := tk }
  refine wpAny_bind (wpAny_holding (wpAny_call_entry slot_list_sort ⟨_, hoL, rfl⟩ entry_list_sort (list_sort_treeAny hoL hI (by rw [Array.length_toList, hacc.1]; exact hn) fun out ns' a1 a2 a3 => ⟨_, rfl, ?_⟩) (args_list_sort _)))
  obtain ⟨e, he⟩ := sortedHeap_at (vs := acc.toList) (out := out) hoL
  refine wpAny_pure ⟨_, rfl, h out ns' _ _ tk e a1 a2 a3 (fun b o eb => ?_) hsz he⟩
  have hb := Heap.lt_size (hk b o eb)
  rw [sortedHeap_old (Nat.ne_of_lt hb) (by rw [size_push']; exact Nat.lt_succ_of_lt hb)]
  exact Heap.get?_push_of_some _ (hk b o eb)
end
end SS
end
section
set_option maxRecDepth 100000
namespace L2
open PySem PySem.Spec PyProof.Rows
abbrev Key := Sum Int Str
def keyIs : Key → Value → Bool
  | .inl k, v => Value.isInt k v
  | .inr x, v => Value.isStrOf x v
def keyH (w : World) : Key → Int
  | .inl k => hashInt k
  | .inr x => hashStr w x
theorem keyIs_shape : ∀ {k : Key} {v : Value}, keyIs k v = true → (∃ i t, k = Sum.inl i ∧ v = Value.int i t) ∨ (∃ x t, k = Sum.inr x ∧ v = Value.str x t)
  | .inl i, v, h => by
    obtain ⟨t, e⟩ := Value.isInt_shape (k := i) (v := v) h
    exact .inl ⟨i, t, rfl, e⟩
  | .inr x, v, h => by
    obtain ⟨t, e⟩ := Value.isStrOf_shape (x := x) (v := v) h
    exact .inr ⟨x, t, rfl, e⟩
theorem keyIs_int (i : Int) (t : Tok) : keyIs (.inl i) (.int i t) = true := by simp [keyIs, Value.isInt]
theorem keyIs_str (x : Str) (t : Tok) : keyIs (.inr x) (.str x t) = true := by simp [keyIs, Value.isStrOf]
theorem key_ll (a b : Int) : decide ((Sum.inl a : Key) = Sum.inl b) = (a == b) := by
  by_cases e : a = b
  · subst e; simp
  · have h : ¬ (Sum.inl a : Key) = Sum.inl b := fun q => e (Sum.inl.inj q)
    rw [decide_eq_false h]
    exact (beq_eq_false_iff_ne.mpr e).symm
theorem key_rr (a b : Str) : decide ((Sum.inr a : Key) = Sum.inr b) = decide (a = b) := by
  by_cases e : a = b
  · subst e; simp
  · have h : ¬ (Sum.inr a : Key) = Sum.inr b := fun q => e (Sum.inr.inj q)
    rw [decide_eq_false h, decide_eq_false e]
theorem key_lr (a : Int) (b : Str) : decide ((Sum.inl a : Key) = Sum.inr b) = false := decide_eq_false (fun q => nomatch q)
theorem key_rl (a : Str) (b : Int) : decide ((Sum.inr a : Key) = Sum.inl b) = false := decide_eq_false (fun q => nomatch q)
def mixKind (prog : Program) (w : World) : PySem.KeyKind prog w Key where
  is := keyIs
  hash := keyH w
  inj := fun v a b ha hb => by
    rcases keyIs_shape ha with ⟨i, t, rfl, rfl⟩ | ⟨x, t, rfl, rfl⟩
    · rcases keyIs_shape hb with ⟨j, u, rfl, e⟩ | ⟨y, u, rfl, e⟩
      · injection e with e1 _; rw [e1]
      · exact nomatch e
    · rcases keyIs_shape hb with ⟨j, u, rfl, e⟩ | ⟨y, u, rfl, e⟩
      · exact nomatch e
      · injection e with e1 _; rw [e1]
  byValue := fun k v h => by
    rcases keyIs_shape h with ⟨i, t, rfl, rfl⟩ | ⟨x, t, rfl, rfl⟩ <;> rfl
  pyHash := fun hv h => by
    rcases keyIs_shape hv with ⟨i, t, rfl, rfl⟩ | ⟨x, t, rfl, rfl⟩
    · exact wpAny_pyHash_int h
    · exact wpAny_pyHash_str h
  eqBool := fun hu hv h => by
    rcases keyIs_shape hu with ⟨i, t, rfl, rfl⟩ | ⟨x, t, rfl, rfl⟩
    · rcases keyIs_shape hv with ⟨j, u, rfl, rfl⟩ | ⟨y, u, rfl, rfl⟩
      · rw [key_ll] at h; exact wpAny_eqBool_int h
      · rw [key_lr] at h; exact SeqAt.EqAt.int_str i t y u _ _ _ _ h
    · rcases keyIs_shape hv with ⟨j, u, rfl, rfl⟩ | ⟨y, u, rfl, rfl⟩
      · rw [key_rl] at h; exact SeqAt.EqAt.str_int x t j u _ _ _ _ h
      · rw [key_rr] at h; exact wpAny_eqBool_str h
  «strs» := fun k x t v h => by
    rcases keyIs_shape h with ⟨i, u, rfl, e⟩ | ⟨y, u, rfl, e⟩
    · exact nomatch e
    · injection e with e1 _
      subst e1
      cases v <;> rfl
theorem mixKind_int (prog : Program) (w : World) (i : Int) (t : Tok) : (mixKind prog w).is (.inl i) (.int i t) = true := keyIs_int i t
theorem mixKind_str (prog : Program) (w : World) (x : Str) (t : Tok) : (mixKind prog w).is (.inr x) (.str x t) = true := keyIs_str x t
end L2
namespace L2
open PySem PySem.Spec PyProof.Rows
inductive V where
  | non | bl (b : Bool) | int (i : Int) | str (x : Str) | byt (b : Array UInt8) | flt (b : UInt64) | ref (a : Addr) | ty (n : String)
  deriving DecidableEq
def RelV : V → Value → Prop
  | .non, u => u = Value.none
  | .bl b, u => u = Value.bool b
  | .int i, u => ∃ t, u = Value.int i t
  | .str x, u => ∃ t, u = Value.str x t
  | .byt b, u => ∃ t, u = Value.bytes b t
  | .flt b, u => ∃ t, u = Value.float b t
  | .ref a, u => u = Value.ref a
  | .ty n, u => u = Value.type n
abbrev Vals : List V → List Value → Prop := Paired RelV
theorem Vals.length {xs : List V} {us : List Value} (r : Vals xs us) : xs.length = us.length := Paired.length r
theorem Vals.get : ∀ {xs : List V} {us : List Value} {i : Nat} {x : V}, Vals xs us → xs[i]? = some x → ∃ u, us[i]? = some u ∧ RelV x u
  | _, _, _, _, .nil, e => by simp at e
  | _, _, 0, _, .cons r _, e => by simp at e; subst e; exact ⟨_, rfl, r⟩
  | _, _, i + 1, x, .cons _ t, e => by
    obtain ⟨u, h1, h2⟩ := Vals.get (i := i) (x := x) t (by simpa using e)
    exact ⟨u, by simpa using h1, h2⟩
theorem Vals.set {x : V} {u : Value} (r : RelV x u) : ∀ {xs : List V} {us : List Value} (i : Nat), Vals xs us → Vals (xs.set i x) (us.set i u)
  | _, _, _, .nil => .nil
  | _, _, 0, .cons _ t => .cons r t
  | _, _, i + 1, .cons q t => .cons q (Vals.set r i t)
theorem Vals.append : ∀ {xs ys : List V} {us ws : List Value}, Vals xs us → Vals ys ws → Vals (xs ++ ys) (us ++ ws)
  | _, _, _, _, .nil, s => s
  | _, _, _, _, .cons r t, s => .cons r (Vals.append t s)
theorem Vals.take : ∀ {xs : List V} {us : List Value} (n : Nat), Vals xs us → Vals (xs.take n) (us.take n)
  | _, _, 0, _ => .nil
  | _, _, _ + 1, .nil => .nil
  | _, _, n + 1, .cons r t => .cons r (Vals.take n t)
theorem Vals.drop : ∀ {xs : List V} {us : List Value} (n : Nat), Vals xs us → Vals (xs.drop n) (us.drop n)
  | _, _, 0, r => r
  | _, _, _ + 1, .nil => .nil
  | _, _, n + 1, .cons _ t => Vals.drop n t
def RelO : Option V → Option Value → Prop
  | some v, some u => RelV v u
  | none, none => True
  | _, _ => False
def KV {κ : Type} : List (κ × V) → List (κ × Value) → Prop := Paired fun (p : κ × V) (q : κ × Value) => p.1 = q.1 ∧ RelV p.2 q.2
def kV : Key → V
  | .inl i => .int i
  | .inr x => .str x
inductive HO where
    | lst (xs : List V)
    | tup (xs : List V)
    | dK (kvs : List (Key × V)) | dT (kvs : List (List Key × V))
    | set (S : Int → Bool) (n : Nat)
    | ins (C dx : Addr) (fs : List (Str × V))
    | own (x : Addr)
    | xd (fs : List (Str × V))
    | met (f x : Addr)
    | rng (lo hi : Int)
    | frz (o : Obj) (u : HO)
    | tbl (ps : Array Value)
    | ext (φ : Heap → Prop)
abbrev Hp := Addr → Option HO
def upd (H : Hp) (a : Addr) (o : HO) : Hp := fun b => if b = a then some o else H b
theorem upd_same {H : Hp} {a : Addr} {o : HO} : upd H a o a = some o := by unfold upd; rw [if_pos rfl]
theorem upd_ne {H : Hp} {a b : Addr} {o : HO} (h : b ≠ a) : upd H a o b = H b := by unfold upd; rw [if_neg h]
theorem upd_upd {H : Hp} {a : Addr} {o u : HO} : upd (upd H a o) a u = upd H a u := by
  funext b; unfold upd; split <;> rfl
theorem ne_of {H : Hp} {a b : Addr} {o u : HO} (h : H a = some o) (h' : H b = some u) (d : o ≠ u) : a ≠ b := by
  intro e; subst e; rw [h] at h'; exact d (Option.some.inj h')
theorem ne_of_none {H : Hp} {a b : Addr} {o : HO} (h : H a = some o) (h' : H b = none) : a ≠ b := by
  intro e; subst e; rw [h] at h'; cases h'
section
variable (P : Program) (w : World)
def ObjOk (H : Hp) (h : Heap) (a : Addr) : HO → Prop
  | .lst xs => xs.length ≤ sizeLine ∧ ∃ (its : List Value) (n : Nat), Vals xs its ∧ h.get? a = some { cls := .type "list", data := .seq its.toArray n }
  | .tup xs => xs.length ≤ sizeLine ∧ ∃ its : List Value, Vals xs its ∧ IsTup h a its.toArray
  | .dK kvs => kvs.length ≤ sizeLine ∧ (a == sysModules) = false ∧ ∃ vs, KV kvs vs ∧ h.DictOf (mixKind P w) a vs
  | .dT kvs => kvs.length ≤ sizeLine ∧ (a == sysModules) = false ∧ ∃ xs : List (List Key × Addr × Value),
      Paired (fun (p : List Key × V) (q : List Key × Addr × Value) => p.1 = q.1 ∧ H q.2.1 = some (.tup (p.1.map kV)) ∧ RelV p.2 q.2.2) kvs xs ∧
      ∃ o es ep, h.get? a = some o ∧ o.ExactDict ∧ o.data = .dict es ep ∧ es.toList = xs.map (entryOfKey (tupleKind (mixKind P w))) ∧ (xs.map (·.1)).Nodup
  | .set S n => h.SetOf (intKind P w) a S n
  | .ins C dx fs => H dx = some (.own a) ∧ fs.length ≤ 1000 ∧ dx ≠ a ∧ h.get? a = some (PySem.W.instObj C dx) ∧
      ∃ mA, h.Ns1 dx mA ∧ (∀ f, RelO (fs.lookup f) (mA f)) ∧ PySem.Within mA (fs.map (·.1))
  | .own _ => ∃ o, h.get? a = some o
  | .xd fs => ∃ mA, h.Ns1 a mA ∧ ∀ f, RelO (fs.lookup f) (mA f)
  | .rng lo hi => ∃ t u v, h.get? a = some { cls := .type "range", data := .fields #[.int lo t, .int hi u, .int 1 v] }
  | .frz o u => h.get? a = some o ∧ ObjOk H h a u
  | .tbl ps => h.get? a = some { cls := .none, data := .fields ps }
  | .met f x => h.get? a = some (PySem.W.methodObj (.ref f) (.ref x))
  | .ext φ => φ h ∧ (∃ o, h.get? a = some o) ∧ ∀ h1 h2 : Heap, φ h1 → (∀ o, h1.get? a = some o → h2.get? a = some o) → φ h2
def HOk (H : Hp) (h : Heap) : Prop := ∀ a o, H a = some o → ObjOk P w H h a o
end
section
variable {P : Program} {w : World} {H H' : Hp} {h h' : Heap} {a : Addr} {o : HO}
theorem ObjOk.lt (x : ObjOk P w H h a o) : a < h.objs.size := by
  cases o with
  | lst xs => obtain ⟨_, _, _, _, e⟩ := x; exact Heap.lt_size e
  | tup xs => obtain ⟨_, _, _, p⟩ := x; exact p.lt
  | dK kvs => obtain ⟨_, _, _, _, o, _, _, e, _⟩ := x; exact Heap.lt_size e
  | dT kvs => obtain ⟨_, _, _, _, o, _, _, e, _⟩ := x; exact Heap.lt_size e
  | set S n => obtain ⟨o, _, _, _, e, _⟩ := x; exact Heap.lt_size e
  | ins C dx fs => obtain ⟨_, _, _, e, _⟩ := x; exact Heap.lt_size e
  | own y => obtain ⟨_, e⟩ := x; exact Heap.lt_size e
  | xd fs => obtain ⟨_, ⟨_, _, _, e, _⟩, _⟩ := x; exact Heap.lt_size e
  | rng lo hi => obtain ⟨_, _, _, e⟩ := x; exact Heap.lt_size e
  | frz ob u => obtain ⟨e, _⟩ := x; exact Heap.lt_size e
  | tbl ps => exact Heap.lt_size (show h.get? a = some _ from x)
  | met f y => exact Heap.lt_size (show h.get? a = some _ from x)
  | ext φ => obtain ⟨_, ⟨_, e⟩, _⟩ := x; exact Heap.lt_size e
theorem Paired.mapP {α β : Type} {F G : α → β → Prop} : ∀ {l₁ : List α} {l₂ : List β}, Paired F l₁ l₂ → (∀ a b, F a b → G a b) → Paired G l₁ l₂
  | _, _, .nil, _ => .nil
  | _, _, .cons r t, f => .cons (f _ _ r) (Paired.mapP t f)
theorem ObjOk.stay (x : ObjOk P w H h a o) (k : ∀ b u, (b = a ∨ H b = some (.own a)) → h.get? b = some u → h'.get? b = some u)
    (ho : ∀ b, H b = some (.own a) → H' b = some (.own a)) (ht : ∀ b xs, H b = some (.tup xs) → H' b = some (.tup xs)) : ObjOk P w H' h' a o := by
  induction o with
  | lst xs => obtain ⟨z, its, n, r, e⟩ := x; exact ⟨z, its, n, r, k _ _ (.inl rfl) e⟩
  | tup xs => obtain ⟨z, its, r, ob, e, c⟩ := x; exact ⟨z, its, r, ob, k _ _ (.inl rfl) e, c⟩
  | dK kvs => obtain ⟨z, y, vs, r, ob, es, ep, e, c⟩ := x; exact ⟨z, y, vs, r, ob, es, ep, k _ _ (.inl rfl) e, c⟩
  | dT kvs =>
    obtain ⟨z, y, xs, r, ob, es, ep, e, c⟩ := x
    exact ⟨z, y, xs, Paired.mapP r fun p q z => ⟨z.1, ht _ _ z.2.1, z.2.2⟩, ob, es, ep, k _ _ (.inl rfl) e, c⟩
  | set S n => obtain ⟨ob, es, ep, t, e, c⟩ := x; exact ⟨ob, es, ep, t, k _ _ (.inl rfl) e, c⟩
  | ins C dx fs =>
    obtain ⟨d, z, ne, e, mA, ⟨od, es, ep, e2, c⟩, r⟩ := x
    exact ⟨ho _ d, z, ne, k _ _ (.inl rfl) e, mA, ⟨od, es, ep, k _ _ (.inr d) e2, c⟩, r⟩
  | own y => obtain ⟨ob, e⟩ := x; exact ⟨ob, k _ _ (.inl rfl) e⟩
  | xd fs => obtain ⟨mA, ⟨od, es, ep, e, c⟩, r⟩ := x; exact ⟨mA, ⟨od, es, ep, k _ _ (.inl rfl) e, c⟩, r⟩
  | rng lo hi => obtain ⟨t, u, v, e⟩ := x; exact ⟨t, u, v, k _ _ (.inl rfl) e⟩
  | frz ob u ih => obtain ⟨e, q⟩ := x; exact ⟨k _ _ (.inl rfl) e, ih q⟩
  | tbl ps =>
    have e : h.get? a = some { cls := .none, data := .fields ps } := x
    show h'.get? a = some { cls := .none, data := .fields ps }
    exact k a _ (.inl rfl) e
  | met f y =>
    have e : h.get? a = some (PySem.W.methodObj (.ref f) (.ref y)) := x
    show h'.get? a = some (PySem.W.methodObj (.ref f) (.ref y))
    exact k a _ (.inl rfl) e
  | ext φ => obtain ⟨p, ⟨o, e⟩, st⟩ := x; exact ⟨st _ _ p fun o q => k _ _ (.inl rfl) q, ⟨o, k _ _ (.inl rfl) e⟩, st⟩
theorem HOk.lt (x : HOk P w H h) (e : H a = some o) : a < h.objs.size := (x a o e).lt
theorem HOk.fresh (x : HOk P w H h) (e : h.objs.size ≤ a) : H a = none := by
  cases q : H a with
  | none => rfl
  | some u => exact absurd (Nat.lt_of_lt_of_le (x.lt q) e) (Nat.lt_irrefl _)
theorem HOk.kept (x : HOk P w H h) (k : ∀ b u, h.get? b = some u → h'.get? b = some u) : HOk P w H h' := fun a o e =>
  (x a o e).stay (fun b u _ q => k b u q) (fun _ q => q) fun _ _ q => q
theorem HOk.laid (x : HOk P w H h) (k : ∀ b u, h.get? b = some u → h'.get? b = some u) (hp : h.objs.size ≤ a) (new : ObjOk P w (upd H a o) h' a o) : HOk P w (upd H a o) h' := fun b u e => by
  have hn := x.fresh hp
  by_cases hb : b = a
  · subst hb; rw [upd_same] at e; cases e; exact new
  · rw [upd_ne hb] at e
    exact (x b u e).stay (fun c v _ q => k c v q) (fun c q => by rw [upd_ne (ne_of_none q hn)]; exact q) fun c xs q => by rw [upd_ne (ne_of_none q hn)]; exact q
end
def Rd (H : Hp) (a : Addr) (u : HO) : Prop := H a = some u ∨ ∃ o, H a = some (.frz o u)
theorem Rd.ok {P : Program} {w : World} {H : Hp} {h : Heap} {a : Addr} {u : HO} (r : Rd H a u) (x : HOk P w H h) : ObjOk P w H h a u := by
  rcases r with r | ⟨o, r⟩
  · exact x a u r
  · obtain ⟨_, q⟩ := x a _ r
    exact q
def Mut : Option HO → Prop
  | some (.lst _) => True
  | some (.dK _) => True
  | some (.dT _) => True
  | some (.set _ _) => True
  | some (.ins _ _ _) => True
  | some (.ext _) => True
  | _ => False
section
variable {P : Program} {w : World} {H : Hp} {h h' : Heap} {x e : Addr} {o' : HO}
theorem HOk.write (ok : HOk P w H h) (mu : Mut (H x)) (he : e = x ∨ H e = some (.own x)) (k : ∀ b u, b ≠ e → h.get? b = some u → h'.get? b = some u) (heo : ∃ u, h'.get? e = some u)
    (new : ObjOk P w (upd H x o') h' x o') : HOk P w (upd H x o') h' := fun b u q => by
  have nown : ∀ c y, H c = some (.own y) → c ≠ x := fun c y r z => by subst z; rw [r] at mu; exact mu
  have ntup : ∀ c xs, H c = some (.tup xs) → c ≠ x := fun c xs r z => by subst z; rw [r] at mu; exact mu
  by_cases hb : b = x
  · subst hb; rw [upd_same] at q; cases q; exact new
  · rw [upd_ne hb] at q
    by_cases hbe : b = e
    · have q' : H b = some (.own x) := by
        rcases he with z | z
        · exact absurd (hbe.trans z) hb
        · rw [hbe]; exact z
      rw [q] at q'; cases q'
      obtain ⟨v, hv⟩ := heo
      exact ⟨v, by rw [hbe]; exact hv⟩
    · refine (ok b u q).stay (fun c v hc r => k c v ?_ r) (fun c r => by rw [upd_ne (nown c b r)]; exact r) fun c xs r => by rw [upd_ne (ntup c xs r)]; exact r
      rcases hc with rfl | hc
      · exact hbe
      · rintro rfl
        rcases he with z | z
        · exact nown c b hc z
        · rw [hc] at z; cases z; exact hb rfl
end
structure Un (fs ex : List Addr) (H H' : Hp) (h h' : Heap) : Prop where
  keep : ∀ b o, h.get? b = some o → H b = none → b ∉ fs → b ∉ ex → h'.get? b = some o
  slot : ∀ b o, h.get? b = some o → H b = none → b ∈ fs → b ∉ ex → ∃ sl, h'.get? b = some { o with slots := sl }
  free : ∀ b o, h.get? b = some o → H b = none → b ∉ ex → H' b = none
  there : ∀ b o, h.get? b = some o → b ∉ ex → ∃ o', h'.get? b = some o'
  tups : ∀ b xs, H b = some (.tup xs) → H' b = some (.tup xs)
  frzs : ∀ b o u, H b = some (.frz o u) → H' b = some (.frz o u)
  tbls : ∀ b ps, H b = some (.tbl ps) → ∃ more, H' b = some (.tbl (ps ++ more))
section
variable {fs fs' ex ex' : List Addr} {H H1 H2 : Hp} {h h1 h2 h' : Heap} {a x e : Addr} {o : HO}
theorem Un.any (u : Un fs ex H H1 h h1) {b : Addr} {ob : Obj} (q : h.get? b = some ob) (n : H b = none) (hx : b ∉ ex) : ∃ sl, h1.get? b = some { ob with slots := sl } := by
  by_cases hb : b ∈ fs
  · exact u.slot b ob q n hb hx
  · exact ⟨ob.slots, u.keep b ob q n hb hx⟩
theorem Un.kept (k : ∀ b u, h.get? b = some u → h'.get? b = some u) : Un fs ex H H h h' :=
  ⟨fun b ob q _ _ _ => k b ob q, fun b ob q _ _ _ => ⟨ob.slots, k b ob q⟩, fun _ _ _ n _ => n, fun b ob q _ => ⟨ob, k b ob q⟩, fun _ _ q => q, fun _ _ _ q => q, fun _ ps q => ⟨#[], by rw [q]; simp⟩⟩
theorem Un.refl : Un fs ex H H h h := Un.kept fun _ _ q => q
theorem Un.laid (k : ∀ b u, h.get? b = some u → h'.get? b = some u) (hp : h.objs.size ≤ a) (hn : H a = none) : Un fs ex H (upd H a o) h h' where
  keep := fun b u q _ _ _ => k b u q
  slot := fun b u q _ _ _ => ⟨u.slots, k b u q⟩
  free := fun b u q n _ => by rw [upd_ne (Nat.ne_of_lt (Nat.lt_of_lt_of_le (Heap.lt_size q) hp))]; exact n
  there := fun b u q _ => ⟨u, k b u q⟩
  tups := fun b xs q => by rw [upd_ne (ne_of_none q hn)]; exact q
  frzs := fun b u xs q => by rw [upd_ne (ne_of_none q hn)]; exact q
  tbls := fun b ps q => ⟨#[], by rw [upd_ne (ne_of_none q hn), q]; simp⟩
theorem Un.write (mu : Mut (H x)) (he : e = x ∨ H e = some (.own x)) (k : ∀ b u, b ≠ e → h.get? b = some u → h'.get? b = some u) (heo : ∃ u, h'.get? e = some u) : Un fs ex H (upd H x o) h h' := by
  have hx : ∀ b, H b = none → b ≠ x := fun b n z => by subst z; rw [n] at mu; exact mu
  have hb : ∀ b, H b = none → b ≠ e := fun b n z => by
    subst z
    rcases he with r | r
    · exact hx b n r
    · rw [n] at r; cases r
  have hm : ∀ b u, H b = some u → ¬ Mut (some u) → b ≠ x := fun b u q nm z => by subst z; rw [q] at mu; exact nm mu
  refine ⟨fun b u q n _ _ => k b u (hb b n) q, fun b u q n _ _ => ⟨u.slots, k b u (hb b n) q⟩, fun b u q n _ => by rw [upd_ne (hx b n)]; exact n, fun b u q _ => ?_,
    fun b xs q => by rw [upd_ne (hm b _ q fun z => z)]; exact q, fun b u xs q => by rw [upd_ne (hm b _ q fun z => z)]; exact q, fun b ps q => ⟨#[], by rw [upd_ne (hm b _ q fun z => z), q]; simp⟩⟩
  by_cases hbe : b = e
  · subst hbe; exact heo
  · exact ⟨u, k b u hbe q⟩
end
def trk (h : Heap) (H : Hp) : List Addr := (List.range h.objs.size).filter fun a => (H a).isSome
def hidT (h : Heap) (H : Hp) : Heap := PySem.W.hideAll h (trk h H)
theorem hidT_size (h : Heap) (H : Hp) : (hidT h H).objs.size = h.objs.size := PySem.W.hideAll_size _ _
theorem hidT_get {h : Heap} {H : Hp} {b : Addr} {o : Obj} (e : h.get? b = some o) (n : H b = none) : (hidT h H).get? b = some o :=
  PySem.W.hideAll_get _ e fun hm => by
    have q : (H b).isSome = true := (List.mem_filter.mp hm).2
    rw [n] at q; simp at q
theorem of_hidT {h : Heap} {H : Hp} {b : Addr} {o : Obj} (e : (hidT h H).get? b = some o) : h.get? b = some o ∧ H b = none := by
  have e' : h.get? b = some o := PySem.W.of_hideAll (trk h H) e
  refine ⟨e', ?_⟩
  cases q : H b with
  | none => rfl
  | some x =>
    have hm : b ∈ trk h H := List.mem_filter.mpr ⟨List.mem_range.mpr (Heap.lt_size e'), by simp [q]⟩
    have z : (hidT h H).get? b = none := PySem.W.hideAll_none (trk h H) hm
    rw [z] at e; cases e
end L2
namespace L2
open PySem PySem.Spec PyProof.Rows
structure Mod (K : PySem.W.Frag) (mg : Str → Option Value) (base : Heap) : Prop where
  kin : K.In base
  glob : base.Ns mainGlobals mg
  blt : ∃ mb, base.Ns builtinsNs mb ∧ ∀ x : Str, x ≠ "__name__" → mb x = bootBuiltins x
  nolimit : base.NoLimit
structure Cx where
  prog : Program
  w : World
  K : PySem.W.Frag
  mg : Str → Option Value
  base : Heap
  A : Around
  N : List Str
  s_0 : Shared
  H_0 : Hp
  env : Env
  outer : List Env
  stack : List Env
  ex : List Addr
  fn : Str → Bool
  calm : Bool
  pn : List (Addr × Obj)
  xe : Value → Shared → Prop
def frs (l : List Env) : List Addr := l.filterMap (·.frame)
abbrev Cx.fs (X : Cx) : List Addr := frs X.outer
def Vis (sc : Scope) (x : Str) : Prop := sc.names.lookup x = some .local ∨ sc.names.lookup x = some .cell ∨ sc.names.lookup x = some .free
def Loc (sc : Scope) (x : Str) : Prop := sc.names.lookup x = some .local ∨ sc.names.lookup x = some .cell
def Look (env : Env) (h : Heap) (m : Str → Option Value) (x : Str) (u : Value) : Prop :=
  (env.kindOf x = some .local ∧ m x = some u) ∨ ((env.kindOf x = some .cell ∨ env.kindOf x = some .free) ∧ ∃ c, env.cells.lookup x = some c ∧ h.IsCell c (some u))
structure Cx.Ok (X : Cx) : Prop where
  mod : Mod X.K X.mg X.base
  kind : X.env.scope.kind = .function
  glob : X.env.globals = mainGlobals
  blt : X.env.builtins = builtinsNs
  above : X.s_0.heap.objs.size ≤ X.env.locals
  inj : ∀ x y c, X.env.cells.lookup x = some c → X.env.cells.lookup y = some c → x = y
  has : ∀ x, (X.env.kindOf x = some .cell ∨ X.env.kindOf x = some .free) → ∃ c, X.env.cells.lookup x = some c
  cab : ∀ x c, X.fn x = true → X.env.cells.lookup x = some c → X.s_0.heap.objs.size ≤ c
  hd : X.calm = true → X.A.handled = none
  frames : X.A.frames = some X.stack
  stk : X.stack = X.outer ∨ (X.stack = X.env :: X.outer ∧ X.env.frame = some X.env.locals)
  exf : ∀ b ∈ X.ex, b ≠ X.env.locals ∧ ∀ x c, X.env.cells.lookup x = some c → c ≠ b
  bs : ∀ b o, X.base.get? b = some o → X.s_0.heap.get? b = some o ∧ X.H_0 b = none
  bsz : X.base.objs.size ≤ X.s_0.heap.objs.size
  noex : ∀ b o, X.base.get? b = some o → b ∉ X.ex
  exfs : ∀ b ∈ X.ex, b ∉ X.fs
  funs : X.s_0.heap.FunFrames X.base X.outer
  frf : ∀ b ∈ X.fs, X.H_0 b = none
structure Inv (X : Cx) (pins : List (Addr × Obj)) (σ : List (Option V)) (H : Hp) (s : Shared) : Prop where
  ok : X.Ok
  os : s.os = X.s_0.os
  bare : AllBare s.gens
  base : Un X.fs X.ex X.H_0 H X.s_0.heap s.heap
  loc : ∃ m, s.heap.Ns X.env.locals m ∧ ∀ (i : Nat) (x : Str) (v : V), X.N[i]? = some x → σ[i]? = some (some v) → Vis X.env.scope x → ∃ u, RelV v u ∧ Look X.env s.heap m x u
  cell : ∀ x c, X.env.cells.lookup x = some c → ∃ v, s.heap.IsCell c v
  free : H X.env.locals = none
  freeC : ∀ x c, X.env.cells.lookup x = some c → H c = none
  pin : ∀ p ∈ X.pn ++ pins, s.heap.get? p.1 = some p.2 ∧ H p.1 = none ∧ p.1 ≠ X.env.locals ∧ p.1 ∉ X.fs ∧ ∀ v, p.2.data ≠ .cell v
  hok : HOk X.prog X.w H s.heap
  len : σ.length = X.N.length
section
variable {X : Cx} {pins : List (Addr × Obj)} {σ : List (Option V)} {H H' : Hp} {s : Shared} {h' : Heap}
theorem Cx.Ok.nofr (ok : X.Ok) {b : Addr} {o : Obj} (e : X.base.get? b = some o) : b ∉ X.fs := fun hb => by
  have := (ok.funs.mem hb).1
  rw [e] at this; cases this
theorem Inv.bs (I : Inv X pins σ H s) : ∀ b o, X.base.get? b = some o → s.heap.get? b = some o ∧ H b = none := fun b o e =>
  ⟨I.base.keep b o (I.ok.bs b o e).1 (I.ok.bs b o e).2 (I.ok.nofr e) (I.ok.noex b o e), I.base.free b o (I.ok.bs b o e).1 (I.ok.bs b o e).2 (I.ok.noex b o e)⟩
theorem Inv.bk (I : Inv X pins σ H s) : ∀ b o, X.base.get? b = some o → s.heap.get? b = some o := fun b o e => (I.bs b o e).1
theorem Inv.mod (I : Inv X pins σ H s) : Mod X.K X.mg X.base := I.ok.mod
theorem Inv.kIn (I : Inv X pins σ H s) : X.K.In s.heap := I.ok.mod.kin.keeps I.bk
theorem Inv.lt (I : Inv X pins σ H s) : X.env.locals < s.heap.objs.size := let ⟨_, hn, _⟩ := I.loc; hn.lt
theorem Inv.sz (I : Inv X pins σ H s) : X.s_0.heap.objs.size ≤ s.heap.objs.size := Nat.le_trans I.ok.above (Nat.le_of_lt I.lt)
theorem Inv.nofs (I : Inv X pins σ H s) {a : Addr} (h : s.heap.objs.size ≤ a) : a ∉ X.fs := fun hb => by
  obtain ⟨_, o, ho, _⟩ := I.ok.funs.mem hb
  exact absurd (Nat.lt_of_lt_of_le (Heap.lt_size ho) (Nat.le_trans I.sz h)) (Nat.lt_irrefl _)
theorem Inv.cne (I : Inv X pins σ H s) : ∀ x c, X.env.cells.lookup x = some c → c ≠ X.env.locals := fun x c e z => by
  obtain ⟨v, o, ho, hd⟩ := I.cell x c e
  obtain ⟨m, ⟨o', es, ep, ho', hd', _⟩, _⟩ := I.loc
  rw [z, ho'] at ho; cases ho; rw [hd'] at hd; cases hd
theorem Inv.funs (I : Inv X pins σ H s) : s.heap.FunFrames X.base X.outer := by
  have all : ∀ (l : List Env), (∀ b ∈ frs l, b ∈ X.fs) → X.s_0.heap.FunFrames X.base l → s.heap.FunFrames X.base l := by
    intro l
    induction l with
    | nil => intro _ _; trivial
    | cons env r ih =>
      intro hs hl
      obtain ⟨hk, ⟨L, o, hf, hn, ho, hd⟩, hr⟩ := hl
      have hL : L ∈ X.fs := hs L (by unfold frs; rw [List.filterMap_cons, hf]; exact List.mem_cons_self)
      obtain ⟨sl, e⟩ := I.base.slot L o ho (I.ok.frf L hL) hL fun z => I.ok.exfs L z hL
      exact ⟨hk, ⟨L, _, hf, hn, e, hd⟩, ih (fun b hb => hs b (by unfold frs; rw [List.filterMap_cons, hf]; exact List.mem_cons_of_mem _ hb)) hr⟩
  exact all X.outer (fun _ hb => hb) I.ok.funs
theorem Inv.stack (I : Inv X pins σ H s) : s.heap.FunFrames X.base X.stack := by
  rcases I.ok.stk with e | ⟨e, hf⟩
  · rw [e]; exact I.funs
  · rw [e]
    obtain ⟨m, hn, _⟩ := I.loc
    refine .cons (by rw [I.ok.kind]; decide) hf hn ?_ I.funs
    exact Heap.get?_none_of_le (Nat.le_trans I.ok.bsz I.ok.above)
theorem Inv.stkSub (I : Inv X pins σ H s) : ∀ b ∈ frs X.stack, b ∈ X.env.locals :: X.fs := fun b hb => by
  rcases I.ok.stk with e | ⟨e, hf⟩
  · rw [e] at hb; exact List.mem_cons_of_mem _ hb
  · rw [e] at hb
    unfold frs at hb
    rw [List.filterMap_cons, hf] at hb
    exact hb
theorem Inv.stkFree (I : Inv X pins σ H s) : ∀ b ∈ frs X.stack, H b = none := fun b hb => by
  rcases List.mem_cons.mp (I.stkSub b hb) with e | hb
  · rw [e]; exact I.free
  · obtain ⟨_, o, ho, _⟩ := I.ok.funs.mem hb
    exact I.base.free b o ho (I.ok.frf b hb) fun z => I.ok.exfs b z hb
theorem Inv.step {g' : Array GenState} {t' : Nat} {d' : Drawn} {ch : List Addr} (I : Inv X pins σ H s)
    (hch : ∀ b ∈ ch, (b ∈ X.ex ∨ X.s_0.heap.objs.size ≤ b) ∧ b ≠ X.env.locals ∧ (∀ x c, X.env.cells.lookup x = some c → c ≠ b) ∧ ∀ p ∈ X.pn ++ pins, p.1 ≠ b)
    (keep : ∀ b o, b ≠ X.env.locals → b ∉ X.fs → b ∉ ch → s.heap.get? b = some o → H b = none → h'.get? b = some o)
    (slot : ∀ b o, b ≠ X.env.locals → b ∈ X.fs → b ∉ ch → s.heap.get? b = some o → H b = none → ∃ sl, h'.get? b = some { o with slots := sl }) (free : ∀ b o, b ∉ ch → s.heap.get? b = some o → H b = none → H' b = none)
    (there : ∀ b o, b ∉ ch → s.heap.get? b = some o → ∃ o', h'.get? b = some o')
    (tups : ∀ b xs, H b = some (.tup xs) → H' b = some (.tup xs)) (frzs : ∀ b o u, H b = some (.frz o u) → H' b = some (.frz o u)) (tbls : ∀ b ps, H b = some (.tbl ps) → ∃ more, H' b = some (.tbl (ps ++ more)))
    (ns : ∀ m, s.heap.Ns X.env.locals m → h'.Ns X.env.locals m) (hok : HOk X.prog X.w H' h') (hg : AllBare g') :
    Inv X pins σ H' { s with heap := h', gens := g', drawn := d', toks := t' } := by
  have neL : ∀ b o, X.s_0.heap.get? b = some o → b ≠ X.env.locals := fun b o e => Nat.ne_of_lt (Nat.lt_of_lt_of_le (Heap.lt_size e) I.ok.above)
  have neC : ∀ b o, X.s_0.heap.get? b = some o → b ∉ X.ex → b ∉ ch := fun b o e hx hb => by
    rcases (hch b hb).1 with z | z
    · exact hx z
    · exact absurd (Nat.lt_of_lt_of_le (Heap.lt_size e) z) (Nat.lt_irrefl _)
  have cellK : ∀ x c, X.env.cells.lookup x = some c → ∀ v, s.heap.IsCell c v → h'.IsCell c v := fun x c e v ⟨o, ho, hd⟩ => by
    have nch : c ∉ ch := fun z => (hch c z).2.2.1 x c e rfl
    by_cases hc : c ∈ X.fs
    · obtain ⟨sl, q⟩ := slot c o (I.cne x c e) hc nch ho (I.freeC x c e)
      exact ⟨_, q, hd⟩
    · exact ⟨o, keep c o (I.cne x c e) hc nch ho (I.freeC x c e), hd⟩
  refine ⟨I.ok, I.os, hg, ⟨fun b o e n hb hx => ?_, fun b o e n hb hx => ?_, fun b o e n hx => ?_, fun b o e hx => ?_, fun b xs e => tups b xs (I.base.tups b xs e), fun b o xs e => frzs b o xs (I.base.frzs b o xs e), fun b ps e => ?_⟩, ?_, fun x c e => ?_, ?_, fun x c e => ?_, fun p hp => ?_, hok, I.len⟩
  · exact keep b o (neL b o e) hb (neC b o e hx) (I.base.keep b o e n hb hx) (I.base.free b o e n hx)
  · obtain ⟨sl, e1⟩ := I.base.slot b o e n hb hx
    obtain ⟨sl', e2⟩ := slot b _ (neL b o e) hb (neC b o e hx) e1 (I.base.free b o e n hx)
    exact ⟨sl', e2⟩
  · obtain ⟨o', e1⟩ := I.base.there b o e hx
    exact free b o' (neC b o e hx) e1 (I.base.free b o e n hx)
  · obtain ⟨o', e1⟩ := I.base.there b o e hx
    exact there b o' (neC b o e hx) e1
  · obtain ⟨m1, e1⟩ := I.base.tbls b ps e
    obtain ⟨m2, e2⟩ := tbls b _ e1
    exact ⟨m1 ++ m2, by rw [e2, Array.append_assoc]⟩
  · obtain ⟨m, hn, hl⟩ := I.loc
    refine ⟨m, ns m hn, fun i x v e1 e2 e3 => ?_⟩
    obtain ⟨u, r, l⟩ := hl i x v e1 e2 e3
    refine ⟨u, r, ?_⟩
    rcases l with l | ⟨k, c, e, z⟩
    · exact .inl l
    · exact .inr ⟨k, c, e, cellK x c e _ z⟩
  · obtain ⟨v, z⟩ := I.cell x c e
    exact ⟨v, cellK x c e v z⟩
  · obtain ⟨m, ⟨o, _, _, ho, _⟩, _⟩ := I.loc
    exact free _ o (fun z => (hch _ z).2.1 rfl) ho I.free
  · obtain ⟨v, o, ho, hd⟩ := I.cell x c e
    exact free c o (fun z => (hch c z).2.2.1 x c e rfl) ho (I.freeC x c e)
  · obtain ⟨e, n, ne, nf, d⟩ := I.pin p hp
    have nch : p.1 ∉ ch := fun z => (hch p.1 z).2.2.2 p hp rfl
    exact ⟨keep p.1 p.2 ne nf nch e n, free p.1 p.2 nch e n, ne, nf, d⟩
theorem Inv.un {t' : Nat} (I : Inv X pins σ H s) (u : Un X.fs [] H H' s.heap h') (hok : HOk X.prog X.w H' h') : Inv X pins σ H' { s with heap := h', toks := t' } := by
  obtain ⟨m, ⟨o, es, ep, ho, r⟩, _⟩ := id I.loc
  obtain ⟨sl, hL⟩ := u.any ho I.free (by simp)
  exact I.step (g' := s.gens) (d' := s.drawn) (ch := []) (fun _ z => nomatch z) (fun b o _ hb _ e n => u.keep b o e n hb (by simp)) (fun b o _ hb _ e n => u.slot b o e n hb (by simp)) (fun b o _ e n => u.free b o e n (by simp)) (fun b o _ e => u.there b o e (by simp)) u.tups u.frzs u.tbls (fun m' hm => by
    obtain ⟨o', es', ep', ho', r'⟩ := hm
    rw [ho] at ho'; cases ho'
    exact ⟨_, es', ep', hL, r'⟩) hok I.bare
theorem Inv.call {g' : Array GenState} {t' : Nat} {d' : Drawn} {ch : List Addr} (I : Inv X pins σ H s) (u : Un (frs X.stack) ch H H' s.heap h') (hok : HOk X.prog X.w H' h') (hg : AllBare g')
    (hch : ∀ b ∈ ch, (b ∈ X.ex ∨ X.s_0.heap.objs.size ≤ b) ∧ b ≠ X.env.locals ∧ (∀ x c, X.env.cells.lookup x = some c → c ≠ b) ∧ ∀ p ∈ X.pn ++ pins, p.1 ≠ b) :
    Inv X pins σ H' { s with heap := h', gens := g', drawn := d', toks := t' } := by
  obtain ⟨m, ⟨o, es, ep, ho, r⟩, _⟩ := id I.loc
  obtain ⟨sl, hL⟩ := u.any ho I.free fun z => (hch _ z).2.1 rfl
  exact I.step (ch := ch) hch (fun b o hL hb hc e n => u.keep b o e n (fun z => (List.mem_cons.mp (I.stkSub b z)).elim hL hb) hc) (fun b o _ _ hc e n => u.any e n hc) (fun b o hc e n => u.free b o e n hc) (fun b o hc e => u.there b o e hc) u.tups u.frzs u.tbls (fun m' hm => by
    obtain ⟨o', es', ep', ho', r'⟩ := hm
    rw [ho] at ho'; cases ho'
    exact ⟨_, es', ep', hL, r'⟩) hok hg
theorem Inv.turned {t' : Nat} {it : Addr} (I : Inv X pins σ H s) (k : ∀ b o, b ≠ it → s.heap.get? b = some o → h'.get? b = some o) (hn : H it = none) (hL : it ≠ X.env.locals)
    (h1 : it ∈ X.ex ∨ X.s_0.heap.objs.size ≤ it) (h2 : ∀ x c, X.env.cells.lookup x = some c → c ≠ it) (h3 : ∀ p ∈ X.pn ++ pins, p.1 ≠ it) : Inv X pins σ H { s with heap := h', toks := t' } := by
  have nit : ∀ b u, H b = some u → b ≠ it := fun b u e z => by rw [z, hn] at e; cases e
  refine I.step (g' := s.gens) (d' := s.drawn) (ch := [it]) (fun b hb => ?_) (fun b o _ _ hc e _ => k b o (fun z => hc (by simp [z])) e) (fun b o _ _ hc e _ => ⟨o.slots, k b o (fun z => hc (by simp [z])) e⟩) (fun _ _ _ _ n => n)
    (fun b o hc e => ⟨o, k b o (fun z => hc (by simp [z])) e⟩) (fun _ _ e => e) (fun _ _ _ e => e) (fun b ps e => ⟨#[], by rw [e]; simp⟩) (fun m hm => ?_) (fun b u e => ?_) I.bare
  · have e : b = it := by simpa using hb
    subst e
    exact ⟨h1, hL, h2, h3⟩
  · obtain ⟨o, es, ep, ho, r⟩ := hm
    exact ⟨o, es, ep, k _ o (Ne.symm hL) ho, r⟩
  · refine (I.hok b u e).stay (fun c v hc q => k c v ?_ q) (fun _ q => q) fun _ _ q => q
    rcases hc with z | z
    · rw [z]; exact nit b u e
    · exact nit c _ z
theorem Inv.tok (I : Inv X pins σ H s) (t : Nat) : Inv X pins σ H { s with toks := t } := I.un (h' := s.heap) (t' := t) Un.refl I.hok
theorem Inv.kept {t' : Nat} (I : Inv X pins σ H s) (k : ∀ b u, s.heap.get? b = some u → h'.get? b = some u) : Inv X pins σ H { s with heap := h', toks := t' } := I.un (Un.kept k) (I.hok.kept k)
theorem Inv.laid {a : Addr} {o : HO} {t' : Nat} (I : Inv X pins σ H s) (k : ∀ b u, s.heap.get? b = some u → h'.get? b = some u) (hp : s.heap.objs.size ≤ a) (new : ObjOk X.prog X.w (upd H a o) h' a o) :
    Inv X pins σ (upd H a o) { s with heap := h', toks := t' } := I.un (Un.laid k hp (I.hok.fresh hp)) (I.hok.laid k hp new)
theorem Inv.write {x e : Addr} {o : HO} {t' : Nat} (I : Inv X pins σ H s) (mu : Mut (H x)) (he : e = x ∨ H e = some (.own x)) (k : ∀ b u, b ≠ e → s.heap.get? b = some u → h'.get? b = some u) (heo : ∃ u, h'.get? e = some u)
    (new : ObjOk X.prog X.w (upd H x o) h' x o) : Inv X pins σ (upd H x o) { s with heap := h', toks := t' } := I.un (Un.write mu he k heo) (I.hok.write mu he k heo new)
theorem Inv.weak {σ' : List (Option V)} (I : Inv X pins σ H s) (hl : σ'.length = σ.length) (w : ∀ (i : Nat) v, σ'[i]? = some (some v) → σ[i]? = some (some v)) : Inv X pins σ' H s :=
  ⟨I.ok, I.os, I.bare, I.base, let ⟨m, hn, hl'⟩ := I.loc; ⟨m, hn, fun i x v e1 e2 e3 => hl' i x v e1 (w i v e2) e3⟩, I.cell, I.free, I.freeC, I.pin, I.hok, hl.trans I.len⟩
theorem Inv.pins_of {pins' : List (Addr × Obj)} (I : Inv X pins σ H s) (h : ∀ p ∈ pins', s.heap.get? p.1 = some p.2 ∧ H p.1 = none ∧ p.1 ≠ X.env.locals ∧ p.1 ∉ X.fs ∧ ∀ v, p.2.data ≠ .cell v) : Inv X pins' σ H s :=
  ⟨I.ok, I.os, I.bare, I.base, I.loc, I.cell, I.free, I.freeC, fun p hp => (List.mem_append.mp hp).elim (fun z => I.pin p (List.mem_append_left _ z)) (h p), I.hok, I.len⟩
theorem nodup_ix {N : List Str} (hN : N.Nodup) {i j : Nat} {x : Str} (a : N[i]? = some x) (b : N[j]? = some x) : i = j := by
  obtain ⟨h1, e1⟩ := List.getElem?_eq_some_iff.mp a
  obtain ⟨h2, e2⟩ := List.getElem?_eq_some_iff.mp b
  exact (List.getElem_inj hN).mp (e1.trans e2.symm)
theorem store_ok2 {M : Model} {A : Around} {E : Value → Shared → Prop} {i : Nat} {x : Str} {v : V} {u : Value} {Q : Unit → Shared → Prop} (I : Inv X pins σ H s) (hN : X.N.Nodup) (hi : X.N[i]? = some x) (hx : Loc X.env.scope x) (r : RelV v u)
    (h : ∀ s', Inv X pins (σ.set i (some v)) H s' → (∃ a, Heap.SameBut a s.heap s'.heap ∧ (a = X.env.locals ∨ X.env.cells.lookup x = some a)) → Q () s') (hf : X.fn x = true ∨ X.env.scope.names.lookup x = some .local := by first | exact .inl rfl | exact .inr rfl | assumption) : wpAny M A (storeName X.env x u) Q E s := by
  obtain ⟨m, hn, hl⟩ := id I.loc
  have hcls : (X.env.scope.kind == .class || (X.env.scope.kind == .module && X.env.locals != X.env.globals)) = false := by rw [I.ok.kind]; rfl
  have hiσ : i < σ.length := by rw [I.len]; exact (List.getElem?_eq_some_iff.mp hi).1
  have cne := I.cne
  have tracked : ∀ {a : Addr} {h' : Heap}, (∃ o, s.heap.get? a = some o ∧ H a = none) → Heap.SameBut a s.heap h' → HOk X.prog X.w H h' := fun {a h'} ha hs b ob e => by
    obtain ⟨_, _, hfree⟩ := ha
    refine (I.hok b ob e).stay (fun c w' hc q => (hs.2 c ?_).trans q) (fun _ q => q) fun _ _ q => q
    rintro rfl
    rcases hc with rfl | hc
    · rw [hfree] at e; cases e
    · rw [hfree] at hc; cases hc
  rcases hx with hk | hk
  · refine wpAny_storeName_local hk hn (fun h' hn' hs => ?_) hcls
    obtain ⟨oL, _, _, hoL, _⟩ := id hn
    refine h _ ⟨I.ok, I.os, I.bare, ⟨fun b o e n hb hx => ?_, fun b o e n hb hx => ?_, I.base.free, fun b o e hx => ?_, I.base.tups, I.base.frzs, I.base.tbls⟩, ⟨_, hn', fun j y v' e1 e2 e3 => ?_⟩, fun y c e => ?_, I.free, I.freeC, fun p hp => ?_, tracked ⟨oL, hoL, I.free⟩ hs, by simpa using I.len⟩ ⟨_, hs, .inl rfl⟩
    · exact (hs.2 b (Nat.ne_of_lt (Nat.lt_of_lt_of_le (Heap.lt_size e) I.ok.above))).trans (I.base.keep b o e n hb hx)
    · obtain ⟨sl, e1⟩ := I.base.slot b o e n hb hx
      exact ⟨sl, (hs.2 b (Nat.ne_of_lt (Nat.lt_of_lt_of_le (Heap.lt_size e) I.ok.above))).trans e1⟩
    · obtain ⟨o', e1⟩ := I.base.there b o e hx
      exact ⟨o', (hs.2 b (Nat.ne_of_lt (Nat.lt_of_lt_of_le (Heap.lt_size e) I.ok.above))).trans e1⟩
    · by_cases hj : j = i
      · subst hj
        rw [hi] at e1; cases e1
        rw [List.getElem?_set_self hiσ] at e2
        cases e2
        exact ⟨u, r, .inl ⟨hk, by simp⟩⟩
      · rw [List.getElem?_set_ne (Ne.symm hj)] at e2
        obtain ⟨u', r', q⟩ := hl j y v' e1 e2 e3
        refine ⟨u', r', ?_⟩
        rcases q with ⟨k, e⟩ | ⟨k, c, e, z⟩
        · refine .inl ⟨k, ?_⟩
          have : y ≠ x := fun e => hj (nodup_ix hN e1 (e ▸ hi))
          simp [this, e]
        · exact .inr ⟨k, c, e, z.sameBut hs (cne y c e)⟩
    · obtain ⟨w', z⟩ := I.cell y c e
      exact ⟨w', z.sameBut hs (cne y c e)⟩
    · obtain ⟨e, n, ne, nf, d⟩ := I.pin p hp
      exact ⟨(hs.2 p.1 ne).trans e, n, ne, nf, d⟩
  · have hfn : X.fn x = true := by
      rcases hf with z | z
      · exact z
      · rw [z] at hk; cases hk
    obtain ⟨c, hc⟩ := I.ok.has x (.inl hk)
    obtain ⟨w', z⟩ := I.cell x c hc
    refine wpAny_storeName_cell I.ok.kind hk hc z (fun h' hc' hs => ?_)
    obtain ⟨oc, hoc, hocd⟩ := id z
    refine h { s with heap := h' } ⟨I.ok, I.os, I.bare, ⟨fun b o e n hb hx => ?_, fun b o e n hb hx => ?_, I.base.free, fun b o e hx => ?_, I.base.tups, I.base.frzs, I.base.tbls⟩, ⟨m, hn.sameBut hs (Ne.symm (cne x c hc)), fun j y v' e1 e2 e3 => ?_⟩, fun y c' e => ?_, I.free, I.freeC, fun p hp => ?_, tracked ⟨oc, hoc, I.freeC x c hc⟩ hs, by simpa using I.len⟩ ⟨c, hs, .inr hc⟩
    · exact (hs.2 b (Nat.ne_of_lt (Nat.lt_of_lt_of_le (Heap.lt_size e) (I.ok.cab x c hfn hc)))).trans (I.base.keep b o e n hb hx)
    · obtain ⟨sl, e1⟩ := I.base.slot b o e n hb hx
      exact ⟨sl, (hs.2 b (Nat.ne_of_lt (Nat.lt_of_lt_of_le (Heap.lt_size e) (I.ok.cab x c hfn hc)))).trans e1⟩
    · obtain ⟨o', e1⟩ := I.base.there b o e hx
      exact ⟨o', (hs.2 b (Nat.ne_of_lt (Nat.lt_of_lt_of_le (Heap.lt_size e) (I.ok.cab x c hfn hc)))).trans e1⟩
    · by_cases hj : j = i
      · subst hj
        rw [hi] at e1; cases e1
        rw [List.getElem?_set_self hiσ] at e2
        cases e2
        exact ⟨u, r, .inr ⟨.inl hk, c, hc, hc'⟩⟩
      · rw [List.getElem?_set_ne (Ne.symm hj)] at e2
        obtain ⟨u', r', q⟩ := hl j y v' e1 e2 e3
        refine ⟨u', r', ?_⟩
        rcases q with q | ⟨k, c', e, z'⟩
        · exact .inl q
        · refine .inr ⟨k, c', e, z'.sameBut hs ?_⟩
          rintro rfl
          exact hj (nodup_ix hN e1 (I.ok.inj _ _ _ e hc ▸ hi))
    · by_cases hcc : c' = c
      · subst hcc; exact ⟨_, hc'⟩
      · obtain ⟨w2, z2⟩ := I.cell y c' e
        exact ⟨w2, z2.sameBut hs hcc⟩
    · obtain ⟨e, n, ne, nf, d⟩ := I.pin p hp
      refine ⟨(hs.2 p.1 ?_).trans e, n, ne, nf, d⟩
      intro q
      rw [q, hoc] at e
      have q' : oc = p.2 := Option.some.inj e
      exact d w' (by rw [← q']; exact hocd)
theorem store_ok {M : Model} {A : Around} {E : Value → Shared → Prop} {i : Nat} {x : Str} {v : V} {u : Value} {Q : Unit → Shared → Prop} (I : Inv X pins σ H s) (hN : X.N.Nodup) (hi : X.N[i]? = some x) (hx : Loc X.env.scope x) (r : RelV v u)
    (h : ∀ s', Inv X pins (σ.set i (some v)) H s' → Q () s') (hf : X.fn x = true ∨ X.env.scope.names.lookup x = some .local := by first | exact .inl rfl | exact .inr rfl | assumption) : wpAny M A (storeName X.env x u) Q E s :=
  store_ok2 I hN hi hx r (fun s' I' _ => h s' I') hf
theorem Inv.call' {s' : Shared} {ch : List Addr} (I : Inv X pins σ H s) (ho : s'.os = s.os) (u : Un (frs X.stack) ch H H' s.heap s'.heap) (hok : HOk X.prog X.w H' s'.heap) (hg : AllBare s'.gens)
    (hch : ∀ b ∈ ch, (b ∈ X.ex ∨ X.s_0.heap.objs.size ≤ b) ∧ b ≠ X.env.locals ∧ (∀ x c, X.env.cells.lookup x = some c → c ≠ b) ∧ ∀ p ∈ X.pn ++ pins, p.1 ≠ b) : Inv X pins σ H' s' := by
  obtain ⟨h', g', d', t', o'⟩ := s'
  have e : o' = s.os := ho
  subst e
  exact I.call (g' := g') (t' := t') (d' := d') u hok hg hch
end
abbrev XK := Value → Option Addr → Hp → Prop
abbrev St := List (Option V)
abbrev VK := V → Hp → Prop
abbrev TE := St → Hp → VK → Prop
abbrev TT := St → Hp → (Bool → Hp → Prop) → Prop
abbrev TA := St → Hp → (List V → Hp → Prop) → Prop
structure Ends where
  nx : St → Hp → Prop
  rt : VK
  bk : St → Hp → Prop := fun _ _ => False
  ct : St → Hp → Prop := fun _ _ => False
abbrev TS := Ends → St → Hp → Prop
def EP (X : Cx) (pins : List (Addr × Obj)) (σ : St) (Q : VK) (u : Value) (s' : Shared) : Prop := ∃ v H', Inv X pins σ H' s' ∧ RelV v u ∧ Q v H'
def TP (X : Cx) (pins : List (Addr × Obj)) (σ : St) (Q : Bool → Hp → Prop) (b : Bool) (s' : Shared) : Prop := ∃ H', Inv X pins σ H' s' ∧ Q b H'
def AP (X : Cx) (pins : List (Addr × Obj)) (σ : St) (Q : List V → Hp → Prop) (us : List Value) (s' : Shared) : Prop := ∃ vs H', Inv X pins σ H' s' ∧ Vals vs us ∧ Q vs H'
def SP (X : Cx) (pins : List (Addr × Obj)) (D : Ends) (f : Flow) (s' : Shared) : Prop :=
  match f with
  | .next => ∃ σ' H', Inv X pins σ' H' s' ∧ D.nx σ' H'
  | .brk => ∃ σ' H', Inv X pins σ' H' s' ∧ D.bk σ' H'
  | .cont => ∃ σ' H', Inv X pins σ' H' s' ∧ D.ct σ' H'
  | .ret u => ∃ v σ' H', Inv X pins σ' H' s' ∧ RelV v u ∧ D.rt v H'
def PE (X : Cx) (e : Expr) (t : TE) : Prop :=
  ∀ (pins : List (Addr × Obj)) (s : Shared) (σ : St) (H : Hp) (Q : VK), Inv X pins σ H s → t σ H Q → wpAny (model X.prog X.w) X.A (eval e X.env) (EP X pins σ Q) X.xe s
def PT (X : Cx) (e : Expr) (t : TT) : Prop :=
  ∀ (pins : List (Addr × Obj)) (s : Shared) (σ : St) (H : Hp) (Q : Bool → Hp → Prop), Inv X pins σ H s → t σ H Q → wpAny (model X.prog X.w) X.A (isTrue e X.env (eval e X.env)) (TP X pins σ Q) X.xe s
def PW (X : Cx) (e : Expr) (t : TT) : Prop :=
  ∀ (whole : Sem Value) (pins : List (Addr × Obj)) (s : Shared) (σ : St) (H : Hp) (Q : Bool → Hp → Prop), Inv X pins σ H s → t σ H Q → wpAny (model X.prog X.w) X.A (isTrue e X.env whole) (TP X pins σ Q) X.xe s
theorem PW.pt {X : Cx} {e : Expr} {t : TT} (h : PW X e t) : PT X e t := h _
def PA (X : Cx) (es : List Expr) (t : TA) : Prop :=
  ∀ (pos : Pos) (pins : List (Addr × Obj)) (s : Shared) (σ : St) (H : Hp) (Q : List V → Hp → Prop), Inv X pins σ H s → t σ H Q → wpAny (model X.prog X.w) X.A (spliced (backTo pos (starEach es X.env))) (AP X pins σ Q) X.xe s
def PS (X : Cx) (st : Stmt) (t : TS) : Prop :=
  ∀ (pins : List (Addr × Obj)) (s : Shared) (σ : St) (H : Hp) (D : Ends), Inv X pins σ H s → t D σ H → wpAny (model X.prog X.w) X.A (exec st X.env) (SP X pins D) X.xe s
def PSs (X : Cx) (st : List Stmt) (t : TS) : Prop :=
  ∀ (pins : List (Addr × Obj)) (s : Shared) (σ : St) (H : Hp) (D : Ends), Inv X pins σ H s → t D σ H → wpAny (model X.prog X.w) X.A (execs st X.env) (SP X pins D) X.xe s
theorem thn {α : Type} {t : Sem α} {Q Q' : α → Shared → Prop} {M : Model} {A : Around} {E : Value → Shared → Prop} {s : Shared} (h : wpAny M A t Q E s) (hQ : ∀ a s, Q a s → Q' a s) : wpAny M A t Q' E s := wpAny_mono h hQ fun _ _ x => x
end L2
namespace L2
open PySem PySem.Spec PyProof.Rows
section
variable {X : Cx}
def tVar (i : Nat) : TE := fun σ H Q => ∃ v, σ[i]? = some (some v) ∧ Q v H
def tC (v : V) : TE := fun _ H Q => Q v H
theorem pe_var {i : Nat} {x : Str} {pos : Pos} (hN : X.N[i]? = some x) (hv : Vis X.env.scope x) (hd : (x == ("__debug__" : Str)) = false := by decide) (hcd : (x == ("__classdict__" : Str)) = false := by decide) : PE X (.Name x pos) (tVar i) := by
  intro pins s σ H Q I h
  obtain ⟨v, e, h⟩ := h
  obtain ⟨m, hn, hl⟩ := I.loc
  obtain ⟨u, r, l⟩ := hl i x v hN e hv
  have fin : EP X pins σ Q u s := ⟨v, H, I, r, h⟩
  rcases l with ⟨hk, hm⟩ | ⟨hk, c, hc, hcell⟩
  · exact wpAny_Name (wpAny_loadName_local I.ok.kind hk hn hm fin) hd
  · rcases hk with hk | hk
    · exact wpAny_Name (wpAny_loadName_cell I.ok.kind hk hc hcell fin) hd
    · exact wpAny_Name (wpAny_loadName_free I.ok.kind hk hc hcell fin hcd) hd
theorem pe_int {i j pos} : PE X (.Constant (.int i) j pos) (tC (.int i)) := fun _ _ _ H _ I h => wpAny_Constant_int ⟨.int i, H, I.tok _, ⟨_, rfl⟩, h⟩
theorem pe_non {j pos} : PE X (.Constant .none j pos) (tC .non) := fun _ _ _ H _ I h => Constant_none ⟨.non, H, I, rfl, h⟩
def Gl (X : Cx) (x : Str) : Prop := X.env.kindOf x = some .globalImplicit
theorem ld_glob {E : Value → Shared → Prop} {pins : List (Addr × Obj)} {s : Shared} {σ : St} {H : Hp} {x : Str} {u : Value} {pos : Pos} {Q : Value → Shared → Prop} (I : Inv X pins σ H s) (hg : Gl X x) (hm : X.mg x = some u) (h : Q u s)
    (hd : (x == ("__debug__" : Str)) = false := by decide) : wpAny (model X.prog X.w) X.A (eval (.Name x pos) X.env) Q E s :=
  Calls.Name_function_global I.ok.kind hg (Calls.loadGlobal_global (by rw [I.ok.glob]; exact I.mod.glob.keeps I.bk) hm h) hd
theorem ld_blt {E : Value → Shared → Prop} {pins : List (Addr × Obj)} {s : Shared} {σ : St} {H : Hp} {x : Str} {u : Value} {pos : Pos} {Q : Value → Shared → Prop} (I : Inv X pins σ H s) (hg : Gl X x) (hm : X.mg x = none) (hv : bootBuiltins x = some u) (h : Q u s)
    (hn : x ≠ "__name__" := by decide) (hd : (x == ("__debug__" : Str)) = false := by decide) : wpAny (model X.prog X.w) X.A (eval (.Name x pos) X.env) Q E s := by
  obtain ⟨mb, h1, h2⟩ := I.mod.blt
  exact Calls.Name_function_global I.ok.kind hg (Calls.loadGlobal_builtin (by rw [I.ok.glob]; exact I.mod.glob.keeps I.bk) hm (by rw [I.ok.blt]; exact h1.keeps I.bk) ((h2 x hn).trans hv) h) hd
theorem pe_glob {x : Str} {v : V} {u : Value} {pos : Pos} (hg : Gl X x) (hm : X.mg x = some u) (r : RelV v u) (hd : (x == ("__debug__" : Str)) = false := by decide) : PE X (.Name x pos) (tC v) :=
  fun _ _ _ H _ I h => ld_glob I hg hm ⟨v, H, I, r, h⟩ hd
variable {a b : Expr} {ta tb : TE} {pos : Pos}
def PC (X : Cx) (op : CmpOp) (a b : Expr) (t : TE) : Prop :=
  ∀ (pins : List (Addr × Obj)) (s : Shared) (σ : St) (H : Hp) (Q : VK), Inv X pins σ H s → t σ H Q →
    wpAny (model X.prog X.w) X.A (eval a X.env) (fun v s₁ => wpAny (model X.prog X.w) X.A (eval b X.env) (fun u s₂ => wpAny (model X.prog X.w) X.A (compareOp op v u) (EP X pins σ Q) X.xe s₂) X.xe s₁) X.xe s
def tB (t : TE) : TT := fun σ H Q => t σ H fun x H1 => ∃ c, x = .bl c ∧ Q c H1
theorem pt_cmp {op : CmpOp} {t : TE} (h : PC X op a b t) (h1 : behindInMarks op b = false := by first | exact nobehind _ (by decide) (by decide) | rfl) : PT X (.Compare a [op] [b] pos) (tB t) := by
  intro pins s σ H Q I hw
  refine wpAny_isTrue_Compare1 (thn (h pins s σ H _ I hw) fun v s1 h1 => thn h1 fun u s2 h2 => thn h2 fun c s3 ⟨x, H1, I1, r1, q1⟩ => ?_) h1
  obtain ⟨d, rfl, q⟩ := q1
  cases r1
  exact wpAny_truthy_bool ⟨H1, I1, q⟩
theorem pt_val {e : Expr} {t : TE} (h : PE X e t) (he : ∀ whole, isTrue e X.env whole = (do let v ← whole; standAt e.pos; holding [v] (truthy v)) := by intro _; rfl) : PT X e (tB t) := by
  intro pins s σ H Q I hw
  refine isTrue_plain (thn (h pins s σ H _ I hw) fun v s1 ⟨x, H1, I1, r1, q1⟩ => ?_) (he _)
  obtain ⟨d, rfl, q⟩ := q1
  cases r1
  exact wpAny_truthy_bool ⟨H1, I1, q⟩
variable {tA tB' : TT} {rest : List Expr}
def tOr (t u : TT) : TT := fun σ H Q => t σ H fun c H1 => if c = true then Q true H1 else u σ H1 Q
def tNot (t : TT) : TT := fun σ H Q => t σ H fun c H1 => Q (!c) H1
theorem pw_or1 (ha : PT X a tA) : PW X (.BoolOp .Or [a] pos) tA := by
  intro wh pins s σ H Q I h
  refine isTrue_or (thn (ha pins s σ H Q I h) fun c s1 e => ?_)
  cases c with
  | false => exact isTrue_or_nil e
  | true => exact e
theorem pw_or (ha : PT X a tA) (hb : PW X (.BoolOp .Or (b :: rest) pos) tB') : PW X (.BoolOp .Or (a :: b :: rest) pos) (tOr tA tB') := by
  intro wh pins s σ H Q I h
  refine isTrue_or (thn (ha pins s σ H _ I h) fun c s1 ⟨H1, I1, q1⟩ => ?_)
  cases c with
  | true => exact ⟨H1, I1, q1⟩
  | false => exact hb wh pins s1 σ H1 Q I1 q1
theorem pt_not (ha : PT X a tA) : PT X (.UnaryOp .Not a pos) (tNot tA) := by
  intro pins s σ H Q I h
  exact isTrue_not (ha pins s σ H (fun c H1 => Q (!c) H1) I h)
def tAndV (ta tb : TE) : TE := fun σ H Q => ta σ H fun x H1 => ∃ c, x = .bl c ∧ if c = true then tb σ H1 Q else Q (.bl false) H1
theorem pe_one {op} {t : TE} (h : PE X a t) : PE X (.BoolOp op [a] pos) t := fun pins s σ H Q I hw => BoolOp_one (h pins s σ H Q I hw)
theorem pe_and (ha : PE X a ta) (hb : PE X (.BoolOp .And (b :: rest) pos) tb) : PE X (.BoolOp .And (a :: b :: rest) pos) (tAndV ta tb) := by
  intro pins s σ H Q I h
  refine BoolOp_and (thn (ha pins s σ H _ I h) fun v s1 ⟨x, H1, I1, r1, q1⟩ => ?_)
  obtain ⟨c, rfl, q1⟩ := q1
  cases r1
  refine wpAny_truthy_bool ?_
  cases c with
  | true => exact hb pins s1 σ H1 Q I1 q1
  | false => exact ⟨.bl false, H1, I1, rfl, q1⟩
end
end L2
namespace L2
open PySem PySem.Spec PyProof.Rows
def SqL (K : PySem.W.Frag) (H : Hp) (a : Addr) (xs : List V) : Prop :=
  Rd H a (.lst xs) ∨
    ∃ (o : Obj) (its : Array Value) (n : Nat), K.lookup a = some o ∧ o.cls = .type "list" ∧ o.dict = none ∧ o.data = .seq its n ∧ its.size ≤ sizeLine ∧ Vals xs its.toList
def SqT (K : PySem.W.Frag) (H : Hp) (a : Addr) (xs : List V) : Prop :=
  Rd H a (.tup xs) ∨
    ∃ (o : Obj) (its : Array Value) (n : Nat), K.lookup a = some o ∧ o.cls = .type "tuple" ∧ o.data = .seq its n ∧ its.size ≤ sizeLine ∧ Vals xs its.toList
def absV : Value → Option V
  | .none => some .non
  | .bool b => some (.bl b)
  | .int i _ => some (.int i)
  | .str x _ => some (.str x)
  | .bytes b _ => some (.byt b)
  | .float b _ => some (.flt b)
  | .ref a => some (.ref a)
  | .type n => some (.ty n)
  | _ => none
theorem RelV.abs {x : V} {u : Value} (r : RelV x u) : absV u = some x := by
  cases x with
  | non => cases r; rfl
  | bl _ => cases r; rfl
  | int _ => obtain ⟨t, rfl⟩ := r; rfl
  | str _ => obtain ⟨t, rfl⟩ := r; rfl
  | byt _ => obtain ⟨t, rfl⟩ := r; rfl
  | flt _ => obtain ⟨t, rfl⟩ := r; rfl
  | ref _ => cases r; rfl
  | ty _ => cases r; rfl
theorem RelV.inj {x y : V} {u : Value} (r : RelV x u) (q : RelV y u) : x = y := Option.some.inj (r.abs.symm.trans q.abs)
theorem Vals.inj : ∀ {xs ys : List V} {us : List Value}, Vals xs us → Vals ys us → xs = ys
  | _, _, _, .nil, .nil => rfl
  | _, _, _, .cons r t, .cons r' t' => by rw [r.inj r', Vals.inj t t']
section
variable {X : Cx} {pins : List (Addr × Obj)} {σ : St} {H : Hp} {s : Shared} {a : Addr} {xs ys : List V}
theorem SqL.of {K : PySem.W.Frag} (h : H a = some (.lst xs)) : SqL K H a xs := .inl (.inl h)
theorem Inv.list (I : Inv X pins σ H s) (h : SqL X.K H a xs) : ∃ its : List Value, Vals xs its ∧ PlainL s.heap a its.toArray ∧ xs.length ≤ sizeLine := by
  rcases h with h | ⟨o, its, n, hk, hc, hd, hs, hz, r⟩
  · obtain ⟨z, its, n, r, e⟩ := h.ok I.hok
    exact ⟨its, r, ⟨_, n, e, rfl, rfl, rfl⟩, z⟩
  · refine ⟨its.toList, r, ⟨o, n, I.kIn a o hk, hc, hd, by simpa using hs⟩, ?_⟩
    have e := r.length
    simp only [Array.length_toList] at e
    omega
theorem Inv.tuple (I : Inv X pins σ H s) (h : SqT X.K H a xs) : ∃ its : List Value, Vals xs its ∧ IsTup s.heap a its.toArray ∧ xs.length ≤ sizeLine := by
  rcases h with h | ⟨o, its, n, hk, hc, hs, hz, r⟩
  · obtain ⟨z, its, r, p⟩ := h.ok I.hok
    exact ⟨its, r, p, z⟩
  · refine ⟨its.toList, r, ⟨o, I.kIn a o hk, hc, n, by simpa using hs⟩, ?_⟩
    have e := r.length
    simp only [Array.length_toList] at e
    omega
theorem Inv.list_inj (I : Inv X pins σ H s) (h : SqL X.K H a xs) (h' : SqL X.K H a ys) : xs = ys := by
  obtain ⟨its, r, ⟨o, n, e, _, _, d⟩, _⟩ := I.list h
  obtain ⟨its', r', ⟨o', n', e', _, _, d'⟩, _⟩ := I.list h'
  rw [e] at e'; cases e'
  rw [d] at d'
  injection d' with d1 _
  have : its = its' := by simpa using congrArg Array.toList d1
  subst this
  exact r.inj r'
theorem Inv.tuple_inj (I : Inv X pins σ H s) (h : SqT X.K H a xs) (h' : SqT X.K H a ys) : xs = ys := by
  obtain ⟨its, r, ⟨o, e, _, n, d⟩, _⟩ := I.tuple h
  obtain ⟨its', r', ⟨o', e', _, n', d'⟩, _⟩ := I.tuple h'
  rw [e] at e'; cases e'
  rw [d] at d'
  injection d' with d1 _
  have : its = its' := by simpa using congrArg Array.toList d1
  subst this
  exact r.inj r'
end
abbrev Cx.wish (X : Cx) (E : Value → Shared → Prop) : Cx := { X with xe := E }
abbrev Cx.nox (X : Cx) : Cx := X.wish fun _ _ => False
theorem Cx.Ok.wish {X : Cx} (ok : X.Ok) (E : Value → Shared → Prop) : (X.wish E).Ok :=
  ⟨ok.mod, ok.kind, ok.glob, ok.blt, ok.above, ok.inj, ok.has, ok.cab, ok.hd, ok.frames, ok.stk, ok.exf, ok.bs, ok.bsz, ok.noex, ok.exfs, ok.funs, ok.frf⟩
theorem Cx.Ok.unwish {X : Cx} {E : Value → Shared → Prop} (ok : (X.wish E).Ok) : X.Ok :=
  ⟨ok.mod, ok.kind, ok.glob, ok.blt, ok.above, ok.inj, ok.has, ok.cab, ok.hd, ok.frames, ok.stk, ok.exf, ok.bs, ok.bsz, ok.noex, ok.exfs, ok.funs, ok.frf⟩
section
variable {X : Cx} {pins : List (Addr × Obj)} {σ : St} {H : Hp} {s : Shared} {E : Value → Shared → Prop}
theorem Inv.wish (I : Inv X pins σ H s) (E : Value → Shared → Prop) : Inv (X.wish E) pins σ H s := ⟨I.ok.wish E, I.os, I.bare, I.base, I.loc, I.cell, I.free, I.freeC, I.pin, I.hok, I.len⟩
theorem Inv.unwish (I : Inv (X.wish E) pins σ H s) : Inv X pins σ H s := ⟨I.ok.unwish, I.os, I.bare, I.base, I.loc, I.cell, I.free, I.freeC, I.pin, I.hok, I.len⟩
theorem SP.unwish {D : Ends} {f : Flow} {s' : Shared} (h : SP (X.wish E) pins D f s') : SP X pins D f s' := by
  cases f with
  | next => obtain ⟨σ', H', I, q⟩ := h; exact ⟨σ', H', I.unwish, q⟩
  | brk => obtain ⟨σ', H', I, q⟩ := h; exact ⟨σ', H', I.unwish, q⟩
  | cont => obtain ⟨σ', H', I, q⟩ := h; exact ⟨σ', H', I.unwish, q⟩
  | ret u => obtain ⟨v, σ', H', I, r, q⟩ := h; exact ⟨v, σ', H', I.unwish, r, q⟩
theorem PSs.nox {st : List Stmt} {t : TS} (h : PSs X.nox st t) : PSs X st t := fun pins s σ H D I hw =>
  wpAny_mono (h pins s σ H D (I.wish _) hw) (fun _ _ q => q.unwish) fun _ _ z => False.elim z
end
section
variable {X : Cx} {st : Stmt} {rest : List Stmt} {t u : TS} {e : Expr} {te : TE} {pos : Pos}
def tNext : TS := fun D σ H => D.nx σ H
def tSeq (t u : TS) : TS := fun D σ H => t { D with nx := u D } σ H
theorem pss_nil : PSs X [] tNext := fun _ _ σ H _ I h => wpAny_execs_nil ⟨σ, H, I, h⟩
theorem pss_cons (h1 : PS X st t) (h2 : PSs X rest u) : PSs X (st :: rest) (tSeq t u) := by
  intro pins s σ H D I h
  refine wpAny_execs_cons (thn (h1 pins s σ H { D with nx := u D } I h) fun f s1 q => ?_)
  cases f with
  | next =>
    obtain ⟨σ', H', I', q⟩ := q
    exact h2 pins s1 σ' H' D I' q
  | ret v => exact q
  | brk => exact q
  | cont => exact q
theorem pss_one (h1 : PS X st t) : PSs X [st] t := by
  intro pins s σ H D I h
  refine wpAny_execs_cons (thn (h1 pins s σ H D I h) fun f s1 q => ?_)
  cases f with
  | next => exact wpAny_execs_nil q
  | ret v => exact q
  | brk => exact q
  | cont => exact q
theorem Inv.quiet {pins : List (Addr × Obj)} {σ : St} {H : Hp} {s : Shared} (I : Inv X pins σ H s) : interactive X.env = false := by simp [interactive, I.ok.kind]
def tDrop (te : TE) : TS := fun D σ H => te σ H fun _ H1 => D.nx σ H1
theorem ps_expr (he : PE X e te) (hs : swapsWith e none pos.line X.env = pure false := by rfl) : PS X (.Expr e pos) (tDrop te) := by
  intro pins s σ H D I h
  exact wpAny_Expr_any (thn (he pins s σ H _ I h) fun v s1 ⟨x, H1, I1, r1, q1⟩ => ⟨σ, H1, I1, q1⟩) I.quiet hs
def tRet (te : TE) : TS := fun D σ H => te σ H D.rt
theorem ps_ret (he : PE X e te) : PS X (.Return (some e) pos) (tRet te) := by
  intro pins s σ H D I h
  exact wpAny_Return_some (thn (he pins s σ H _ I h) fun v s1 ⟨x, H1, I1, r1, q1⟩ => ⟨x, σ, H1, I1, r1, q1⟩)
def tIfS (c : TT) (t u : TS) : TS := fun D σ H => c σ H fun b H1 => if b = true then t D σ H1 else u D σ H1
theorem ps_if {c : Expr} {a b : List Stmt} {tc : TT} (hc : PT X c tc) (ha : PSs X a t) (hb : PSs X b u) : PS X (.If c a b pos) (tIfS tc t u) := by
  intro pins s σ H D I h
  refine wpAny_If (thn (hc pins s σ H _ I h) fun d s1 ⟨H1, I1, q1⟩ => ?_)
  cases d with
  | true => exact ha pins s1 σ H1 D I1 q1
  | false => exact hb pins s1 σ H1 D I1 q1
def tNever : TS := fun _ _ _ => False
theorem ps_never : PS X st tNever := fun _ _ _ _ _ _ h => h.elim
end
abbrev TG := V → St → Hp → (St → Hp → Prop) → Prop
abbrev TGs := List V → St → Hp → (St → Hp → Prop) → Prop
def PG (X : Cx) (target : Expr) (t : TG) : Prop :=
  ∀ (pins : List (Addr × Obj)) (s : Shared) (σ : St) (H : Hp) (v : V) (u : Value) (Q : St → Hp → Prop), Inv X pins σ H s → RelV v u → t v σ H Q →
    wpAny (model X.prog X.w) X.A (assign target X.env u) (fun _ s' => ∃ σ' H', Inv X pins σ' H' s' ∧ Q σ' H') X.xe s
def PGs (X : Cx) (ts : List Expr) (t : TGs) : Prop :=
  ∀ (pins : List (Addr × Obj)) (s : Shared) (σ : St) (H : Hp) (vs : List V) (us : List Value) (Q : St → Hp → Prop), Inv X pins σ H s → Vals vs us → t vs σ H Q →
    wpAny (model X.prog X.w) X.A (assignInOrder ((assignEach ts X.env).map (·.2)) us) (fun _ s' => ∃ σ' H', Inv X pins σ' H' s' ∧ Q σ' H') X.xe s
abbrev TSet := V → V → V → Hp → (Hp → Prop) → Prop
def PSet (X : Cx) (t : TSet) : Prop :=
  ∀ (pins : List (Addr × Obj)) (s : Shared) (σ : St) (H : Hp) (o i v : V) (ov iv u : Value) (Q : Hp → Prop), Inv X pins σ H s → RelV o ov → RelV i iv → RelV v u → t o i v H Q →
    wpAny (model X.prog X.w) X.A (setItem ov iv u) (fun _ s' => ∃ H', Inv X pins σ H' s' ∧ Q H') X.xe s
section
variable {X : Cx} {pos : Pos}
def gName (i : Nat) : TG := fun v σ H Q => Q (σ.set i (some v)) H
theorem pg_name {i : Nat} {x : Str} (hN : X.N.Nodup) (hi : X.N[i]? = some x) (hx : Loc X.env.scope x) (hf : X.fn x = true ∨ X.env.scope.names.lookup x = some .local := by first | exact .inl rfl | exact .inr rfl | assumption) : PG X (.Name x pos) (gName i) := by
  intro pins s σ H v u Q I r h
  exact wpAny_assign_Name (store_ok I hN hi hx r (fun s' I' => ⟨_, H, I', h⟩) hf)
def gNil : TGs := fun vs σ H Q => vs = [] ∧ Q σ H
def gCons (t : TG) (u : TGs) : TGs := fun vs σ H Q => ∃ v r, vs = v :: r ∧ t v σ H fun σ' H' => u r σ' H' Q
theorem pgs_nil : PGs X [] gNil := by
  intro pins s σ H vs us Q I r h
  obtain ⟨e, h⟩ := h
  subst e
  cases r
  exact assignInOrder_nil ⟨σ, H, I, h⟩
theorem pgs_cons {e : Expr} {es : List Expr} {t : TG} {u : TGs} (h1 : PG X e t) (h2 : PGs X es u)
    (hs : (assignEach (e :: es) X.env).map (·.2) = assign e X.env :: (assignEach es X.env).map (·.2) := by rfl) : PGs X (e :: es) (gCons t u) := by
  intro pins s σ H vs us Q I r h
  obtain ⟨v, vr, e1, h⟩ := h
  subst e1
  cases r with
  | cons r rr =>
    rw [hs]
    refine assignInOrder_cons (thn (h1 pins s σ H _ _ _ I r h) fun _ s1 ⟨σ1, H1, I1, q1⟩ => ?_)
    exact h2 pins s1 σ1 H1 _ _ Q I1 rr q1
def gTup (K : PySem.W.Frag) (n : Nat) (t : TGs) : TG := fun v σ H Q => ∃ a xs, v = .ref a ∧ SqT K H a xs ∧ xs.length = n ∧ t xs σ H Q
theorem pg_tup {es : List Expr} {k : Nat} {t : TGs} {n : Nat} (hc : X.calm = true) (h : PGs X es t)
    (hn : (assignEach es X.env).length = n := by rfl) (hst : (assignEach es X.env).findIdx? (·.1) = none := by rfl) : PG X (.Tuple es k pos) (gTup X.K n t) := by
  intro pins s σ H v u Q I r hw
  obtain ⟨a, xs, e1, hq, hl, hw⟩ := hw
  subst e1
  cases r
  obtain ⟨its, rv, ht, hz⟩ := I.tuple hq
  refine assign_Tuple_tuple (I.ok.hd hc) ht (by simp [hn, ← hl, rv.length]) hst fun h' hx => ?_
  have I1 : Inv X pins σ H { s with heap := h' } := I.kept (t' := s.toks) fun b o e => hx b o (Nat.ne_of_lt (Heap.lt_size e)) e
  exact h pins _ σ H xs _ Q I1 (by simpa using rv) hw
def gSub (to ti : TE) (t : TSet) : TG := fun v σ H Q => to σ H fun o H1 => ti σ H1 fun i H2 => t o i v H2 fun H3 => Q σ H3
theorem pg_sub {o i : Expr} {to ti : TE} {t : TSet} (ho : PE X o to) (hi : PE X i ti) (hs : PSet X t)
    (ha : ∀ v, assign (.Subscript o i pos) X.env v = (do
      let ov ← holding [v] (eval o X.env)
      let iv ← holding [v, ov] (eval i X.env)
      standAt pos
      holding [v, ov, iv] (setItem ov iv v)
      release [v, ov, iv] []) := by intro _; rfl) : PG X (.Subscript o i pos) (gSub to ti t) := by
  intro pins s σ H v u Q I r h
  rw [ha]
  refine wpAny_bind (wpAny_holding (thn (ho pins s σ H _ I h) fun ov s1 ⟨x, H1, I1, r1, q1⟩ => ?_))
  refine wpAny_bind (wpAny_holding (thn (hi pins s1 σ H1 _ I1 q1) fun iv s2 ⟨y, H2, I2, r2, q2⟩ => ?_))
  refine wpAny_bind (wpAny_standAt (wpAny_bind (wpAny_holding (thn (hs pins s2 σ H2 x y v ov iv u _ I2 r1 r2 r q2) fun _ s3 ⟨H3, I3, q3⟩ => ?_))))
  exact wpAny_release ⟨σ, H3, I3, q3⟩
def tAsg (te : TE) (g : TG) : TS := fun D σ H => te σ H fun x H1 => g x σ H1 D.nx
theorem ps_asg {tg e : Expr} {te : TE} {g : TG} (he : PE X e te) (hg : PG X tg g) (hs : swapsWithSole [tg] e pos.line X.env = pure false := by rfl) (hw : swappedStores [tg] e X.env = pure none := by rfl)
    (h1 : (assignEach [tg] X.env).map (·.2) = [assign tg X.env] := by rfl) : PS X (.Assign [tg] e pos) (tAsg te g) := by
  intro pins s σ H D I h
  refine wpAny_Assign_stores (thn (he pins s σ H _ I h) fun v s1 ⟨x, H1, I1, r1, q1⟩ => ?_) hs hw
  rw [h1]
  exact thn (hg pins s1 σ H1 x v _ I1 r1 q1) fun _ s2 q => q
theorem ps_set {i : Nat} {x : Str} {e : Expr} {te : TE} {pos' : Pos} (hN : X.N.Nodup) (hi : X.N[i]? = some x) (hx : Loc X.env.scope x) (he : PE X e te) (hs : swapsWith e (some (.Name x pos')) pos.line X.env = pure false := by rfl) (hf : X.fn x = true ∨ X.env.scope.names.lookup x = some .local := by first | exact .inl rfl | exact .inr rfl | assumption) :
    PS X (.Assign [.Name x pos'] e pos) (tAsg te (gName i)) := by
  intro pins s σ H D I h
  refine wpAny_Assign_Name (thn (he pins s σ H _ I h) fun v s1 ⟨y, H1, I1, r1, q1⟩ => ?_) hs
  exact store_ok I1 hN hi hx r1 (fun s2 I2 => ⟨_, H1, I2, q1⟩) hf
end
section
variable {X : Cx} {pos : Pos}
def tWhile (c : TT) (tb : TS) : TS := fun D σ H => ∃ W : Nat → St → Hp → Prop, (∃ m, W m σ H) ∧ ∀ m σ H, W m σ H →
  c σ H fun b H1 => if b = true then ∃ N : St → Hp → Prop, (∀ σ' H', N σ' H' → ∃ m', m' < m ∧ W m' σ' H') ∧ tb { D with nx := N, ct := N, bk := D.nx } σ H1 else D.nx σ H1
theorem ps_while {c : Expr} {body : List Stmt} {tc : TT} {tb : TS} (hp : PassesOwn (model X.prog X.w) X.A X.env X.xe) (hc : PT X c tc) (hb : PSs X body tb) : PS X (.While c body [] pos) (tWhile tc tb) := by
  intro pins s σ H D I h
  obtain ⟨W, ⟨m0, w0⟩, turn⟩ := h
  refine wpAny_While (codeAny_whileLoop (fun n s' => ∃ σ' H', Inv X pins σ' H' s' ∧ W n σ' H') ?_ m0 ⟨σ, H, I, w0⟩)
  rintro n s1 ⟨σ1, H1, I1, w1⟩
  refine wpAny_passesOwn hp (thn (hc pins s1 σ1 H1 _ I1 (turn n σ1 H1 w1)) fun b s2 ⟨H2, I2, q2⟩ => ?_)
  cases b with
  | true =>
    obtain ⟨N, hN, q2⟩ := q2
    rw [if_pos rfl]
    refine wpAny_passesOwn hp (thn (hb pins s2 σ1 H2 _ I2 q2) fun f s3 q3 => ?_)
    cases f with
    | next =>
      obtain ⟨σ3, H3, I3, n3⟩ := q3
      obtain ⟨m', hm, w3⟩ := hN σ3 H3 n3
      exact ⟨m', hm, σ3, H3, I3, w3⟩
    | cont =>
      obtain ⟨σ3, H3, I3, n3⟩ := q3
      obtain ⟨m', hm, w3⟩ := hN σ3 H3 n3
      exact ⟨m', hm, σ3, H3, I3, w3⟩
    | brk => exact q3
    | ret v => exact q3
  | false =>
    rw [if_neg Bool.false_ne_true]
    exact wpAny_execs_nil ⟨σ1, H2, I2, q2⟩
end
structure It where
  go : Nat → Hp → Prop
  yld : Nat → Hp → V → Hp → Prop
  stop : Nat → Hp → Prop
def FpOk (X : Cx) (pins : List (Addr × Obj)) (H : Hp) (b : Addr) : Prop :=
  H b = none ∧ b ≠ X.env.locals ∧ b ∉ X.fs ∧ (b ∈ X.ex ∨ X.s_0.heap.objs.size ≤ b) ∧ (∀ x c, X.env.cells.lookup x = some c → c ≠ b) ∧ ∀ p ∈ X.pn ++ pins, p.1 ≠ b
theorem Inv.fpOk {X : Cx} {pins : List (Addr × Obj)} {σ : St} {H H' : Hp} {s : Shared} {b : Addr} (I : Inv X pins σ H s) (hb : s.heap.objs.size ≤ b) (hn : H' b = none) : FpOk X pins H' b := by
  refine ⟨hn, Nat.ne_of_gt (Nat.lt_of_lt_of_le I.lt hb), I.nofs hb, .inr (Nat.le_trans I.sz hb), fun x c e z => ?_, fun p hp z => ?_⟩
  · obtain ⟨v, q⟩ := I.cell x c e
    exact absurd (Nat.lt_of_lt_of_le q.lt (by rw [z]; exact hb)) (Nat.lt_irrefl _)
  · exact absurd (Nat.lt_of_lt_of_le (Heap.lt_size (I.pin p hp).1) (by rw [z]; exact hb)) (Nat.lt_irrefl _)
structure Turn (P : Program) (w : World) (K : PySem.W.Frag) (tg : Expr) (J : It) (fp : List Addr) (it : Addr) (tn : Nat → Heap → Prop) : Prop where
  mem : it ∈ fp
  obj : ∀ i h, tn i h → ∀ b ∈ fp, ∃ o, h.get? b = some o ∧ ∀ v, o.data ≠ .cell v
  keep : ∀ i h h', tn i h → (∀ b ∈ fp, ∀ o, h.get? b = some o → h'.get? b = some o) → tn i h'
  item : ∀ (X : Cx), X.prog = P → X.w = w → X.K = K → X.calm = true → ∀ (i : Nat) (pins : List (Addr × Obj)) (s : Shared) (σ : St) (H : Hp) (E : Value → Shared → Prop), Inv X pins σ H s → (∀ b ∈ fp, FpOk X pins H b) → tn i s.heap → J.go i H →
    wpAny (model P w) X.A (pyNext (.ref it)) (fun r s1 => ∃ u, r = some u ∧
      wpAny (model P w) X.A (letOwnedTupleGo tg (.ref it) u) (fun _ s2 => ∃ x H', Inv X pins σ H' s2 ∧ RelV x u ∧ J.yld i H x H' ∧ tn (i + 1) s2.heap ∧ ∀ b ∈ fp, H' b = none) E s1) E s
  done : ∀ (X : Cx), X.prog = P → X.w = w → X.K = K → X.calm = true → ∀ (i : Nat) (pins : List (Addr × Obj)) (s : Shared) (σ : St) (H : Hp) (E : Value → Shared → Prop), Inv X pins σ H s → (∀ b ∈ fp, FpOk X pins H b) → tn i s.heap → J.stop i H →
    wpAny (model P w) X.A (pyNext (.ref it)) (fun r s1 => r = none ∧ Inv X pins σ H s1) E s
  self : ∀ (A : Around) (i : Nat) (s : Shared) (Q : Value → Shared → Prop) (E : Value → Shared → Prop), tn i s.heap → Q (.ref it) s → wpAny (model P w) A (pyIter (.ref it)) Q E s
abbrev TI := St → Hp → (It → Hp → Prop) → Prop
def PIE (X : Cx) (pins : List (Addr × Obj)) (σ : St) (tg : Expr) (R : It → Hp → Prop) (itv : Value) (s2 : Shared) : Prop :=
  ∃ (it : Addr) (fp : List Addr) (tn : Nat → Heap → Prop) (J : It) (H' : Hp), itv = .ref it ∧ Inv X pins σ H' s2 ∧ Turn X.prog X.w X.K tg J fp it tn ∧ tn 0 s2.heap ∧ (∀ b ∈ fp, FpOk X pins H' b) ∧ R J H'
def PI (X : Cx) (tg iter : Expr) (wi : TI) : Prop :=
  ∀ (pins : List (Addr × Obj)) (s : Shared) (σ : St) (H : Hp) (R : It → Hp → Prop), Inv X pins σ H s → wi σ H R →
    wpAny (model X.prog X.w) X.A (eval iter X.env) (fun v s1 => wpAny (model X.prog X.w) X.A (pyIter v) (PIE X pins σ tg R) X.xe s1) X.xe s
theorem go_of {M : Model} {A : Around} {E : Value → Shared → Prop} {s : Shared} {tg : Expr} {it : Addr} {u : Value} {o : Obj} {n : String} {vs : Array Value} {Q : Unit → Shared → Prop} (ho : s.heap.get? it = some o) (hc : o.cls = .type n) (hd : o.data = .fields vs)
    (hn : ["enumerate", "zip", "dict_itemiterator", "dict_reverseitemiterator", "odict_iterator", "itertools.zip_longest", "itertools.pairwise"].contains n = false) (hQ : Q () s) : wpAny M A (letOwnedTupleGo tg (.ref it) u) Q E s := by
  unfold letOwnedTupleGo
  cases tg <;> first
    | exact wpAny_pure hQ
    | (cases u <;> first
        | exact wpAny_pure hQ
        | (refine wpAny_bind (wpAny_load ho ?_)
           rw [hc, hd]
           show wpAny M A (if (["enumerate", "zip", "dict_itemiterator", "dict_reverseitemiterator", "odict_iterator", "itertools.zip_longest", "itertools.pairwise"].contains n && vs[0]? == some (rawInt _)) = true then _ else _) Q E s
           rw [if_neg (by intro h; rw [hn, Bool.false_and] at h; cases h)]
           exact wpAny_pure hQ))
def Itl (K : PySem.W.Frag) (a : Addr) : It :=
  ⟨fun i H => ∃ xs x, SqL K H a xs ∧ xs[i]? = some x, fun i H x H' => H' = H ∧ ∀ xs, SqL K H a xs → xs[i]? = some x, fun i H => ∃ xs, SqL K H a xs ∧ xs.length ≤ i⟩
def Itt (K : PySem.W.Frag) (a : Addr) : It :=
  ⟨fun i H => ∃ xs x, SqT K H a xs ∧ xs[i]? = some x, fun i H x H' => H' = H ∧ ∀ xs, SqT K H a xs → xs[i]? = some x, fun i H => ∃ xs, SqT K H a xs ∧ xs.length ≤ i⟩
def Itr (lo : Int) (n : Nat) : It := ⟨fun i _ => i < n, fun i H x H' => H' = H ∧ x = .int (lo + i), fun i _ => n ≤ i⟩
theorem turn_list {P : Program} {w : World} {K : PySem.W.Frag} {tg : Expr} (a it : Addr) : Turn P w K tg (Itl K a) [it] it (fun i h => h.IsListIter it a i) where
  mem := by simp
  obj := fun i h st b hb => by
    have e : b = it := by simpa using hb
    subst e
    obtain ⟨o, e, c, d⟩ := st
    exact ⟨o, e, fun v z => by rw [d] at z; cases z⟩
  keep := fun i h h' st k => st.at fun o e => k it (by simp) o e
  item := by
    intro X hP hw hK hc i pins s σ H E I hf st hg
    subst hP hw hK
    obtain ⟨xs, x, hq, hx⟩ := hg
    obtain ⟨its, rv, p, hz⟩ := I.list hq
    obtain ⟨u, hu, ru⟩ := rv.get hx
    obtain ⟨f0, f1, f2, f3, f4, f5⟩ := hf it (by simp)
    refine wpAny_pyNext_list_item st p.isList (x := u) (by simpa using hu) fun h' st' sb => ?_
    have I1 : Inv X pins σ H { s with heap := h' } := I.turned (t' := s.toks) (fun b o hb e => (sb.2 b hb).trans e) f0 f1 f3 f4 f5
    obtain ⟨o, e, c, d⟩ := id st'
    exact ⟨u, rfl, go_of (s := { s with heap := h' }) e c d (by decide) ⟨x, H, I1, ru, ⟨rfl, fun ys hy => by rw [I.list_inj hy hq]; exact hx⟩, st', fun b hb => (hf b hb).1⟩⟩
  done := by
    intro X hP hw hK hc i pins s σ H E I hf st hg
    subst hP hw hK
    obtain ⟨xs, hq, hx⟩ := hg
    obtain ⟨its, rv, p, hz⟩ := I.list hq
    obtain ⟨f0, f1, f2, f3, f4, f5⟩ := hf it (by simp)
    have hl := rv.length
    exact wpAny_pyNext_list_end (I.ok.hd hc) st p.isList (by simp; omega) fun h' eb => ⟨rfl, I.turned (t' := s.toks) (fun b o hb e => eb b o hb e) f0 f1 f3 f4 f5⟩
  self := fun _ _ _ _ _ st h => wpAny_pyIter_listiter st h
theorem turn_tuple {P : Program} {w : World} {K : PySem.W.Frag} {tg : Expr} (a it : Addr) : Turn P w K tg (Itt K a) [it] it (fun i h => h.IsTupleIter it a i) where
  mem := by simp
  obj := fun i h st b hb => by
    have e : b = it := by simpa using hb
    subst e
    obtain ⟨o, e, c, d⟩ := st
    exact ⟨o, e, fun v z => by rw [d] at z; cases z⟩
  keep := fun i h h' st k => st.at fun o e => k it (by simp) o e
  item := by
    intro X hP hw hK hc i pins s σ H E I hf st hg
    subst hP hw hK
    obtain ⟨xs, x, hq, hx⟩ := hg
    obtain ⟨its, rv, p, hz⟩ := I.tuple hq
    obtain ⟨u, hu, ru⟩ := rv.get hx
    obtain ⟨f0, f1, f2, f3, f4, f5⟩ := hf it (by simp)
    refine wpAny_pyNext_tuple_item st (show s.heap.IsTuple a its.toArray from p) (x := u) (by simpa using hu) fun h' st' sb => ?_
    have I1 : Inv X pins σ H { s with heap := h' } := I.turned (t' := s.toks) (fun b o hb e => (sb.2 b hb).trans e) f0 f1 f3 f4 f5
    obtain ⟨o, e, c, d⟩ := id st'
    exact ⟨u, rfl, go_of (s := { s with heap := h' }) e c d (by decide) ⟨x, H, I1, ru, ⟨rfl, fun ys hy => by rw [I.tuple_inj hy hq]; exact hx⟩, st', fun b hb => (hf b hb).1⟩⟩
  done := by
    intro X hP hw hK hc i pins s σ H E I hf st hg
    subst hP hw hK
    obtain ⟨xs, hq, hx⟩ := hg
    obtain ⟨its, rv, p, hz⟩ := I.tuple hq
    obtain ⟨f0, f1, f2, f3, f4, f5⟩ := hf it (by simp)
    have hl := rv.length
    exact wpAny_pyNext_tuple_end (I.ok.hd hc) st (show s.heap.IsTuple a its.toArray from p) (by simp; omega) fun h' eb => ⟨rfl, I.turned (t' := s.toks) (fun b o hb e => eb b o hb e) f0 f1 f3 f4 f5⟩
  self := fun _ _ _ _ _ st h => wpAny_pyIter_tupleiter st h
theorem turn_range {P : Program} {w : World} {K : PySem.W.Frag} {tg : Expr} (it : Addr) (lo : Int) (n : Nat) : Turn P w K tg (Itr lo n) [it] it (fun i h => IsRangeIter h it (lo + (i : Nat) * 1) ((n : Int) - (i : Nat)) 1) where
  mem := by simp
  obj := fun i h st b hb => by
    have e : b = it := by simpa using hb
    subst e
    exact ⟨_, st, fun v z => by
      have z' : Data.fields _ = Data.cell v := z
      cases z'⟩
  keep := fun i h h' st k => k it (by simp) _ st
  item := by
    intro X hP hw hK hc i pins s σ H E I hf st hg
    subst hP hw hK
    obtain ⟨f0, f1, f2, f3, f4, f5⟩ := hf it (by simp)
    have W := Walks.range (prog := X.prog) (w := X.w) (I.ok.hd hc) it lo 1 n
    refine W.item i s _ _ hg st fun v h' tk hv st' kk => ?_
    obtain ⟨t, rfl⟩ := hv
    have I1 : Inv X pins σ H { s with heap := h', toks := tk } := I.turned (fun b o hb e => kk b o (by simpa using hb) e) f0 f1 f3 f4 f5
    refine ⟨_, rfl, go_of (s := { s with heap := h', toks := tk }) (n := "range_iterator") st' rfl rfl (by decide) ⟨.int (lo + i), H, I1, ⟨t, ?_⟩, ⟨rfl, rfl⟩, st', fun b hb => (hf b hb).1⟩⟩
    rw [Int.mul_one]
  done := by
    intro X hP hw hK hc i pins s σ H E I hf st hg
    subst hP hw hK
    obtain ⟨f0, f1, f2, f3, f4, f5⟩ := hf it (by simp)
    exact wpAny_pyNext_range_end (I.ok.hd hc) st (by have : n ≤ i := hg; omega) fun h' eb => ⟨rfl, I.turned (t' := s.toks) (fun b o hb e => eb b o hb e) f0 f1 f3 f4 f5⟩
  self := fun _ _ _ _ _ st h => wpAny_pyIter_rangeiter st h
end L2
namespace L2
open PySem PySem.Spec PyProof.Rows
section
variable {X : Cx} {tg : Expr}
def iList (K : PySem.W.Frag) (tl : TE) : TI := fun σ H R => tl σ H fun x H1 => ∃ a, x = .ref a ∧ (∃ xs, SqL K H1 a xs) ∧ R (Itl K a) H1
def iTup (K : PySem.W.Frag) (tl : TE) : TI := fun σ H R => tl σ H fun x H1 => ∃ a, x = .ref a ∧ (∃ xs, SqT K H1 a xs) ∧ R (Itt K a) H1
theorem pi_list {l : Expr} {tl : TE} (hl : PE X l tl) : PI X tg l (iList X.K tl) := by
  intro pins s σ H R I h
  refine thn (hl pins s σ H _ I h) fun v s1 ⟨x, H1, I1, r1, q1⟩ => ?_
  obtain ⟨a, e, ⟨xs, hq⟩, q⟩ := q1
  subst e
  cases r1
  obtain ⟨its, rv, p, hz⟩ := I1.list hq
  refine wpAny_pyIter_list p.isList ?_
  refine ⟨s1.heap.objs.size, [s1.heap.objs.size], _, _, H1, rfl, I1.kept (t' := s1.toks) fun b o e => Heap.get?_push_of_some _ e, turn_list a _, ⟨_, Heap.get?_push_size _ rfl, rfl, rfl⟩, fun b hb => ?_, q⟩
  have e : b = s1.heap.objs.size := by simpa using hb
  subst e
  exact I1.fpOk (Nat.le_refl _) (I1.hok.fresh (Nat.le_refl _))
theorem pi_tup {l : Expr} {tl : TE} (hl : PE X l tl) : PI X tg l (iTup X.K tl) := by
  intro pins s σ H R I h
  refine thn (hl pins s σ H _ I h) fun v s1 ⟨x, H1, I1, r1, q1⟩ => ?_
  obtain ⟨a, e, ⟨xs, hq⟩, q⟩ := q1
  subst e
  cases r1
  obtain ⟨its, rv, p, hz⟩ := I1.tuple hq
  refine wpAny_pyIter_tuple (show s1.heap.IsTuple a its.toArray from p) ?_
  refine ⟨s1.heap.objs.size, [s1.heap.objs.size], _, _, H1, rfl, I1.kept (t' := s1.toks) fun b o e => Heap.get?_push_of_some _ e, turn_tuple a _, ⟨_, Heap.get?_push_size _ rfl, rfl, rfl⟩, fun b hb => ?_, q⟩
  have e : b = s1.heap.objs.size := by simpa using hb
  subst e
  exact I1.fpOk (Nat.le_refl _) (I1.hok.fresh (Nat.le_refl _))
theorem range_it {pins : List (Addr × Obj)} {σ : St} {H : Hp} {s : Shared} {R : It → Hp → Prop} {E : Value → Shared → Prop} {lo hi : Int} {t u v : Tok} {tk : Nat} (I : Inv X pins σ H s) (h1 : -(2 ^ 62) ≤ lo) (h2 : lo < 2 ^ 62) (h3 : -(2 ^ 62) ≤ hi) (h4 : hi < 2 ^ 62)
    (q : R (Itr lo (hi - lo).toNat) H) : wpAny (model X.prog X.w) X.A (pyIter (.ref s.heap.objs.size)) (PIE X pins σ tg R) E { s with heap := s.heap.push { cls := .type "range", data := .fields #[.int lo t, .int hi u, .int 1 v] }, toks := tk } := by
  refine wpAny_pyIter_range (IsRange.new ..) (small_one h1 h2 h3 h4) ?_
  have I1 : Inv X pins σ H { s with heap := s.heap.push { cls := .type "range", data := .fields #[.int lo t, .int hi u, .int 1 v] }, toks := tk } := I.kept fun b o e => Heap.get?_push_of_some _ e
  refine ⟨(s.heap.push { cls := .type "range", data := .fields #[.int lo t, .int hi u, .int 1 v] }).objs.size, [(s.heap.push { cls := .type "range", data := .fields #[.int lo t, .int hi u, .int 1 v] }).objs.size], _, _, H, rfl,
    I1.kept (t' := tk) fun b o e => Heap.get?_push_of_some _ e, turn_range _ lo (hi - lo).toNat, ?_, fun b hb => ?_, q⟩
  · have e1 : lo + ((0 : Nat) : Int) * 1 = lo := by simp
    have e2 : (((hi - lo).toNat : Nat) : Int) - ((0 : Nat) : Int) = Builtin.Range.rangeSize lo hi 1 := by rw [rangeSize_one]; split <;> omega
    show IsRangeIter _ _ (lo + ((0 : Nat) : Int) * 1) ((((hi - lo).toNat : Nat) : Int) - ((0 : Nat) : Int)) 1
    rw [e1, e2]
    exact Heap.get?_push_size _ rfl
  · have e : b = (s.heap.push { cls := .type "range", data := .fields #[.int lo t, .int hi u, .int 1 v] }).objs.size := by simpa using hb
    subst e
    exact I1.fpOk (Nat.le_refl _) (I1.hok.fresh (Nat.le_refl _))
def iRng1 (ta : TA) : TI := fun σ H R => ta σ H fun vs H1 => ∃ j : Int, vs = [.int j] ∧ -(2 ^ 62) ≤ j ∧ j < 2 ^ 62 ∧ R (Itr 0 j.toNat) H1
def iRng2 (ta : TA) : TI := fun σ H R => ta σ H fun vs H1 => ∃ i j : Int, vs = [.int i, .int j] ∧ (-(2 ^ 62) ≤ i ∧ i < 2 ^ 62 ∧ -(2 ^ 62) ≤ j ∧ j < 2 ^ 62) ∧ R (Itr i (j - i).toNat) H1
theorem pi_range1 {a : Expr} {ta : TA} {p pos : Pos} (hg : Gl X "range") (hm : X.mg "range" = none) (ha : PA X [a] ta) (hs : starEach [a] X.env = [(false, eval a X.env)] := by rfl) : PI X tg (.Call (.Name "range" p) [a] [] pos) (iRng1 ta) := by
  intro pins s σ H R I h
  refine Call_ (ld_blt I hg hm boot_range (PyProof.Rows.callWith_type1 (thn (ha pos pins s σ H _ I h) fun us s1 ⟨vs, H1, I1, r1, q1⟩ => ?_) hs rfl))
  obtain ⟨j, e, q1, q2, q⟩ := q1
  subst e
  cases r1 with
  | cons r rr =>
    cases rr
    obtain ⟨t, rfl⟩ := r
    exact call_range_1 (range_it I1 (by omega) (by omega) q1 q2 (by simpa using q))
theorem pi_range2 {a b : Expr} {ta : TA} {p pos : Pos} (hg : Gl X "range") (hm : X.mg "range" = none) (ha : PA X [a, b] ta) (hs : starEach [a, b] X.env = [(false, eval a X.env), (false, eval b X.env)] := by rfl) (hs2 : starEach [b] X.env = [(false, eval b X.env)] := by rfl) :
    PI X tg (.Call (.Name "range" p) [a, b] [] pos) (iRng2 ta) := by
  intro pins s σ H R I h
  refine Call_ (ld_blt I hg hm boot_range (PyProof.Rows.callWith_type1 (thn (ha pos pins s σ H _ I h) fun us s1 ⟨vs, H1, I1, r1, q1⟩ => ?_) (by rw [hs, hs2]) (by rw [hs2]; rfl)))
  obtain ⟨i, j, e, ⟨q1, q2, q3, q4⟩, q⟩ := q1
  subst e
  cases r1 with
  | cons r rr =>
    cases rr with
    | cons r' rr =>
      cases rr
      obtain ⟨t, rfl⟩ := r
      obtain ⟨t', rfl⟩ := r'
      exact call_range_2 (range_it I1 q1 q2 q3 q4 q)
def tFor (wi : TI) (g : TG) (tb : TS) : TS := fun D σ H => wi σ H fun J H1 => ∃ W : Nat → Nat → St → Hp → Prop, (∃ m, W 0 m σ H1) ∧ ∀ i m σ H, W i m σ H →
  (J.stop i H ∧ D.nx σ H) ∨ (J.go i H ∧ ∃ N : St → Hp → Prop, (∀ σ' H', N σ' H' → ∃ m', m' < m ∧ W (i + 1) m' σ' H') ∧ ∀ x H', J.yld i H x H' → g x σ H' fun σ2 H2 => tb { D with nx := N, ct := N, bk := D.nx } σ2 H2)
def pinsAt (fp : List Addr) (h : Heap) : List (Addr × Obj) := fp.filterMap fun b => (h.get? b).map fun o => (b, o)
theorem mem_pinsAt {fp : List Addr} {h : Heap} {b : Addr} {o : Obj} (hb : b ∈ fp) (e : h.get? b = some o) : (b, o) ∈ pinsAt fp h := List.mem_filterMap.mpr ⟨b, hb, by rw [e]; rfl⟩
theorem of_pinsAt {fp : List Addr} {h : Heap} {p : Addr × Obj} (hp : p ∈ pinsAt fp h) : p.1 ∈ fp ∧ h.get? p.1 = some p.2 := by
  obtain ⟨b, hb, e⟩ := List.mem_filterMap.mp hp
  cases q : h.get? b with
  | none => rw [q] at e; cases e
  | some o =>
    rw [q] at e
    have e' : (b, o) = p := Option.some.inj e
    subst e'
    exact ⟨hb, q⟩
theorem Inv.pinned {pins : List (Addr × Obj)} {σ : St} {H : Hp} {s : Shared} {fp : List Addr} (I : Inv X pins σ H s) (hf : ∀ b ∈ fp, FpOk X pins H b) (ho : ∀ b ∈ fp, ∃ o, s.heap.get? b = some o ∧ ∀ v, o.data ≠ .cell v) : Inv X (pins ++ pinsAt fp s.heap) σ H s :=
  I.pins_of fun p hp => (List.mem_append.mp hp).elim (fun z => I.pin p (List.mem_append_right _ z)) fun z => by
    obtain ⟨hb, e⟩ := of_pinsAt z
    obtain ⟨f0, f1, f2, _⟩ := hf p.1 hb
    obtain ⟨o, e', d⟩ := ho p.1 hb
    rw [e] at e'; cases e'
    exact ⟨e, f0, f1, f2, d⟩
theorem Inv.unpinned {pins pl : List (Addr × Obj)} {σ : St} {H : Hp} {s : Shared} (I : Inv X (pins ++ pl) σ H s) : Inv X pins σ H s := I.pins_of fun p hp => I.pin p (List.mem_append_right _ (List.mem_append_left _ hp))
theorem ps_for {iter : Expr} {body : List Stmt} {wi : TI} {g : TG} {tb : TS} {pos : Pos} (hp : PassesOwn (model X.prog X.w) X.A X.env X.xe) (hc : X.calm = true) (hi : PI X tg iter wi) (hg : PG X tg g) (hb : PSs X body tb)
    (hs : ∀ x, foldedSetIterable iter X.env x = pure x := by intro _; rfl) : PS X (.For tg iter body [] pos) (tFor wi g tb) := by
  intro pins s σ H D I h
  refine wpAny_For (thn (hi pins s σ H _ I h) fun v s1 h1 => thn h1 fun itv s2 h2 => ?_) hs
  obtain ⟨it, fp, tn, J, H2, e, I2, T, st2, f2, W, ⟨m0, w0⟩, turn⟩ := h2
  subst e
  have stat : ∀ {H' : Hp}, (∀ b ∈ fp, H' b = none) → ∀ b ∈ fp, FpOk X pins H' b := fun hn b hb => ⟨hn b hb, (f2 b hb).2⟩
  refine codeAny_forLoop_any (fun n s' => ∃ i σ' H', Inv X pins σ' H' s' ∧ tn i s'.heap ∧ (∀ b ∈ fp, H' b = none) ∧ W i n σ' H') ?_ m0 ⟨0, σ, H2, I2, st2, fun b hb => (f2 b hb).1, w0⟩
  rintro n s3 ⟨i, σ3, H3, I3, st3, fr3, w3⟩
  rcases turn i n σ3 H3 w3 with ⟨stop, qn⟩ | ⟨go, N, hN, step⟩
  · refine wpAny_passesOwn hp (thn (T.done X rfl rfl rfl hc i pins s3 σ3 H3 X.xe I3 (stat fr3) st3 stop) fun r s4 ⟨hr, I4⟩ => ?_)
    subst hr
    exact wpAny_execs_nil ⟨σ3, H3, I4, qn⟩
  · refine wpAny_passesOwn hp (thn (T.item X rfl rfl rfl hc i pins s3 σ3 H3 X.xe I3 (stat fr3) st3 go) fun r s4 ⟨u, hr, h4⟩ => ?_)
    subst hr
    refine wpAny_passesOwn hp (thn h4 fun _ s5 ⟨x, H5, I5, r5, y5, st5, fr5⟩ => ?_)
    have I5' := I5.pinned (stat fr5) (T.obj _ _ st5)
    refine wpAny_passesOwn hp (thn (hg _ s5 σ3 H5 x u _ I5' r5 (step x H5 y5)) fun _ s6 ⟨σ6, H6, I6, q6⟩ => ?_)
    refine wpAny_passesOwn hp (thn (hb _ s6 σ6 H6 _ I6 q6) fun f s7 q7 => ?_)
    have again : ∀ {σ7 : St} {H7 : Hp}, Inv X (pins ++ pinsAt fp s5.heap) σ7 H7 s7 → N σ7 H7 → ∃ m, m < n ∧ ∃ i σ' H', Inv X pins σ' H' s7 ∧ tn i s7.heap ∧ (∀ b ∈ fp, H' b = none) ∧ W i m σ' H' := fun {σ7 H7} I7 n7 => by
      obtain ⟨m', hm, w7⟩ := hN σ7 H7 n7
      refine ⟨m', hm, i + 1, σ7, H7, I7.unpinned, T.keep _ _ _ st5 fun b hb o e => (I7.pin (b, o) (List.mem_append_right _ (List.mem_append_right _ (mem_pinsAt hb e)))).1, fun b hb => ?_, w7⟩
      obtain ⟨o, e, d⟩ := T.obj _ _ st5 b hb
      exact (I7.pin (b, o) (List.mem_append_right _ (List.mem_append_right _ (mem_pinsAt hb e)))).2.1
    cases f with
    | next => obtain ⟨σ7, H7, I7, n7⟩ := q7; exact again I7 n7
    | cont => obtain ⟨σ7, H7, I7, n7⟩ := q7; exact again I7 n7
    | brk => obtain ⟨σ7, H7, I7, q7⟩ := q7; exact ⟨σ7, H7, I7.unpinned, q7⟩
    | ret v => obtain ⟨x7, σ7, H7, I7, r7, q7⟩ := q7; exact ⟨x7, σ7, H7, I7.unpinned, r7, q7⟩
end
theorem for_list {K : PySem.W.Frag} {a : Addr} {xs : List V} {g : TG} {tb : TS} {D : Ends} {σ : St} {H : Hp} (Pv : Nat → St → Hp → Prop) (h0 : Pv 0 σ H) (hl : ∀ i σ H, i ≤ xs.length → Pv i σ H → SqL K H a xs)
    (hs : ∀ i x σ H, xs[i]? = some x → Pv i σ H → g x σ H fun σ2 H2 => tb { D with nx := Pv (i + 1), ct := Pv (i + 1), bk := D.nx } σ2 H2) (hd : ∀ σ H, Pv xs.length σ H → D.nx σ H) :
    ∃ W : Nat → Nat → St → Hp → Prop, (∃ m, W 0 m σ H) ∧ ∀ i m σ H, W i m σ H →
      ((Itl K a).stop i H ∧ D.nx σ H) ∨ ((Itl K a).go i H ∧ ∃ N : St → Hp → Prop, (∀ σ' H', N σ' H' → ∃ m', m' < m ∧ W (i + 1) m' σ' H') ∧ ∀ x H', (Itl K a).yld i H x H' → g x σ H' fun σ2 H2 => tb { D with nx := N, ct := N, bk := D.nx } σ2 H2) := by
  refine ⟨fun i m σ H => m = xs.length - i ∧ i ≤ xs.length ∧ Pv i σ H, ⟨xs.length, by simp, Nat.zero_le _, h0⟩, ?_⟩
  rintro i m σ H ⟨rfl, hi, p⟩
  have q := hl i σ H hi p
  by_cases hlt : i < xs.length
  · refine .inr ⟨⟨xs, xs[i], q, by simp [hlt]⟩, Pv (i + 1), fun σ' H' p' => ⟨xs.length - (i + 1), by omega, rfl, hlt, p'⟩, fun x H' y => ?_⟩
    obtain ⟨e, y⟩ := y
    subst e
    exact hs i x σ _ (y xs q) p
  · have e : i = xs.length := by omega
    subst e
    exact .inl ⟨⟨xs, q, Nat.le_refl _⟩, hd σ H p⟩
theorem for_tup {K : PySem.W.Frag} {a : Addr} {xs : List V} {g : TG} {tb : TS} {D : Ends} {σ : St} {H : Hp} (Pv : Nat → St → Hp → Prop) (h0 : Pv 0 σ H) (hl : ∀ i σ H, i ≤ xs.length → Pv i σ H → SqT K H a xs)
    (hs : ∀ i x σ H, xs[i]? = some x → Pv i σ H → g x σ H fun σ2 H2 => tb { D with nx := Pv (i + 1), ct := Pv (i + 1), bk := D.nx } σ2 H2) (hd : ∀ σ H, Pv xs.length σ H → D.nx σ H) :
    ∃ W : Nat → Nat → St → Hp → Prop, (∃ m, W 0 m σ H) ∧ ∀ i m σ H, W i m σ H →
      ((Itt K a).stop i H ∧ D.nx σ H) ∨ ((Itt K a).go i H ∧ ∃ N : St → Hp → Prop, (∀ σ' H', N σ' H' → ∃ m', m' < m ∧ W (i + 1) m' σ' H') ∧ ∀ x H', (Itt K a).yld i H x H' → g x σ H' fun σ2 H2 => tb { D with nx := N, ct := N, bk := D.nx } σ2 H2) := by
  refine ⟨fun i m σ H => m = xs.length - i ∧ i ≤ xs.length ∧ Pv i σ H, ⟨xs.length, by simp, Nat.zero_le _, h0⟩, ?_⟩
  rintro i m σ H ⟨rfl, hi, p⟩
  have q := hl i σ H hi p
  by_cases hlt : i < xs.length
  · refine .inr ⟨⟨xs, xs[i], q, by simp [hlt]⟩, Pv (i + 1), fun σ' H' p' => ⟨xs.length - (i + 1), by omega, rfl, hlt, p'⟩, fun x H' y => ?_⟩
    obtain ⟨e, y⟩ := y
    subst e
    exact hs i x σ _ (y xs q) p
  · have e : i = xs.length := by omega
    subst e
    exact .inl ⟨⟨xs, q, Nat.le_refl _⟩, hd σ H p⟩
theorem for_range {lo : Int} {n : Nat} {g : TG} {tb : TS} {D : Ends} {σ : St} {H : Hp} (Pv : Nat → St → Hp → Prop) (h0 : Pv 0 σ H)
    (hs : ∀ i σ H, i < n → Pv i σ H → g (.int (lo + i)) σ H fun σ2 H2 => tb { D with nx := Pv (i + 1), ct := Pv (i + 1), bk := D.nx } σ2 H2) (hd : ∀ σ H, Pv n σ H → D.nx σ H) :
    ∃ W : Nat → Nat → St → Hp → Prop, (∃ m, W 0 m σ H) ∧ ∀ i m σ H, W i m σ H →
      ((Itr lo n).stop i H ∧ D.nx σ H) ∨ ((Itr lo n).go i H ∧ ∃ N : St → Hp → Prop, (∀ σ' H', N σ' H' → ∃ m', m' < m ∧ W (i + 1) m' σ' H') ∧ ∀ x H', (Itr lo n).yld i H x H' → g x σ H' fun σ2 H2 => tb { D with nx := N, ct := N, bk := D.nx } σ2 H2) := by
  refine ⟨fun i m σ H => m = n - i ∧ i ≤ n ∧ Pv i σ H, ⟨n, by simp, Nat.zero_le _, h0⟩, ?_⟩
  rintro i m σ H ⟨rfl, hi, p⟩
  by_cases hlt : i < n
  · refine .inr ⟨hlt, Pv (i + 1), fun σ' H' p' => ⟨n - (i + 1), by omega, rfl, hlt, p'⟩, fun x H' y => ?_⟩
    obtain ⟨e, y⟩ := y
    subst e y
    exact hs i σ _ hlt p
  · have e : i = n := by omega
    subst e
    exact .inl ⟨Nat.le_refl _, hd σ H p⟩
theorem while_by {c : TT} {tb : TS} {D : Ends} {σ : St} {H : Hp} (Pv : St → Hp → Prop) (μ : St → Hp → Nat) (h0 : Pv σ H)
    (hs : ∀ σ H, Pv σ H → c σ H fun b H1 => if b = true then tb { D with nx := fun σ' H' => Pv σ' H' ∧ μ σ' H' < μ σ H, ct := fun σ' H' => Pv σ' H' ∧ μ σ' H' < μ σ H, bk := D.nx } σ H1 else D.nx σ H1)
    (mono : ∀ σ H Q Q', (∀ b H1, Q b H1 → Q' b H1) → c σ H Q → c σ H Q') : tWhile c tb D σ H := by
  refine ⟨fun m σ H => m = μ σ H ∧ Pv σ H, ⟨_, rfl, h0⟩, ?_⟩
  rintro m σ H ⟨rfl, p⟩
  refine mono σ H _ _ (fun b H1 q => ?_) (hs σ H p)
  cases b with
  | true => exact ⟨_, fun σ' H' ⟨p', l⟩ => ⟨_, l, rfl, p'⟩, q⟩
  | false => exact q
end L2
namespace L2
open PySem PySem.Spec PyProof.Rows
abbrev R2 := V → V → Hp → VK → Prop
def OpR (X : Cx) (f : Value → Value → Sem Value) (r : R2) : Prop :=
  ∀ (pins : List (Addr × Obj)) (s : Shared) (σ : St) (H : Hp) (x y : V) (v u : Value) (Q : VK), Inv X pins σ H s → RelV x v → RelV y u → r x y H Q →
    wpAny (model X.prog X.w) X.A (f v u) (EP X pins σ Q) X.xe s
def UnR (X : Cx) (f : Value → Sem Value) (r : V → Hp → VK → Prop) : Prop :=
  ∀ (pins : List (Addr × Obj)) (s : Shared) (σ : St) (H : Hp) (x : V) (v : Value) (Q : VK), Inv X pins σ H s → RelV x v → r x H Q →
    wpAny (model X.prog X.w) X.A (f v) (EP X pins σ Q) X.xe s
def CallR (X : Cx) (f : Value) (r : List V → Hp → VK → Prop) : Prop :=
  ∀ (pins : List (Addr × Obj)) (s : Shared) (σ : St) (H : Hp) (xs : List V) (us : List Value) (Q : VK), Inv X pins σ H s → Vals xs us → r xs H Q →
    wpAny (model X.prog X.w) X.A (call f us) (EP X pins σ Q) X.xe s
def tOp (r : R2) (ta tb : TE) : TE := fun σ H Q => ta σ H fun x H1 => tb σ H1 fun y H2 => r x y H2 Q
def tUn (r : V → Hp → VK → Prop) (ta : TE) : TE := fun σ H Q => ta σ H fun x H1 => r x H1 Q
def rI (C : Int → Int → Prop) (g : Int → Int → V) : R2 := fun x y H Q => ∃ i j, x = .int i ∧ y = .int j ∧ C i j ∧ Q (g i j) H
def rI0 (g : Int → Int → V) : R2 := fun x y H Q => ∃ i j, x = .int i ∧ y = .int j ∧ Q (g i j) H
def rU (g : Int → V) : V → Hp → VK → Prop := fun x H Q => ∃ i, x = .int i ∧ Q (g i) H
section
variable {X : Cx} {a b c : Expr} {ta tb tc : TE} {pos : Pos}
theorem binT (ha : PE X a ta) (hb : PE X b tb) {pins : List (Addr × Obj)} {s : Shared} {σ : St} {H : Hp} {R : V → V → Hp → Prop} (I : Inv X pins σ H s)
    (h : ta σ H fun x H1 => tb σ H1 fun y H2 => R x y H2) {Q : Value → Shared → Prop} {f : Value → Value → Sem Value}
    (hf : ∀ v u s2 x y H2, Inv X pins σ H2 s2 → RelV x v → RelV y u → R x y H2 → wpAny (model X.prog X.w) X.A (f v u) Q X.xe s2) :
    wpAny (model X.prog X.w) X.A (eval a X.env) (fun v s₁ => wpAny (model X.prog X.w) X.A (eval b X.env) (fun u s₂ => wpAny (model X.prog X.w) X.A (f v u) Q X.xe s₂) X.xe s₁) X.xe s := by
  refine thn (ha pins s σ H _ I h) fun v s1 ⟨x, H1, I1, r1, q1⟩ => ?_
  refine thn (hb pins s1 σ H1 _ I1 q1) fun u s2 ⟨y, H2, I2, r2, q2⟩ => ?_
  exact hf v u s2 x y H2 I2 r1 r2 q2
theorem pe_op {op : Operator} {r : R2} (ho : OpR X (binaryOp op) r) (ha : PE X a ta) (hb : PE X b tb) : PE X (.BinOp a op b pos) (tOp r ta tb) := by
  intro pins s σ H Q I h
  exact wpAny_BinOp (binT ha hb I h fun v u s2 x y H2 I2 rx ry q => ho pins s2 σ H2 x y v u Q I2 rx ry q)
theorem pe_un {op : UnaryOp} {r : V → Hp → VK → Prop} (ho : UnR X (unaryOp op) r) (ha : PE X a ta) : PE X (.UnaryOp op a pos) (tUn r ta) := by
  intro pins s σ H Q I h
  exact UnaryOp_ (thn (ha pins s σ H _ I h) fun v s1 ⟨x, H1, I1, r1, q1⟩ => ho pins s1 σ H1 x v Q I1 r1 q1)
theorem opI {f : Value → Value → Sem Value} {C : Int → Int → Prop} {g : Int → Int → Int}
    (rule : ∀ (i j : Int) (t u : Tok) (s : Shared) (Q : Value → Shared → Prop) (E : Value → Shared → Prop), C i j → Q (.int (g i j) s.toks) { s with toks := s.toks + 1 } → wpAny (model X.prog X.w) X.A (f (.int i t) (.int j u)) Q E s) :
    OpR X f (rI C fun i j => .int (g i j)) := by
  intro pins s σ H x y v u Q I rx ry h
  obtain ⟨i, j, rfl, rfl, hc, q⟩ := h
  obtain ⟨t, rfl⟩ := rx
  obtain ⟨t', rfl⟩ := ry
  exact rule i j t t' s _ _ hc ⟨.int (g i j), H, I.tok _, ⟨_, rfl⟩, q⟩
theorem opI0 {f : Value → Value → Sem Value} {g : Int → Int → Int}
    (rule : ∀ (i j : Int) (t u : Tok) (s : Shared) (Q : Value → Shared → Prop) (E : Value → Shared → Prop), Q (.int (g i j) s.toks) { s with toks := s.toks + 1 } → wpAny (model X.prog X.w) X.A (f (.int i t) (.int j u)) Q E s) :
    OpR X f (rI0 fun i j => .int (g i j)) := by
  intro pins s σ H x y v u Q I rx ry h
  obtain ⟨i, j, rfl, rfl, q⟩ := h
  obtain ⟨t, rfl⟩ := rx
  obtain ⟨t', rfl⟩ := ry
  exact rule i j t t' s _ _ ⟨.int (g i j), H, I.tok _, ⟨_, rfl⟩, q⟩
theorem opB0 {f : Value → Value → Sem Value} {g : Int → Int → Bool}
    (rule : ∀ (i j : Int) (t u : Tok) (s : Shared) (Q : Value → Shared → Prop) (E : Value → Shared → Prop), Q (.bool (g i j)) s → wpAny (model X.prog X.w) X.A (f (.int i t) (.int j u)) Q E s) :
    OpR X f (rI0 fun i j => .bl (g i j)) := by
  intro pins s σ H x y v u Q I rx ry h
  obtain ⟨i, j, rfl, rfl, q⟩ := h
  obtain ⟨t, rfl⟩ := rx
  obtain ⟨t', rfl⟩ := ry
  exact rule i j t t' s _ _ ⟨.bl (g i j), H, I, rfl, q⟩
def CDiv (i j : Int) : Prop := 0 < j ∧ j < 1073741824
def CPow (i j : Int) : Prop := 0 ≤ j ∧ j ≤ 1000000 ∧ i.natAbs < 2 ^ 64
def CMul (i j : Int) : Prop := (-(2 ^ 64) < i ∧ i < 2 ^ 64) ∨ (-(2 ^ 64) < j ∧ j < 2 ^ 64)
theorem CMul.ok {i j : Int} (h : CMul i j) : IntMulOk i j := by
  rcases h with ⟨h1, h2⟩ | ⟨h1, h2⟩
  · exact .of_left (intBits_le_64 h1 h2)
  · exact .of_right (intBits_le_64 h1 h2)
theorem two_pow_nn (k : Nat) : (0 : Int) ≤ 2 ^ k := by
  rw [two_pow_cast]
  exact Int.natCast_nonneg _
theorem op_add : OpR X (binaryOp .Add) (rI0 fun i j => .int (i + j)) := opI0 fun _ _ _ _ _ _ _ q => add_int q
theorem op_sub : OpR X (binaryOp .Sub) (rI0 fun i j => .int (i - j)) := opI0 fun _ _ _ _ _ _ _ q => sub_int q
theorem op_mul : OpR X (binaryOp .Mult) (rI CMul fun i j => .int (i * j)) := opI fun _ _ _ _ _ _ _ hc q => mul_int q hc.ok
theorem op_fdiv : OpR X (binaryOp .FloorDiv) (rI CDiv fun i j => .int (i / j)) := opI fun i j _ _ _ _ _ hc q => by
  have h1 : (0 : Int) < j := hc.1
  have h2 : j < 1073741824 := hc.2
  exact floordiv_int (by omega) (by rw [Int.fdiv_eq_ediv_of_nonneg i (by omega)]; exact q) (.inl (PyProof.noPylong_small (by omega)))
theorem op_mod : OpR X (binaryOp .Mod) (rI (fun _ j => 0 < j) fun i j => .int (i % j)) := opI fun i j _ _ _ _ _ hc q => by
  have h1 : (0 : Int) < j := hc
  exact mod_int' (by omega) (by rw [Int.fmod_eq_emod_of_nonneg i (by omega)]; exact q)
theorem op_shl : OpR X (binaryOp .LShift) (rI CPow fun i j => .int (i * 2 ^ j.toNat)) := opI fun _ _ _ _ _ _ _ hc q => lshift_int_small hc.1 hc.2.1 hc.2.2 q
theorem op_shr : OpR X (binaryOp .RShift) (rI (fun _ j => 0 ≤ j) fun i j => .int (i / 2 ^ j.toNat)) := opI fun i j _ _ _ _ _ hc q =>
  rshift_int hc (by rw [Int.fdiv_eq_ediv_of_nonneg i (two_pow_nn _)]; exact q)
theorem op_and : OpR X (binaryOp .BitAnd) (rI0 fun i j => .int (Builtin.bitAnd i j)) := opI0 fun _ _ _ _ _ _ _ q => and_int q
theorem op_xor : OpR X (binaryOp .BitXor) (rI0 fun i j => .int (Builtin.bitXor i j)) := opI0 fun _ _ _ _ _ _ _ q => xor_int q
theorem unI {f : Value → Sem Value} {g : Int → Int}
    (rule : ∀ (i : Int) (t : Tok) (s : Shared) (Q : Value → Shared → Prop) (E : Value → Shared → Prop), Q (.int (g i) s.toks) { s with toks := s.toks + 1 } → wpAny (model X.prog X.w) X.A (f (.int i t)) Q E s) :
    UnR X f (rU fun i => .int (g i)) := by
  intro pins s σ H x v Q I rx h
  obtain ⟨i, rfl, q⟩ := h
  obtain ⟨t, rfl⟩ := rx
  exact rule i t s _ _ ⟨.int (g i), H, I.tok _, ⟨_, rfl⟩, q⟩
theorem un_neg : UnR X (unaryOp .USub) (rU fun i => .int (-i)) := unI fun _ _ _ _ _ q => neg_int q
end
def scal : V → V → Bool
  | .non, .non => true | .non, .int _ => true | .int _, .non => true | .non, .bl _ => true | .bl _, .non => true | .non, .str _ => true | .str _, .non => true
  | .int _, .int _ => true | .bl _, .bl _ => true | .str _, .str _ => true | .byt _, .byt _ => true
  | .int _, .str _ => true | .str _, .int _ => true | .bl _, .str _ => true | .str _, .bl _ => true
  | _, _ => false
def rEq : R2 := fun x y H Q => scal x y = true ∧ Q (.bl (decide (x = y))) H
def rNe : R2 := fun x y H Q => scal x y = true ∧ Q (.bl (!decide (x = y))) H
theorem dec_int {i j : Int} : decide (V.int i = V.int j) = (i == j) := by
  rw [Bool.eq_iff_iff]
  simp
theorem dec_bl {i j : Bool} : decide (V.bl i = V.bl j) = (i == j) := by
  rw [Bool.eq_iff_iff]
  simp
theorem dec_str {i j : Str} : decide (V.str i = V.str j) = (i == j) := by
  rw [Bool.eq_iff_iff]
  simp
theorem dec_byt {i j : Array UInt8} : decide (V.byt i = V.byt j) = (i.toList == j.toList) := by
  rw [Bool.eq_iff_iff]
  cases i
  cases j
  simp
section
variable {X : Cx} {a b c : Expr} {ta tb tc : TE} {pos : Pos}
theorem fin_bl {pins : List (Addr × Obj)} {σ : St} {H : Hp} {s : Shared} {Q : VK} {k k' : Bool} (I : Inv X pins σ H s) (q : Q (.bl k) H) (e : k = k') : EP X pins σ Q (.bool k') s := by
  subst e
  exact ⟨.bl k, H, I, rfl, q⟩
theorem op_eq : OpR X (compareOp .Eq) rEq := by
  intro pins s σ H x y v u Q I rx ry h
  obtain ⟨hs, q⟩ := h
  cases x with
  | non =>
    cases rx
    cases y with
    | non => cases ry; exact PySem.EqNone.eq_none_none (fin_bl I q (by simp))
    | bl j => cases ry; exact PySem.EqNone.eq_none_bool (fin_bl I q (by simp))
    | int j => obtain ⟨t', rfl⟩ := ry; exact PySem.EqNone.eq_none_int (fin_bl I q (by simp))
    | str j => obtain ⟨t', rfl⟩ := ry; exact PySem.EqNone.eq_none_str (fin_bl I q (by simp))
    | _ => exact absurd (show false = true from hs) Bool.false_ne_true
  | bl i =>
    cases rx
    cases y with
    | non => cases ry; exact PySem.EqNone.eq_bool_none (fin_bl I q (by simp))
    | bl j => cases ry; exact eq_bool (fin_bl I q dec_bl)
    | str j => obtain ⟨t', rfl⟩ := ry; exact PySem.EqMixed.eq_bool_str (fin_bl I q (by simp))
    | _ => exact absurd (show false = true from hs) Bool.false_ne_true
  | int i =>
    obtain ⟨t, rfl⟩ := rx
    cases y with
    | non => cases ry; exact PySem.EqNone.eq_int_none (fin_bl I q (by simp))
    | int j => obtain ⟨t', rfl⟩ := ry; exact eq_int (fin_bl I q dec_int)
    | str j => obtain ⟨t', rfl⟩ := ry; exact PySem.EqMixed.eq_int_str (fin_bl I q (by simp))
    | _ => exact absurd (show false = true from hs) Bool.false_ne_true
  | str i =>
    obtain ⟨t, rfl⟩ := rx
    cases y with
    | non => cases ry; exact PySem.EqNone.eq_str_none (fin_bl I q (by simp))
    | bl j => cases ry; exact PySem.EqMixed.eq_str_bool (fin_bl I q (by simp))
    | int j => obtain ⟨t', rfl⟩ := ry; exact PySem.EqMixed.eq_str_int (fin_bl I q (by simp))
    | str j => obtain ⟨t', rfl⟩ := ry; exact eq_str (fin_bl I q dec_str)
    | _ => exact absurd (show false = true from hs) Bool.false_ne_true
  | byt i =>
    obtain ⟨t, rfl⟩ := rx
    cases y with
    | byt j => obtain ⟨t', rfl⟩ := ry; exact PySem.W.eq_bytes (fin_bl I q dec_byt)
    | _ => exact absurd (show false = true from hs) Bool.false_ne_true
  | _ => cases y <;> exact absurd (show false = true from hs) Bool.false_ne_true
theorem op_ne : OpR X (compareOp .NotEq) rNe := by
  intro pins s σ H x y v u Q I rx ry h
  obtain ⟨hs, q⟩ := h
  cases x with
  | non =>
    cases rx
    cases y with
    | non => cases ry; exact PySem.EqNone.ne_none_none (fin_bl I q (by simp))
    | bl j => cases ry; exact PySem.EqNone.ne_none_bool (fin_bl I q (by simp))
    | int j => obtain ⟨t', rfl⟩ := ry; exact PySem.EqNone.ne_none_int (fin_bl I q (by simp))
    | str j => obtain ⟨t', rfl⟩ := ry; exact PySem.EqNone.ne_none_str (fin_bl I q (by simp))
    | _ => exact absurd (show false = true from hs) Bool.false_ne_true
  | bl i =>
    cases rx
    cases y with
    | non => cases ry; exact PySem.EqNone.ne_bool_none (fin_bl I q (by simp))
    | bl j => cases ry; exact ne_bool (fin_bl I q (congrArg not dec_bl))
    | str j => obtain ⟨t', rfl⟩ := ry; exact PySem.EqMixed.ne_bool_str (fin_bl I q (by simp))
    | _ => exact absurd (show false = true from hs) Bool.false_ne_true
  | int i =>
    obtain ⟨t, rfl⟩ := rx
    cases y with
    | non => cases ry; exact PySem.EqNone.ne_int_none (fin_bl I q (by simp))
    | int j => obtain ⟨t', rfl⟩ := ry; exact ne_int (fin_bl I q (congrArg not dec_int))
    | str j => obtain ⟨t', rfl⟩ := ry; exact PySem.EqMixed.ne_int_str (fin_bl I q (by simp))
    | _ => exact absurd (show false = true from hs) Bool.false_ne_true
  | str i =>
    obtain ⟨t, rfl⟩ := rx
    cases y with
    | non => cases ry; exact PySem.EqNone.ne_str_none (fin_bl I q (by simp))
    | bl j => cases ry; exact PySem.EqMixed.ne_str_bool (fin_bl I q (by simp))
    | int j => obtain ⟨t', rfl⟩ := ry; exact PySem.EqMixed.ne_str_int (fin_bl I q (by simp))
    | str j => obtain ⟨t', rfl⟩ := ry; exact ne_str (fin_bl I q (congrArg not dec_str))
    | _ => exact absurd (show false = true from hs) Bool.false_ne_true
  | byt i =>
    obtain ⟨t, rfl⟩ := rx
    cases y with
    | byt j => obtain ⟨t', rfl⟩ := ry; exact PySem.W.ne_bytes (fin_bl I q (congrArg not dec_byt))
    | _ => exact absurd (show false = true from hs) Bool.false_ne_true
  | _ => cases y <;> exact absurd (show false = true from hs) Bool.false_ne_true
theorem op_lt : OpR X (compareOp .Lt) (rI0 fun i j => .bl (decide (i < j))) := opB0 fun _ _ _ _ _ _ _ q => lt_int q
theorem op_le : OpR X (compareOp .LtE) (rI0 fun i j => .bl (decide (i ≤ j))) := opB0 fun _ _ _ _ _ _ _ q => le_int q
theorem op_gt : OpR X (compareOp .Gt) (rI0 fun i j => .bl (decide (j < i))) := opB0 fun _ _ _ _ _ _ _ q => gt_int q
theorem op_ge : OpR X (compareOp .GtE) (rI0 fun i j => .bl (decide (j ≤ i))) := opB0 fun _ _ _ _ _ _ _ q => ge_int q
theorem op_isN : OpR X (compareOp .Is) (fun x y H Q => y = .non ∧ Q (.bl (decide (x = .non))) H) := by
  intro pins s σ H x y v u Q I rx ry h
  obtain ⟨rfl, q⟩ := h
  cases ry
  refine is_none_gen (fin_bl I q ?_)
  cases x <;> first
    | (cases rx; rfl)
    | (obtain ⟨t, rfl⟩ := rx; rfl)
theorem op_notN : OpR X (compareOp .IsNot) (fun x y H Q => y = .non ∧ Q (.bl (!decide (x = .non))) H) := by
  intro pins s σ H x y v u Q I rx ry h
  obtain ⟨rfl, q⟩ := h
  cases ry
  refine isnot_none_gen (fin_bl I q ?_)
  cases x <;> first
    | (cases rx; rfl)
    | (obtain ⟨t, rfl⟩ := rx; rfl)
theorem nomark (b : Expr) {op : CmpOp} (h : op ≠ .In := by decide) (h2 : op ≠ .NotIn := by decide) : behindInMarks op b = false := by
  have e1 : (op == CmpOp.In) = false := by cases op <;> first | rfl | exact absurd rfl h
  have e2 : (op == CmpOp.NotIn) = false := by cases op <;> first | rfl | exact absurd rfl h2
  cases b <;> simp [behindInMarks, e1, e2]
theorem pe_cmpR {op : CmpOp} {r : R2} (ho : OpR X (compareOp op) r) (ha : PE X a ta) (hb : PE X b tb) (hm : behindInMarks op b = false) : PE X (.Compare a [op] [b] pos) (tOp r ta tb) := by
  intro pins s σ H Q I h
  exact wpAny_Compare1 (binT ha hb I h fun v u s2 x y H2 I2 rx ry q => ho pins s2 σ H2 x y v u Q I2 rx ry q) hm
def tTest (t : TE) : TT := fun σ H Q => t σ H fun x H' => ∃ k, x = .bl k ∧ Q k H'
theorem pt_cmpR {op : CmpOp} {r : R2} (ho : OpR X (compareOp op) r) (ha : PE X a ta) (hb : PE X b tb) (hm : behindInMarks op b = false) : PT X (.Compare a [op] [b] pos) (tTest (tOp r ta tb)) := by
  intro pins s σ H Q I h
  refine wpAny_isTrue_Compare1 (thn (ha pins s σ H _ I h) fun v s1 ⟨x, H1, I1, r1, q1⟩ => thn (hb pins s1 σ H1 _ I1 q1) fun u s2 ⟨y, H2, I2, r2, q2⟩ =>
    thn (ho pins s2 σ H2 x y v u _ I2 r1 r2 q2) fun c s3 ⟨z, H3, I3, r3, k, e, q3⟩ => ?_) hm
  subst e
  cases r3
  exact wpAny_truthy_bool ⟨H3, I3, q3⟩
def tChain (r r' : R2) (ta tb tc : TE) : TE := fun σ H Q => ta σ H fun x H1 => tb σ H1 fun y H2 => r x y H2 fun z H3 => ∃ k, z = .bl k ∧
  (if k = true then tc σ H3 fun w' H4 => r' y w' H4 Q else Q (.bl false) H3)
theorem pe_chain {op op' : CmpOp} {r r' : R2} (ho : OpR X (compareOp op) r) (ho' : OpR X (compareOp op') r') (ha : PE X a ta) (hb : PE X b tb) (hc : PE X c tc)
    (hm : lastMarks [op, op'] [b, c] = false := by with_unfolding_all rfl) : PE X (.Compare a [op, op'] [b, c] pos) (tChain r r' ta tb tc) := by
  intro pins s σ H Q I h
  refine Compare_chain (thn (ha pins s σ H _ I h) fun v s1 ⟨x, H1, I1, r1, q1⟩ => chain_link (thn (hb pins s1 σ H1 _ I1 q1) fun u s2 ⟨y, H2, I2, r2, q2⟩ =>
    thn (ho pins s2 σ H2 x y v u _ I2 r1 r2 q2) fun d s3 ⟨z, H3, I3, r3, k, e, q3⟩ => ?_)) hm
  subst e
  cases r3
  refine wpAny_truthy_bool ?_
  cases k with
  | false => exact ite_ff ⟨.bl false, H3, I3, rfl, q3⟩
  | true => exact ite_tt (chain_last (thn (hc pins s3 σ H3 _ I3 q3) fun w' s4 ⟨z', H4, I4, r4, q4⟩ => ho' pins s4 σ H4 y z' u w' Q I4 r2 r4 q4))
theorem line63 : (sizeLine : Nat) < 2 ^ 63 := by rw [sizeLine_eq]; decide
theorem vals1 {x : V} {us : List Value} (r : Vals [x] us) : ∃ u, us = [u] ∧ RelV x u := by
  cases r with
  | cons r1 r2 => cases r2; exact ⟨_, rfl, r1⟩
theorem vals2 {x y : V} {us : List Value} (r : Vals [x, y] us) : ∃ u w', us = [u, w'] ∧ RelV x u ∧ RelV y w' := by
  cases r with
  | cons r1 r2 =>
    cases r2 with
    | cons r3 r4 => cases r4; exact ⟨_, _, rfl, r1, r3⟩
theorem call_max2 (hc : X.calm = true) : CallR X (.builtin "max") (fun xs H Q => ∃ i j, xs = [.int i, .int j] ∧ Q (.int (if j > i then j else i)) H) := by
  intro pins s σ H xs us Q I r h
  obtain ⟨i, j, rfl, q⟩ := h
  obtain ⟨u, w', rfl, ⟨t, rfl⟩, ⟨t', rfl⟩⟩ := vals2 r
  refine max_two_ints (I.ok.hd hc) fun h' tk k => ⟨_, H, I.kept k, ?_, q⟩
  by_cases hj : j > i
  · rw [if_pos hj, if_pos hj]; exact ⟨_, rfl⟩
  · rw [if_neg hj, if_neg hj]; exact ⟨_, rfl⟩
theorem call_min2 (hc : X.calm = true) : CallR X (.builtin "min") (fun xs H Q => ∃ i j, xs = [.int i, .int j] ∧ Q (.int (if j < i then j else i)) H) := by
  intro pins s σ H xs us Q I r h
  obtain ⟨i, j, rfl, q⟩ := h
  obtain ⟨u, w', rfl, ⟨t, rfl⟩, ⟨t', rfl⟩⟩ := vals2 r
  refine min_two_ints (I.ok.hd hc) fun h' tk k => ⟨_, H, I.kept k, ?_, q⟩
  by_cases hj : j < i
  · rw [if_pos hj, if_pos hj]; exact ⟨_, rfl⟩
  · rw [if_neg hj, if_neg hj]; exact ⟨_, rfl⟩
end
end L2
namespace L2
open PySem PySem.Spec PyProof.Rows
structure ObjM (h : Heap) (x dx C : Addr) (mA : Str → Option Value) : Prop where
  obj : h.get? x = some (PySem.W.instObj C dx)
  ns : h.Ns1 dx mA
  ne : dx ≠ x
theorem lookIn_ns {h : Heap} {dx : Addr} {mA : Str → Option Value} (n : h.Ns1 dx mA) : ∃ od, h.get? dx = some od ∧ ∀ name, PySem.W.lookIn name od = some (mA name) := by
  obtain ⟨o, es, ep, ho, hd, hk, _, hm⟩ := n
  refine ⟨o, ho, fun name => ?_⟩
  have e := hm name
  unfold nsFind findBy at e
  rw [← Array.find?_toList] at e
  unfold PySem.W.lookIn
  rw [hd]
  dsimp only
  split
  · rename_i y q
    rw [q] at e
    exact congrArg some e
  · rename_i q
    rw [q] at e
    have a : es.toList.any (·.refKey) = false := by
      rw [List.any_eq_false]
      intro y hy
      obtain ⟨z, t, hkey⟩ := hk y (Array.mem_toList_iff.mp hy)
      simp [DictEntry.refKey, hkey]
    have a' : ¬ es.toList.any (·.refKey) = true := by rw [a]; exact Bool.false_ne_true
    rw [if_neg a']
    exact congrArg some e
theorem ObjM.look {h : Heap} {x dx C : Addr} {mA : Str → Option Value} (I : ObjM h x dx C mA) : ∃ od, PySem.W.InstAt h x (PySem.W.instObj C dx) C (some od) ∧ ∀ name, PySem.W.lookIn name od = some (mA name) :=
  let ⟨od, ho, hl⟩ := lookIn_ns I.ns
  ⟨od, ⟨I.obj, rfl, rfl, ho⟩, hl⟩
section
variable {prog : Program} {w : World} {A : Around} {E : Value → Shared → Prop} {s : Shared} {K : PySem.W.Frag} {x dx C f : Addr} {mA : Str → Option Value} {name : Str} {v : Value}
theorem get_map {expr : Bool} {Q : Value → Shared → Prop} (X : K.In s.heap) (I : ObjM s.heap x dx C mA) (hg : PySem.W.plainGet K C name = true) (hh : PySem.W.hasDictIn K C = true)
    (ha : PySem.W.findIn K (.ref C) name = some none) (hv : mA name = some v) (hv' : PySem.W.handedIn v = true) (h : Q v { s with toks := s.toks + 1 }) :
    wpAny (model prog w) A (getAttr (.ref x) name expr) Q E s := by
  obtain ⟨od, J, hl⟩ := I.look
  exact PySem.W.get_value X J (PySem.W.plainGet_of hg).1 (PySem.W.findObj_own hh ha rfl (by rw [hl, hv])) hv' h
theorem get_meth {pl : Sem Bool} {Q : Value × List Value → Shared → Prop} (X : K.In s.heap) (I : ObjM s.heap x dx C mA) (hg : PySem.W.plainGet K C name = true)
    (hf : PySem.W.findIn K (.ref C) name = some (some (.ref f))) (ht : PySem.W.isFn K (.ref f) = true) (hv : mA name = none) (h : Q (.ref f, [.ref x]) s) :
    wpAny (model prog w) A (getMethod (.ref x) name pl) Q E s := by
  obtain ⟨od, J, hl⟩ := I.look
  exact PySem.W.method_fn X J (PySem.W.plainGet_of hg).1 (PySem.W.plainGet_of hg).2 hf (beq_iff_eq.mp ht) (by show (PySem.W.lookIn name od).map (·.isSome) = some false; rw [hl, hv]; rfl) h
theorem set_map {ns : List Str} {Q : Unit → Shared → Prop} (X : K.In s.heap) (I : ObjM s.heap x dx C mA)
    (hs : PySem.W.findIn K (.ref C) "__setattr__" = some (some (.builtin "object.__setattr__"))) (hp : PySem.W.plainOver K C = true) (ht : PySem.W.takerIn K C name = some none) (hh : PySem.W.hasDictIn K C = true)
    (hw : PySem.Within mA ns) (hsz : ns.length ≤ sizeLine)
    (h : ∀ h', ObjM h' x dx C (fun y => if y = name then some v else mA y) → Heap.SameBut dx s.heap h' → Q () { s with heap := h', toks := s.toks + 2 }) :
    wpAny (model prog w) A (setAttr (.ref x) name v) Q E s := by
  obtain ⟨od, J, hl⟩ := I.look
  refine PySem.W.set_plain X J hs (PySem.W.osa_open (s := { s with toks := s.toks + 1 }) (r := none) X J hp ht fun b => ?_)
  obtain ⟨cd, hc, hd'⟩ := PySem.W.any_some hh
  have hx : s.heap.get? x = some ⟨.ref C, some dx, .plain, #[]⟩ := I.obj
  refine wpAny_bind (wpAny_pure (wpAny_bind (wpAny_bind (wpAny_loadPart hx (wpAny_bind (PySem.W.Looks.here (s := { s with toks := s.toks + 1 }) (PySem.W.looks_clsIn X hc) ?_))))))
  rw [hd']
  refine wpAny_pure (a := some dx) (wpAny_bind (wpAny_pure (wpAny_bind ?_)))
  refine wpAny_nsSet1 (s := { s with toks := s.toks + 1 }) I.ns fun h' hn2 hs2 => ?_
  obtain ⟨oD, esD, epD, hoD, hdD, hcD⟩ := hn2.count (PySem.Within.cons name v hw)
  refine wpAny_bind (wpAny_lookBehind hoD (by rw [hdD]; exact pastItsLine_dict (Nat.le_trans hcD (by rw [List.length_cons]; omega))) ?_)
  exact wpAny_pure (h _ ⟨(hs2.2 _ (Ne.symm I.ne)).trans I.obj, hn2, I.ne⟩ hs2)
theorem make_map {R : Result → Shared → Prop} {vs : List Value} {kw : List (Str × Value)} (X : K.In s.heap) (hm : PySem.W.makesIn K C = true)
    (hi : PySem.W.findIn K (.ref C) "__init__" = some (some (.ref f))) (hf : PySem.W.typeIn K (.ref f) = some (.type "function"))
    (h : codeAny (model prog w) (A.under (.builtin "type.__call__" ⟨.ref C :: vs, kw⟩)) (.call (.ref f) ⟨.ref (s.heap.objs.size + 1) :: vs, kw⟩) (PySem.W.InitBack (s.heap.objs.size + 1) R)
      { s with heap := (s.heap.push PySem.W.emptyDict).push (PySem.W.instObj C s.heap.objs.size) }) :
    codeAny (model prog w) A (.call (.ref C) ⟨vs, kw⟩) R s := by
  obtain ⟨hh, g, d, t, os⟩ := s
  exact PySem.W.make_core (PySem.W.makes_of X hm) (PySem.W.looks_findIn X hi) (fun self => PySem.W.bind_fn X self hf) (.inl rfl) h
end
def putF (f : Str) (v : V) : List (Str × V) → List (Str × V)
  | [] => [(f, v)]
  | (g, x) :: r => if g = f then (g, v) :: r else (g, x) :: putF f v r
theorem lookup_putF (f g : Str) (v : V) : ∀ fs : List (Str × V), (putF f v fs).lookup g = if g = f then some v else fs.lookup g
  | [] => by
    show List.lookup g [(f, v)] = _
    by_cases h : g = f
    · have hb : (g == f) = true := beq_iff_eq.mpr h
      simp only [List.lookup, hb, if_pos h]
    · have hb : (g == f) = false := beq_eq_false_iff_ne.mpr h
      simp only [List.lookup, hb, if_neg h]
  | (k, x) :: r => by
    have ih := lookup_putF f g v r
    rw [show putF f v ((k, x) :: r) = (if k = f then (k, v) :: r else (k, x) :: putF f v r) from rfl]
    by_cases hk : k = f
    · rw [if_pos hk]
      by_cases h : g = k
      · have hb : (g == k) = true := beq_iff_eq.mpr h
        simp only [List.lookup, hb, if_pos (h.trans hk)]
      · have hb : (g == k) = false := beq_eq_false_iff_ne.mpr h
        simp only [List.lookup, hb, if_neg (fun e : g = f => h (e.trans hk.symm))]
    · rw [if_neg hk]
      by_cases h : g = k
      · have hb : (g == k) = true := beq_iff_eq.mpr h
        simp only [List.lookup, hb, if_neg (fun e : g = f => hk (h.symm.trans e))]
      · have hb : (g == k) = false := beq_eq_false_iff_ne.mpr h
        simp only [List.lookup, hb]
        exact ih
theorem keys_putF (f : Str) (v : V) : ∀ fs : List (Str × V), f ∈ (putF f v fs).map (·.1) ∧ ∀ g, g ∈ fs.map (·.1) → g ∈ (putF f v fs).map (·.1)
  | [] => ⟨by simp [putF], fun g h => by simp at h⟩
  | (k, x) :: r => by
    obtain ⟨i1, i2⟩ := keys_putF f v r
    rw [show putF f v ((k, x) :: r) = (if k = f then (k, v) :: r else (k, x) :: putF f v r) from rfl]
    by_cases hk : k = f
    · rw [if_pos hk]
      subst hk
      exact ⟨by simp, fun g h => by simpa using h⟩
    · rw [if_neg hk]
      refine ⟨?_, fun g h => ?_⟩
      · rw [List.map_cons]
        exact List.mem_cons_of_mem _ i1
      · rw [List.map_cons] at h ⊢
        rcases List.mem_cons.mp h with e | e
        · exact List.mem_cons.mpr (.inl e)
        · exact List.mem_cons_of_mem _ (i2 g e)
theorem length_putF (f : Str) (v : V) : ∀ fs : List (Str × V), (putF f v fs).length ≤ fs.length + 1
  | [] => by simp [putF]
  | (k, x) :: r => by
    have ih := length_putF f v r
    rw [show putF f v ((k, x) :: r) = (if k = f then (k, v) :: r else (k, x) :: putF f v r) from rfl]
    by_cases hk : k = f
    · rw [if_pos hk, List.length_cons, List.length_cons]; omega
    · rw [if_neg hk, List.length_cons, List.length_cons]; omega
theorem RelO.some_of {v : V} {o : Option Value} (r : RelO (some v) o) : ∃ u, o = some u ∧ RelV v u := by
  cases o with
  | none => exact (show False from r).elim
  | some u => exact ⟨u, rfl, r⟩
theorem RelO.none_of {o : Option Value} (r : RelO none o) : o = none := by
  cases o with
  | none => rfl
  | some u => exact (show False from r).elim
theorem handed_of {v : V} {u : Value} (r : RelV v u) : PySem.W.handedIn u = true := by
  cases v with
  | non => cases (show u = Value.none from r); rfl
  | bl b => cases (show u = Value.bool b from r); rfl
  | int i => obtain ⟨t, e⟩ := (show ∃ t, u = Value.int i t from r); cases e; rfl
  | str x => obtain ⟨t, e⟩ := (show ∃ t, u = Value.str x t from r); cases e; rfl
  | byt b => obtain ⟨t, e⟩ := (show ∃ t, u = Value.bytes b t from r); cases e; rfl
  | flt b => obtain ⟨t, e⟩ := (show ∃ t, u = Value.float b t from r); cases e; rfl
  | ref a => cases (show u = Value.ref a from r); rfl
  | ty n => cases (show u = Value.type n from r); rfl
section
variable {P : Program} {w : World} {H H' : Hp} {h h' : Heap} {a C dx : Addr} {fs fs' : List (Str × V)}
theorem ins_get (hok : HOk P w H h) (e : H a = some (.ins C dx fs)) : ∃ mA, ObjM h a dx C mA ∧ (∀ f, RelO (fs.lookup f) (mA f)) ∧ PySem.Within mA (fs.map (·.1)) ∧ fs.length ≤ 1000 ∧ H dx = some (.own a) := by
  obtain ⟨d, z, ne, ob, mA, n, r, q⟩ := (show ObjOk P w H h a (.ins C dx fs) from hok a _ e)
  exact ⟨mA, ⟨ob, n, ne⟩, r, q, z, d⟩
end
structure Cls (K : PySem.W.Frag) (C : Addr) : Prop where
  pg : PySem.W.plainGet K C Str.empty = true
  hd : PySem.W.hasDictIn K C = true
  po : PySem.W.plainOver K C = true
  sa : PySem.W.findIn K (.ref C) "__setattr__" = some (some (.builtin "object.__setattr__"))
theorem Cls.get {K : PySem.W.Frag} {C : Addr} (c : Cls K C) (f : Str) : PySem.W.plainGet K C f = true := c.pg
def NoAttr (K : PySem.W.Frag) (C : Addr) (f : Str) : Prop := PySem.W.findIn K (.ref C) f = some none
theorem NoAttr.taker {K : PySem.W.Frag} {C : Addr} {f : Str} (n : NoAttr K C f) : PySem.W.takerIn K C f = some none := by
  unfold PySem.W.takerIn
  rw [show PySem.W.findIn K (.ref C) f = some none from n]
  rfl
structure Meth (K : PySem.W.Frag) (C : Addr) (m : Str) (f : Addr) : Prop where
  at_ : PySem.W.findIn K (.ref C) m = some (some (.ref f))
  fn : PySem.W.isFn K (.ref f) = true
  kp : PySem.W.keepIn K (.ref f) = true
section
variable {X : Cx} {pins : List (Addr × Obj)} {σ : St} {H : Hp} {s : Shared} {a C dx : Addr} {fs : List (Str × V)} {f : Str} {v : V} {A : Around} {E : Value → Shared → Prop}
theorem getattr_ok {b : Bool} {Q : Value → Shared → Prop} (I : Inv X pins σ H s) (e : H a = some (.ins C dx fs)) (c : Cls X.K C) (n : NoAttr X.K C f) (l : fs.lookup f = some v)
    (h : ∀ u s', Inv X pins σ H s' → RelV v u → Q u s') : wpAny (model X.prog X.w) A (getAttr (.ref a) f b) Q E s := by
  obtain ⟨mA, O, r, _, _, _⟩ := ins_get I.hok e
  obtain ⟨u, hu, ru⟩ := RelO.some_of (v := v) (o := mA f) (by rw [← l]; exact r f)
  exact get_map I.kIn O (c.get f) c.hd n hu (handed_of ru) (h u _ (I.tok _) ru)
theorem getmeth_ok {m : Str} {g : Addr} {pl : Sem Bool} {Q : Value × List Value → Shared → Prop} (I : Inv X pins σ H s) (e : H a = some (.ins C dx fs)) (c : Cls X.K C) (k : Meth X.K C m g) (l : fs.lookup m = none)
    (h : Q (.ref g, [.ref a]) s) : wpAny (model X.prog X.w) A (getMethod (.ref a) m pl) Q E s := by
  obtain ⟨mA, O, r, _, _, _⟩ := ins_get I.hok e
  have hn : mA m = none := RelO.none_of (by rw [← l]; exact r m)
  exact get_meth I.kIn O (c.get m) k.at_ k.fn hn h
theorem setattr_ok {y : V} {u : Value} {Q : Unit → Shared → Prop} (I : Inv X pins σ H s) (e : H a = some (.ins C dx fs)) (c : Cls X.K C) (n : NoAttr X.K C f) (hl : fs.length < 1000) (ry : RelV y u)
    (h : ∀ s', Inv X pins σ (upd H a (.ins C dx (putF f y fs))) s' → Q () s') : wpAny (model X.prog X.w) A (setAttr (.ref a) f u) Q E s := by
  obtain ⟨mA, O, r, wi, _, ho⟩ := ins_get I.hok e
  have hz : (fs.map (·.1)).length ≤ sizeLine := by rw [List.length_map, sizeLine_eq]; omega
  refine set_map I.kIn O c.sa c.po n.taker c.hd wi hz fun h' O' sb => h _ ?_
  have hd : ∃ o, h'.get? dx = some o := let ⟨o, _, _, e', _⟩ := O'.ns; ⟨o, e'⟩
  refine I.write (x := a) (e := dx) (by rw [e]; exact True.intro) (.inr ho) (fun b q hb z => (sb.2 b hb).trans z) hd ?_
  refine ⟨by rw [upd_ne O.ne]; exact ho, ?_, O.ne, O'.obj, _, O'.ns, fun g => ?_, fun g hg => ?_⟩
  · have := length_putF f y fs; omega
  · show RelO ((putF f y fs).lookup g) (if g = f then some u else mA g)
    rw [lookup_putF]
    by_cases q : g = f
    · rw [if_pos q, if_pos q]; exact ry
    · rw [if_neg q, if_neg q]; exact r g
  · by_cases q : g = f
    · rw [q]; exact (keys_putF f y fs).1
    · refine (keys_putF f y fs).2 g (wi g fun z => hg ?_)
      show (if g = f then some u else mA g) = none
      rw [if_neg q]; exact z
theorem Inv.made (I : Inv X pins σ H s) : Inv X pins σ (upd (upd H s.heap.objs.size (.own (s.heap.objs.size + 1))) (s.heap.objs.size + 1) (.ins C s.heap.objs.size []))
    { s with heap := (s.heap.push PySem.W.emptyDict).push (PySem.W.instObj C s.heap.objs.size) } := by
  have e1 : (s.heap.push PySem.W.emptyDict).get? s.heap.objs.size = some PySem.W.emptyDict := Heap.get?_push_size s.heap rfl
  have e2 : ((s.heap.push PySem.W.emptyDict).push (PySem.W.instObj C s.heap.objs.size)).get? (s.heap.objs.size + 1) = some (PySem.W.instObj C s.heap.objs.size) := by
    have := Heap.get?_push_size (s.heap.push PySem.W.emptyDict) (o := PySem.W.instObj C s.heap.objs.size) rfl
    rwa [Heap.size_push] at this
  have e3 : (s.heap.push PySem.W.emptyDict).Ns s.heap.objs.size (fun _ => none) := ⟨PySem.W.emptyDict, #[], _, e1, rfl, (fun e he => absurd he (by simp)), fun _ => rfl⟩
  have I1 := I.laid (a := s.heap.objs.size) (o := .own (s.heap.objs.size + 1)) (h' := s.heap.push PySem.W.emptyDict) (t' := s.toks) (fun b u q => Heap.get?_push_of_some _ q) (Nat.le_refl _) ⟨_, e1⟩
  refine I1.laid (a := s.heap.objs.size + 1) (o := .ins C s.heap.objs.size []) (t' := s.toks) (fun b u q => Heap.get?_push_of_some _ q) (Nat.le_of_eq (Heap.size_push _ _)) ?_
  have ne : s.heap.objs.size ≠ s.heap.objs.size + 1 := Nat.ne_of_lt (Nat.lt_succ_self _)
  refine ⟨by rw [upd_ne ne, upd_same], Nat.zero_le _, ne, e2, fun _ => none, (Heap.Ns1.of_empty e3).at fun o q => Heap.get?_push_of_some _ q, fun _ => True.intro, fun y hy => absurd rfl hy⟩
theorem attr_of {prog : Program} {w : World} {env : Env} {e : Expr} {f : Str} {pos : Pos} {s : Shared} {Q : Value → Shared → Prop} (hb : attributeBase e f env (eval e env) = eval e env)
    (h : wpAny (model prog w) A (eval e env) (fun o s₁ => wpAny (model prog w) A (getAttr o f true) Q E s₁) E s) : wpAny (model prog w) A (eval (.Attribute e f pos) env) Q E s :=
  Attribute_any_ h (by rw [arm_eval_Attribute, hb])
end
def tFld (K : PySem.W.Frag) (ta : TE) (f : Str) : TE := fun σ H Q => ta σ H fun x H1 => ∃ a C dx fs v, x = .ref a ∧ H1 a = some (.ins C dx fs) ∧ Cls K C ∧ NoAttr K C f ∧ fs.lookup f = some v ∧ Q v H1
def sFld (K : PySem.W.Frag) (ta tv : TE) (f : Str) : TS := fun D σ H => tv σ H fun y H1 => ta σ H1 fun x H2 => ∃ a C dx fs, x = .ref a ∧ H2 a = some (.ins C dx fs) ∧ Cls K C ∧ NoAttr K C f ∧ fs.length < 1000 ∧
  D.nx σ (upd H2 a (.ins C dx (putF f y fs)))
section
variable {X : Cx} {o e value : Expr} {f : Str} {pos pos' tpos : Pos} {ta tv : TE}
theorem pe_fld (he : PE X e ta) (hb : attributeBase e f X.env (eval e X.env) = eval e X.env) : PE X (.Attribute e f pos) (tFld X.K ta f) := by
  intro pins s σ H Q I h
  refine attr_of hb (thn (he pins s σ H _ I h) fun u s1 ⟨x, H1, I1, rx, a, C, dx, fs, v, ex, ea, c, n, l, q⟩ => ?_)
  subst ex
  obtain rfl : u = Value.ref a := rx
  exact getattr_ok I1 ea c n l fun u' s2 I2 ru => ⟨v, H1, I2, ru, q⟩
theorem ps_fld (ha : PE X o ta) (hv : PE X value tv) (hs : swapsWith value (some (.Attribute o f pos')) pos.line X.env = pure false) : PS X (.Assign [.Attribute o f pos'] value pos) (sFld X.K ta tv f) := by
  intro pins s σ H D I h
  refine plainObj_wpAny_Assign_Attribute (thn (hv pins s σ H _ I h) fun u s1 ⟨y, H1, I1, ry, q⟩ => thn (ha pins s1 σ H1 _ I1 q) fun ov s2 ⟨x, H2, I2, rx, a, C, dx, fs, ex, ea, c, n, l, q2⟩ => ?_) hs
  subst ex
  obtain rfl : ov = Value.ref a := rx
  exact setattr_ok I2 ea c n l ry fun s3 I3 => ⟨σ, _, I3, q2⟩
end
section
variable {X : Cx} {pins : List (Addr × Obj)} {σ : St} {H : Hp} {s : Shared} {A : Around} {E : Value → Shared → Prop} {Q : Value → Shared → Prop} {c : Value} {b : Bool}
end
end L2
namespace L2
open PySem PySem.Spec PyProof.Rows
structure Room (k : Nat) (A : Around) : Prop where
  hd : A.handled = none
  dp : A.depth + 3 * k + 5 < recursionLimit
  un : A.units + 16 * k + 200 < cLine
theorem Room.mono {j k : Nat} {A : Around} (r : Room k A) (h : j ≤ k) : Room j A := ⟨r.hd, by have := r.dp; omega, by have := r.un; omega⟩
theorem Room.deeper {k : Nat} {A : Around} (r : Room (k + 1) A) (env : Env) : Room k (A.deeper env) :=
  ⟨r.hd, by have := r.dp; show A.depth + 1 + 3 * k + 5 < _; omega, by have := r.un; show A.units + 3 + 16 * k + 200 < _; omega⟩
theorem make_depth {A : Around} {C : Addr} {us : List Value} {kw : List (Str × Value)} : (A.under (.builtin "type.__call__" ⟨.ref C :: us, kw⟩)).depth = A.depth + 1 := by
  first | rfl | simp [Around.under, Code.weight, Code.isCreation, Code.isGuard, Code.isCaller, Code.frames, Code.isFrame, guardIds]
theorem make_units {A : Around} {C : Addr} {us : List Value} {kw : List (Str × Value)} : (A.under (.builtin "type.__call__" ⟨.ref C :: us, kw⟩)).units = A.units + 1 := by
  first | rfl | simp [Around.under, Code.cUnits, Code.frames, Code.isFrame]
theorem Room.make {k : Nat} {A : Around} (r : Room (k + 1) A) (C : Addr) (us : List Value) (kw : List (Str × Value)) : Room k (A.under (.builtin "type.__call__" ⟨.ref C :: us, kw⟩)) :=
  ⟨r.hd, by have := r.dp; rw [make_depth]; omega, by have := r.un; rw [make_units]; omega⟩
theorem Room.depth {k : Nat} {A : Around} (r : Room k A) : A.depth < recursionLimit := by have := r.dp; omega
theorem Room.units {k : Nat} {A : Around} (r : Room k A) : A.units + 64 < cLine := by have := r.un; omega
def tNil : TA := fun _ H Q => Q [] H
def tCons (ta : TE) (tr : TA) : TA := fun σ H Q => ta σ H fun x H1 => tr σ H1 fun xs H2 => Q (x :: xs) H2
section
variable {X : Cx} {e : Expr} {es : List Expr} {te : TE} {t : TA} {pos : Pos}
theorem pa_nil : PA X [] tNil := fun _ _ _ _ H Q I h => Calls.spliced_nil ⟨[], H, I, .nil, h⟩
theorem pa_cons (ha : PE X e te) (hr : PA X es t) (hs : starEach (e :: es) X.env = (false, eval e X.env) :: starEach es X.env := by rfl) : PA X (e :: es) (tCons te t) := by
  intro pos pins s σ H Q I h
  rw [hs]
  show wpAny _ _ (spliced ((false, eval e X.env) :: backTo pos (starEach es X.env))) _ _ s
  refine Calls.spliced_cons (thn (ha pins s σ H _ I h) fun u s1 ⟨x, H1, I1, r1, q1⟩ => ?_)
  exact thn (hr pos pins s1 σ H1 _ I1 q1) fun us s2 ⟨xs, H2, I2, r2, q2⟩ => ⟨x :: xs, H2, I2, .cons r1 r2, q2⟩
def tLst (t : TA) : TE := fun σ H Q => t σ H fun xs H1 => xs.length ≤ sizeLine ∧ ∀ p, H1 p = none → Q (.ref p) (upd H1 p (.lst xs))
theorem pe_lst (h : PA X es t) : PE X (.List es pos) (tLst t) := by
  intro pins s σ H Q I hq
  refine wpAny_List_spliced (thn (h pos pins s σ H _ I hq) fun us s1 ⟨xs, H1, I1, r, z, q⟩ => ⟨by rw [← r.length]; exact z, ?_⟩)
  have hf : H1 s1.heap.objs.size = none := I1.hok.fresh (Nat.le_refl _)
  refine ⟨.ref s1.heap.objs.size, upd H1 s1.heap.objs.size (.lst xs), I1.laid (t' := s1.toks) (fun b u e => Heap.get?_push_of_some _ e) (Nat.le_refl _) ?_, rfl, q _ hf⟩
  exact ⟨z, us, 0, r, Heap.get?_push_size _ rfl⟩
end
abbrev Sp := List V → Hp → VK → XK → Prop
abbrev CXT := List Env → Hp → Shared → XK → Value → Shared → Prop
structure Env0 (P : Program) (w : World) (K : PySem.W.Frag) (mg : Str → Option Value) (base : Heap) (A : Around) (outer : List Env) (s : Shared) (H : Hp) : Prop where
  frames : A.frames = some outer
  mod : Mod K mg base
  bs : ∀ b o, base.get? b = some o → s.heap.get? b = some o ∧ H b = none
  bsz : base.objs.size ≤ s.heap.objs.size
  funs : s.heap.FunFrames base outer
  frf : ∀ b ∈ frs outer, H b = none
  hok : HOk P w H s.heap
  bare : AllBare s.gens
def CE (outer : List Env) (P : Program) (w : World) (H : Hp) (s : Shared) (Q : VK) (u : Value) (s' : Shared) : Prop :=
  ∃ v H', s'.os = s.os ∧ AllBare s'.gens ∧ Un (frs outer) [] H H' s.heap s'.heap ∧ HOk P w H' s'.heap ∧ RelV v u ∧ Q v H'
def CR (CX : CXT) (outer : List Env) (P : Program) (w : World) (H : Hp) (s : Shared) (Q : VK) (E : XK) (r : Result) (s' : Shared) : Prop :=
  match r with
  | .ok (.ret u) => CE outer P w H s Q u s'
  | .ok _ => False
  | .error e => CX outer H s E e s'
structure FnOk (P : Program) (w : World) (K : PySem.W.Frag) (mg : Str → Option Value) (base : Heap) (CX : CXT) (k : Nat) (f : Addr) (fd : FuncData) (ps : List Str) (sp : Sp) : Prop where
  len : ∀ vs H Q E, sp vs H Q E → vs.length = ps.length
  run : ∀ (A : Around) (outer : List Env) (s : Shared) (H : Hp) (args : Args) (us : List Value) (vs : List V) (Q : VK) (E : XK), Room k A → Env0 P w K mg base A outer s H → BindsTo s fd args (ps.zip us) → Vals vs us → sp vs H Q E →
    codeAny (model P w) A (.call (.ref f) args) (CR CX outer P w H s Q E) s
theorem Env0.make {P : Program} {w : World} {K : PySem.W.Frag} {mg : Str → Option Value} {base : Heap} {A : Around} {outer : List Env} {s : Shared} {H : Hp} (e : Env0 P w K mg base A outer s H) (C : Addr) (us : List Value) (kw : List (Str × Value)) :
    Env0 P w K mg base (A.under (.builtin "type.__call__" ⟨.ref C :: us, kw⟩)) outer s H := ⟨by first | exact e.frames | (simpa [Around.under, Code.envs, Code.isFrame, pushEnvs] using e.frames), e.mod, e.bs, e.bsz, e.funs, e.frf, e.hok, e.bare⟩
section
variable {X : Cx} {pins : List (Addr × Obj)} {σ : St} {H : Hp} {s s' : Shared}
theorem Inv.env0 (I : Inv X pins σ H s) : Env0 X.prog X.w X.K X.mg X.base X.A X.stack s H :=
  ⟨I.ok.frames, I.ok.mod, I.bs, Nat.le_trans I.ok.bsz I.sz, I.stack, I.stkFree, I.hok, I.bare⟩
theorem Inv.after {Q : VK} {u : Value} (I : Inv X pins σ H s) (h : CE X.stack X.prog X.w H s Q u s') : EP X pins σ Q u s' := by
  obtain ⟨v, H', os, bare, un, hok, r, q⟩ := h
  obtain ⟨hh, g, d, t, os'⟩ := s'
  obtain rfl : os' = s.os := os
  exact ⟨v, H', I.call (h' := hh) (g' := g) (d' := d) (t' := t) (ch := []) un hok bare (fun b z => absurd z (by simp)), r, q⟩
end
def tCall (sp : Sp) (dvs : List V) (E : XK) (t : TA) : TE := fun σ H Q => t σ H fun vs H1 => sp (vs ++ dvs) H1 Q E
def tMeth (C : Addr) (m : Str) (sp : Sp) (dvs : List V) (E : XK) (ta : TE) (t : TA) : TE := fun σ H Q => ta σ H fun x H1 => ∃ a dx fs, x = .ref a ∧ H1 a = some (.ins C dx fs) ∧ fs.lookup m = none ∧
  t σ H1 fun vs H2 => sp (x :: (vs ++ dvs)) H2 Q E
def tMake (C : Addr) (sp : Sp) (dvs : List V) (E : XK) (t : TA) : TE := fun σ H Q => t σ H fun vs H1 => ∀ x dx, H1 x = none → H1 dx = none → dx ≠ x →
  sp (.ref x :: (vs ++ dvs)) (upd (upd H1 dx (.own x)) x (.ins C dx [])) (fun v H2 => v = .non ∧ Q (.ref x) H2) E
def Binds (K : PySem.W.Frag) (fd : FuncData) (ps : List Str) (ds : List Value) : Prop :=
  ∀ (s : Shared) (us : List Value), K.In s.heap → (us ++ ds).length = ps.length → BindsTo s fd ⟨us, []⟩ (ps.zip (us ++ ds))
theorem Binds.all {K : PySem.W.Frag} {fd : FuncData} {ps : List Str} (h : ∀ us : List Value, us.length = ps.length → bindArgs fd ⟨us, []⟩ = pure (ps.zip us)) : Binds K fd ps [] := fun s us _ hl => by
  rw [List.append_nil] at hl ⊢
  exact .of_eq (h us hl)
def Passes (CX : CXT) (X : Cx) (E : XK) : Prop := ∀ (pins : List (Addr × Obj)) (σ : St) (H : Hp) (s : Shared) (e : Value) (s' : Shared), Inv X pins σ H s → CX X.stack H s E e s' → X.xe e s'
section
variable {X : Cx} {CX : CXT} {k : Nat} {f C : Addr} {fd : FuncData} {ps : List Str} {sp : Sp} {dvs : List V} {ds : List Value} {E : XK} {x m : Str} {p pos apos : Pos} {e o : Expr} {es : List Expr} {ta : TE} {t : TA}
theorem run_fn {pins : List (Addr × Obj)} {σ : St} {H : Hp} {s : Shared} {Q : VK} {us : List Value} {vs : List V} (F : FnOk X.prog X.w X.K X.mg X.base CX k f fd ps sp) (hr : Room k X.A) (hb : Binds X.K fd ps ds) (hd : Vals dvs ds) (hx : Passes CX X E)
    (I : Inv X pins σ H s) (r : Vals vs us) (h : sp (vs ++ dvs) H Q E) : wpAny (model X.prog X.w) X.A (call (.ref f) us) (EP X pins σ Q) X.xe s := by
  have r2 : Vals (vs ++ dvs) (us ++ ds) := r.append hd
  have hl : (us ++ ds).length = ps.length := by rw [← r2.length]; exact F.len _ _ _ _ h
  refine wpAny_call (codeAny_mono (F.run X.A X.stack s H ⟨us, []⟩ (us ++ ds) (vs ++ dvs) Q E hr I.env0 (hb s us I.kIn hl) r2 h) fun r s' hq => ?_)
  cases r with
  | error e => exact hx pins σ H s e s' I hq
  | ok fl =>
    cases fl with
    | ret u => exact I.after hq
    | next => exact False.elim hq
    | brk => exact False.elim hq
    | cont => exact False.elim hq
theorem pe_call (F : FnOk X.prog X.w X.K X.mg X.base CX k f fd ps sp) (hr : Room k X.A) (hg : Gl X x) (hm : X.mg x = some (.ref f)) (hk : PySem.W.keepIn X.K (.ref f) = true) (hb : Binds X.K fd ps ds) (hd : Vals dvs ds) (hx : Passes CX X E)
    (ha : PA X (e :: es) t) (hdb : (x == ("__debug__" : Str)) = false := by decide) (he : starEach (e :: es) X.env = (false, eval e X.env) :: starEach es X.env := by rfl) (hpl : (backTo pos (starEach es X.env)).any (·.1) = false := by rfl) :
    PE X (.Call (.Name x p) (e :: es) [] pos) (tCall sp dvs E t) := by
  intro pins s σ H Q I h
  refine wpAny_Call_Name_kw (ld_glob I hg hm ?_ hdb)
  refine PySem.W.callWith_K (h₀ := X.base) I.ok.mod.kin hk (thn (ha pos pins s σ H _ I h) fun us s1 ⟨vs, H1, I1, r, q⟩ => ⟨I1.kIn, ?_⟩) he hpl
  exact run_fn F hr hb hd hx I1 r q
theorem pe_meth {pl : Sem Bool} (he : PE X o ta) (c : Cls X.K C) (hm : Meth X.K C m f) (F : FnOk X.prog X.w X.K X.mg X.base CX k f fd ps sp) (hr : Room k X.A) (hb : Binds X.K fd ps ds) (hd : Vals dvs ds) (hx : Passes CX X E) (ha : PA X (e :: es) t)
    (hst : starEach (e :: es) X.env = (false, eval e X.env) :: starEach es X.env := by rfl) (hpl : (backTo pos (starEach es X.env)).any (·.1) = false := by rfl)
    (ht : eval (.Call (.Attribute o m apos) (e :: es) [] pos) X.env = (do
      let ov ← eval o X.env
      standAt apos.atName
      let (f, first) ← holding [ov] (getMethod ov m pl)
      callWith pos f first (backTo pos (starEach (e :: es) X.env)) (backToKw pos (keywordEach [] X.env))) := by rfl) :
    PE X (.Call (.Attribute o m apos) (e :: es) [] pos) (tMeth C m sp dvs E ta t) := by
  intro pins s σ H Q I h
  refine PySem.W.methodCall_KW (pl := pl) (thn (he pins s σ H _ I h) fun u s1 ⟨x, H1, I1, rx, a, dx, fs, ex, ea, l, q⟩ => ?_) ht
  subst ex
  obtain rfl : u = Value.ref a := rx
  refine getmeth_ok I1 ea c hm l ?_
  refine PySem.W.callWith_K (first := [.ref a]) (h₀ := X.base) I.ok.mod.kin hm.kp (thn (ha pos pins s1 σ H1 _ I1 q) fun us s2 ⟨vs, H2, I2, r, q2⟩ => ⟨I2.kIn, ?_⟩) hst hpl
  exact run_fn (us := .ref a :: us) (vs := .ref a :: vs) F hr hb hd hx I2 (.cons rfl r) q2
theorem pe_meth0 {pl : Sem Bool} (he : PE X o ta) (c : Cls X.K C) (hm : Meth X.K C m f) (F : FnOk X.prog X.w X.K X.mg X.base CX k f fd ps sp) (hr : Room k X.A) (hb : Binds X.K fd ps ds) (hd : Vals dvs ds) (hx : Passes CX X E)
    (ht : eval (.Call (.Attribute o m apos) [] [] pos) X.env = (do
      let ov ← eval o X.env
      standAt apos.atName
      let (f, first) ← holding [ov] (getMethod ov m pl)
      callWith pos f first (backTo pos (starEach [] X.env)) (backToKw pos (keywordEach [] X.env))) := by rfl) :
    PE X (.Call (.Attribute o m apos) [] [] pos) (tMeth C m sp dvs E ta tNil) := by
  intro pins s σ H Q I h
  refine PySem.W.methodCall_KW (pl := pl) (thn (he pins s σ H _ I h) fun u s1 ⟨x, H1, I1, rx, a, dx, fs, ex, ea, l, q⟩ => ?_) ht
  subst ex
  obtain rfl : u = Value.ref a := rx
  refine getmeth_ok I1 ea c hm l ?_
  exact PySem.W.callWith_K0 (first := [.ref a]) I1.kIn hm.kp (run_fn (us := [.ref a]) (vs := [.ref a]) F hr hb hd hx I1 (.cons rfl .nil) q)
structure Mk (K : PySem.W.Frag) (C f : Addr) : Prop where
  makes : PySem.W.makesIn K C = true
  init : PySem.W.findIn K (.ref C) "__init__" = some (some (.ref f))
  fn : PySem.W.isFn K (.ref f) = true
  kp : PySem.W.keepIn K (.ref C) = true
theorem run_make {pins : List (Addr × Obj)} {σ : St} {H : Hp} {s : Shared} {Q : VK} {us : List Value} {vs : List V} (M : Mk X.K C f) (F : FnOk X.prog X.w X.K X.mg X.base CX k f fd ps sp) (hr : Room (k + 1) X.A) (hb : Binds X.K fd ps ds) (hd : Vals dvs ds)
    (hx : Passes CX X E) (I : Inv X pins σ H s) (r : Vals vs us)
    (h : ∀ x dx, H x = none → H dx = none → dx ≠ x → sp (.ref x :: (vs ++ dvs)) (upd (upd H dx (.own x)) x (.ins C dx [])) (fun v H2 => v = .non ∧ Q (.ref x) H2) E) :
    wpAny (model X.prog X.w) X.A (call (.ref C) us) (EP X pins σ Q) X.xe s := by
  have hq := h (s.heap.objs.size + 1) s.heap.objs.size (I.hok.fresh (Nat.le_succ _)) (I.hok.fresh (Nat.le_refl _)) (Nat.ne_of_lt (Nat.lt_succ_self _))
  have I2 := Inv.made (C := C) I
  have r2 : Vals (V.ref (s.heap.objs.size + 1) :: (vs ++ dvs)) (Value.ref (s.heap.objs.size + 1) :: (us ++ ds)) := .cons rfl (r.append hd)
  have hl : (Value.ref (s.heap.objs.size + 1) :: us ++ ds).length = ps.length := by
    have e := r2.length
    rw [F.len _ _ _ _ hq] at e
    exact e.symm
  refine wpAny_call (make_map (f := f) I.kIn M.makes M.init (beq_iff_eq.mp M.fn) (codeAny_mono (F.run _ X.stack _ _ ⟨Value.ref (s.heap.objs.size + 1) :: us, []⟩ (Value.ref (s.heap.objs.size + 1) :: (us ++ ds)) _ _ E (hr.make C us [])
    (I2.env0.make C us []) (hb _ (Value.ref (s.heap.objs.size + 1) :: us) I2.kIn hl) r2 hq) fun r s' hq' => ?_))
  cases r with
  | error e => exact hx pins σ _ _ e s' I2 hq'
  | ok fl =>
    cases fl with
    | ret u =>
      obtain ⟨v, H', I3, rv, ev, q3⟩ := I2.after hq'
      subst ev
      exact ⟨rv, ⟨V.ref (s.heap.objs.size + 1), H', I3, rfl, q3⟩⟩
    | next => exact False.elim hq'
    | brk => exact False.elim hq'
    | cont => exact False.elim hq'
theorem pe_make (M : Mk X.K C f) (F : FnOk X.prog X.w X.K X.mg X.base CX k f fd ps sp) (hr : Room (k + 1) X.A) (hg : Gl X x) (hm : X.mg x = some (.ref C)) (hb : Binds X.K fd ps ds) (hd : Vals dvs ds) (hx : Passes CX X E)
    (ha : PA X (e :: es) t) (hdb : (x == ("__debug__" : Str)) = false := by decide) (he : starEach (e :: es) X.env = (false, eval e X.env) :: starEach es X.env := by rfl) (hpl : (backTo pos (starEach es X.env)).any (·.1) = false := by rfl) :
    PE X (.Call (.Name x p) (e :: es) [] pos) (tMake C sp dvs E t) := by
  intro pins s σ H Q I h
  refine wpAny_Call_Name_kw (ld_glob I hg hm ?_ hdb)
  refine PySem.W.callWith_K (h₀ := X.base) I.ok.mod.kin M.kp (thn (ha pos pins s σ H _ I h) fun us s1 ⟨vs, H1, I1, r, q⟩ => ⟨I1.kIn, ?_⟩) he hpl
  exact run_make M F hr hb hd hx I1 r q
theorem pe_make0 (M : Mk X.K C f) (F : FnOk X.prog X.w X.K X.mg X.base CX k f fd ps sp) (hr : Room (k + 1) X.A) (hg : Gl X x) (hm : X.mg x = some (.ref C)) (hb : Binds X.K fd ps ds) (hd : Vals dvs ds) (hx : Passes CX X E)
    (hdb : (x == ("__debug__" : Str)) = false := by decide) : PE X (.Call (.Name x p) [] [] pos) (tMake C sp dvs E tNil) := by
  intro pins s σ H Q I h
  refine wpAny_Call_Name_kw (ld_glob I hg hm ?_ hdb)
  exact PySem.W.callWith_K0 I.kIn M.kp (run_make (us := []) M F hr hb hd hx I .nil h)
end
section
variable {X : Cx} {CX : CXT} {k : Nat} {f C : Addr} {fd : FuncData} {ps ks : List Str} {sp : Sp} {E : XK} {x m : Str} {p pos apos kpos : Pos} {e o : Expr} {es : List Expr} {kws : List Keyword} {te ta : TE} {t tk : TA} {nm : Option Str}
variable {g : List Value → List Value → List Value} {gV : List V → List V → List V}
end
structure FnScope (N P : List Str) (sc : Scope) : Prop where
  kind : sc.kind = .function
  co : sc.isCoroutine = false
  gen : sc.isGenerator = false
  nd : N.Nodup
  pre : N.take P.length = P
  par : ∀ x ∈ P, sc.names.lookup x = some .local ∨ sc.names.lookup x = some .cell
  nofree : ∀ y ∈ sc.names, y.2 ≠ .free
theorem bindL_out {kindOf : Str → Option NameKind} {x : Str} : ∀ {binds : List (Str × Value)} {m : Str → Option Value}, (∀ v, (x, v) ∉ binds) → bindL kindOf binds m x = m x
  | [], _, _ => rfl
  | (n, v) :: r, m, h => by
    unfold bindL
    rw [bindL_out fun w hw => h w (List.mem_cons_of_mem _ hw)]
    split
    · have : x ≠ n := by rintro rfl; exact h v List.mem_cons_self
      simp [this]
    · rfl
theorem bindC_out {kindOf : Str → Option NameKind} {x : Str} : ∀ {binds : List (Str × Value)} {m : Str → Option Value}, (∀ v, (x, v) ∉ binds) → bindC kindOf binds m x = m x
  | [], _, _ => rfl
  | (n, v) :: r, m, h => by
    unfold bindC
    rw [bindC_out fun w hw => h w (List.mem_cons_of_mem _ hw)]
    split
    · rfl
    · have : x ≠ n := by rintro rfl; exact h v List.mem_cons_self
      simp [this]
theorem bindL_get {kindOf : Str → Option NameKind} {x : Str} {v : Value} : ∀ {P : List Str} {vs : List Value} {i : Nat} {m : Str → Option Value}, P.Nodup → P[i]? = some x → vs[i]? = some v → kindOf x = some .local →
    bindL kindOf (P.zip vs) m x = some v
  | [], _, _, _, _, h, _, _ => by simp at h
  | _ :: _, [], _, _, _, _, h, _ => by simp at h
  | p :: P, w :: vs, 0, m, nd, h1, h2, hk => by
    simp at h1 h2; subst h1; subst h2
    show bindL kindOf ((p, w) :: P.zip vs) m p = _
    unfold bindL
    rw [bindL_out fun v hv => (List.nodup_cons.mp nd).1 (List.of_mem_zip hv).1, if_pos hk]
    simp
  | p :: P, w :: vs, i + 1, m, nd, h1, h2, hk => by
    show bindL kindOf ((p, w) :: P.zip vs) m x = _
    unfold bindL
    exact bindL_get (i := i) (List.nodup_cons.mp nd).2 (by simpa using h1) (by simpa using h2) hk
theorem bindC_get {kindOf : Str → Option NameKind} {x : Str} {v : Value} : ∀ {P : List Str} {vs : List Value} {i : Nat} {m : Str → Option Value}, P.Nodup → P[i]? = some x → vs[i]? = some v → kindOf x ≠ some .local →
    bindC kindOf (P.zip vs) m x = some v
  | [], _, _, _, _, h, _, _ => by simp at h
  | _ :: _, [], _, _, _, _, h, _ => by simp at h
  | p :: P, w :: vs, 0, m, nd, h1, h2, hk => by
    simp at h1 h2; subst h1; subst h2
    show bindC kindOf ((p, w) :: P.zip vs) m p = _
    unfold bindC
    rw [bindC_out fun v hv => (List.nodup_cons.mp nd).1 (List.of_mem_zip hv).1, if_neg hk]
    simp
  | p :: P, w :: vs, i + 1, m, nd, h1, h2, hk => by
    show bindC kindOf ((p, w) :: P.zip vs) m x = _
    unfold bindC
    exact bindC_get (i := i) (List.nodup_cons.mp nd).2 (by simpa using h1) (by simpa using h2) hk
def start (N : List Str) (vs : List V) : St := vs.map some ++ List.replicate (N.length - vs.length) none
def cxOf (CX : CXT) (P : Program) (w : World) (K : PySem.W.Frag) (mg : Str → Option Value) (base : Heap) (N : List Str) (qual : Str) (scope : Scope) (f : Addr) (cd : Value) (A : Around) (outer : List Env) (s : Shared) (H : Hp) (E : XK) : Cx where
  prog := P
  w := w
  K := K
  mg := mg
  base := base
  A := A.deeper (envOfC qual scope s.heap.objs.size f cd)
  N := N
  s_0 := s
  H_0 := H
  env := envOfC qual scope s.heap.objs.size f cd
  outer := outer
  stack := envOfC qual scope s.heap.objs.size f cd :: outer
  ex := []
  calm := true
  fn := fun _ => true
  pn := []
  xe := fun e s' => wpAny (model P w) (A.deeper (envOfC qual scope s.heap.objs.size f cd)) (leaving (envOfC qual scope s.heap.objs.size f cd) e) (fun _ s'' => CX outer H s E e s'') (fun e' s'' => CX outer H s E e' s'') s'
theorem cell_has {sc : Scope} {n : Nat} {x : Str} (h : sc.names.lookup x = some .cell) : ∃ c, (cellsFrom n sc.names []).lookup x = some c := by
  have q := PySem.W.cellsFrom_some sc.names n [] (.inl h)
  exact Option.isSome_iff_exists.mp q
theorem inv_start {CX : CXT} {P : Program} {w : World} {K : PySem.W.Frag} {mg : Str → Option Value} {base : Heap} {N ps : List Str} {qual : Str} {scope : Scope} {f : Addr} {cd : Value} {A : Around} {outer : List Env} {s s1 : Shared} {H : Hp} {E : XK} {us : List Value} {vs : List V}
    (S : FnScope N ps scope) (hd : A.handled = none) (e0 : Env0 P w K mg base A outer s H) (hl : vs.length = ps.length) (r : Vals vs us)
    (x : InCallC s s.heap.objs.size (bindL (envOfC qual scope s.heap.objs.size f cd).kindOf (ps.zip us) fun _ => none) (cellsFrom (s.heap.objs.size + 1) scope.names []) (bindC (envOfC qual scope s.heap.objs.size f cd).kindOf (ps.zip us) fun _ => none) s1) :
    Inv (cxOf CX P w K mg base N qual scope f cd A outer s H E) [] (start N vs) H s1 := by
  have hpl : ps.length ≤ N.length := by have := congrArg List.length S.pre; rw [List.length_take] at this; omega
  obtain ⟨h1, tk, rfl, hk⟩ := x.done
  have noA : ∀ b : Addr, b ∉ (cxOf CX P w K mg base N qual scope f cd A outer s H E).ex := fun b z => absurd (show b ∈ ([] : List Addr) from z) (by simp)
  refine ⟨⟨e0.mod, S.kind, rfl, rfl, Nat.le_refl _, fun y z c h1 h2 => ?_, fun y hy => ?_, fun y c _ h => ?_, fun _ => hd, Around.frames_deeper e0.frames, .inr ⟨rfl, rfl⟩, fun b z => absurd z (noA b), e0.bs, e0.bsz, fun b _ _ => noA b, fun b z => absurd z (noA b), e0.funs, e0.frf⟩,
    rfl, e0.bare, Un.kept hk, ⟨_, x.toInCall.ns, fun i y v h1 h2 h3 => ?_⟩, fun y c h => ⟨_, x.cell y c h⟩, e0.hok.fresh (Nat.le_refl _), fun y c h => ?_, fun p hp => absurd (show p ∈ ([] : List (Addr × Obj)) from hp) (by simp), e0.hok.kept hk, ?_⟩
  · exact name_of_addr x.apart (PySem.mem_of_lookup h1) (PySem.mem_of_lookup h2)
  · have hy : scope.names.lookup y = some .cell ∨ scope.names.lookup y = some .free := hy
    rcases hy with hy | hy
    · exact cell_has hy
    · exact absurd rfl (S.nofree _ (PySem.mem_of_lookup hy))
  · exact Nat.le_of_lt (x.above y c (PySem.mem_of_lookup h))
  · have hi : i < vs.length := by
      unfold start at h2
      by_cases hi : i < vs.length
      · exact hi
      · rw [List.getElem?_append_right (by simpa using hi)] at h2
        rw [List.getElem?_replicate] at h2
        split at h2 <;> cases h2
    have ha : vs[i]? = some v := by
      unfold start at h2
      rw [List.getElem?_append_left (by simpa using hi), List.getElem?_map] at h2
      cases e : vs[i]? with
      | none => rw [e] at h2; cases h2
      | some a => rw [e] at h2; cases h2; rfl
    obtain ⟨u, hu, rv⟩ := r.get ha
    have hp : ps[i]? = some y := by
      rw [← S.pre, List.getElem?_take_of_lt (by omega)]; exact h1
    have ndP : ps.Nodup := by rw [← S.pre]; exact S.nd.sublist (List.take_sublist _ _)
    refine ⟨u, rv, ?_⟩
    rcases S.par y (List.mem_of_getElem? hp) with k | k
    · exact .inl ⟨k, bindL_get ndP hp hu k⟩
    · obtain ⟨c, e⟩ := cell_has (n := s.heap.objs.size + 1) k
      refine .inr ⟨.inl k, c, e, ?_⟩
      have q := x.cell y c e
      rw [bindC_get ndP hp hu (by show scope.names.lookup y ≠ _; rw [k]; decide)] at q
      exact q
  · exact e0.hok.fresh (Nat.le_of_lt (x.above y c (PySem.mem_of_lookup h)))
  · unfold start
    show _ = N.length
    rw [List.length_append, List.length_map, List.length_replicate]
    omega
theorem fn_of {CX : CXT} {P : Program} {w : World} {K : PySem.W.Frag} {mg : Str → Option Value} {base : Heap} {k : Nat} {f : Addr} {name qual : Str} {params : Arguments} {body : List Stmt} {scope : Scope} {dV kV doc pm cdv ct oc : Value} {an od : Option Addr}
    {osl : Array (Option Value)} {N ps : List Str} {sp : Sp} (lk : K.lookup f = some ⟨oc, od, .func (PySem.W.fnOf name qual params body scope dV kV doc pm an cdv ct), osl⟩) (hcd : PySem.W.codeIn K cdv qual = true) (S : FnScope N ps scope)
    (len : ∀ vs H Q E, sp vs H Q E → vs.length = ps.length)
    (hbody : ∀ (A : Around) (outer : List Env) (s : Shared) (H : Hp) (vs : List V) (Q : VK) (E : XK), Room k (A.deeper (envOfC qual scope s.heap.objs.size f cdv)) → sp vs H Q E →
      ∃ t, PSs (cxOf CX P w K mg base N qual scope f cdv A outer s H E) body t ∧ t { nx := fun _ H' => Q .non H', rt := Q } (start N vs) H) :
    FnOk P w K mg base CX (k + 1) f (PySem.W.fnOf name qual params body scope dV kV doc pm an cdv ct) ps sp := by
  refine ⟨len, fun A outer s H args us vs Q E hr e0 hb r hsp => ?_⟩
  have hl := len _ _ _ _ hsp
  have KX : K.In s.heap := e0.mod.kin.keeps fun b o e => (e0.bs b o e).1
  have lim : s.heap.NoLimit := e0.mod.nolimit.keeps fun b o e => (e0.bs b o e).1
  have hkind : ∀ y ∈ ps.zip us, scope.names.lookup y.1 = some .local ∨ (scope.names.lookup y.1 = some .cell ∧ ((cellsFrom (s.heap.objs.size + 1) scope.names []).lookup y.1).isSome = true) := fun ⟨n, v⟩ hy => by
    rcases S.par n (List.of_mem_zip hy).1 with q | q
    · exact .inl q
    · exact .inr ⟨q, PySem.W.cellsFrom_some _ _ _ (.inl q)⟩
  refine codeAny_call_function hr.depth (KX _ _ lk) rfl S.co S.gen rfl (PySem.W.codeRec_of KX hcd) (hb _ _ _ _ ?_)
  refine wpAny_newFunctionEnv_cells S.kind hkind fun env he s1 x => ?_
  subst he
  refine ⟨lim.keeps x.toInCall.keep, codeAny_func ?_⟩
  obtain ⟨t, ht, hq⟩ := hbody A outer s H vs Q E (hr.deeper _) hsp
  have I : Inv (cxOf CX P w K mg base N qual scope f cdv A outer s H E) [] (start N vs) H s1 := inv_start S hr.hd e0 hl r x
  refine wpAny_mono (ht [] s1 (start N vs) H _ I hq) (fun fl s' hs => ?_) fun e s' hs => hs
  have fin : ∀ {σ' : St} {H' : Hp} {v : V} {u : Value}, Inv (cxOf CX P w K mg base N qual scope f cdv A outer s H E) [] σ' H' s' → RelV v u → Q v H' → CE outer P w H s Q u s' :=
    fun {σ' H' v u} J rv q => ⟨v, H', J.os, J.bare, J.base, J.hok, rv, q⟩
  cases fl with
  | ret u =>
    obtain ⟨v, σ', H', J, rv, q⟩ := hs
    exact fin J rv q
  | next =>
    obtain ⟨σ', H', J, q⟩ := hs
    exact fin (v := V.non) (u := Value.none) J rfl q
  | brk =>
    obtain ⟨_, _, _, q⟩ := hs
    exact False.elim q
  | cont =>
    obtain ⟨_, _, _, q⟩ := hs
    exact False.elim q
end L2
namespace L2
open PySem PySem.Spec PyProof.Rows
section
variable {X : Cx} {x : Str} {p pos : Pos} {e : Expr} {es : List Expr} {t : TA} {id T : String} {r : List V → Hp → VK → Prop}
def tCB (r : List V → Hp → VK → Prop) (t : TA) : TE := fun σ H Q => t σ H fun vs H1 => r vs H1 Q
theorem pe_callB (hc : CallR X (.builtin id) r) (hg : Gl X x) (hm : X.mg x = none) (hv : bootBuiltins x = some (.builtin id)) (ha : PA X (e :: es) t) (hn : x ≠ "__name__" := by decide) (hdb : (x == ("__debug__" : Str)) = false := by decide)
    (he : starEach (e :: es) X.env = (false, eval e X.env) :: starEach es X.env := by rfl) (hpl : (backTo pos (starEach es X.env)).any (·.1) = false := by rfl) : PE X (.Call (.Name x p) (e :: es) [] pos) (tCB r t) := by
  intro pins s σ H Q I h
  refine wpAny_Call_Name_kw (ld_blt I hg hm hv ?_ hn hdb)
  exact PyProof.Rows.callWith_builtin1 (thn (ha pos pins s σ H _ I h) fun us s1 ⟨vs, H1, I1, r1, q1⟩ => hc pins s1 σ H1 vs us Q I1 r1 q1) he hpl
end
end L2
namespace HT
open PySem PyProof.Rows
section
open PySem.SeqAt
open PySem.AutoSeq1 (wpAny_loadPart')
open PySem.MeetsSeq PySem.MeetsSeq2 PySem.MeetsSeq3
end
section
variable {prog : Program} {w : World} {A : Around} {E : Value → Shared → Prop} {s : Shared}
def sIx (n d : Nat) : Option Int → Nat
  | none => d
  | some v => if v < 0 then (v + (n : Int)).toNat else min v.toNat n
theorem sIx_none (n d : Nat) : sIx n d none = d := rfl
theorem sIx_nat (n d k : Nat) : sIx n d (some (k : Int)) = min k n := by
  show (if (k : Int) < 0 then ((k : Int) + (n : Int)).toNat else min (k : Int).toNat n) = min k n
  rw [if_neg (by omega), Int.toNat_natCast]
end
end HT
namespace L2
open PySem PySem.Spec PyProof.Rows
abbrev TO := St → Hp → (Option Int → Hp → Prop) → Prop
def PO (X : Cx) (e : Option Expr) (t : TO) : Prop :=
  ∀ (pins : List (Addr × Obj)) (s : Shared) (σ : St) (H : Hp) (Q : Option Int → Hp → Prop), Inv X pins σ H s → t σ H Q →
    wpAny (model X.prog X.w) X.A (evalPart e X.env) (fun u s' => ∃ o H', Inv X pins σ H' s' ∧ IsPart u o ∧ Q o H') X.xe s
def tNoPart : TO := fun _ H Q => Q none H
def tPart (t : TE) : TO := fun σ H Q => t σ H fun x H1 => ∃ i, x = .int i ∧ Q (some i) H1
section
variable {X : Cx} {e : Expr} {te : TE} {lo hi : Option Expr} {tl th : TO} {pos p2 : Pos}
theorem po_none : PO X none tNoPart := by
  intro pins s σ H Q I h
  rw [evalPart_none]
  exact wpAny_pure ⟨none, H, I, .none, h⟩
theorem po_some (h : PE X e te) : PO X (some e) (tPart te) := by
  intro pins s σ H Q I hw
  rw [evalPart_some]
  refine thn (h pins s σ H _ I hw) fun u s1 ⟨x, H1, I1, r1, q1⟩ => ?_
  obtain ⟨i, rfl, q⟩ := q1
  obtain ⟨t, rfl⟩ := r1
  exact ⟨some i, H1, I1, .int i t, q⟩
def SlR (X : Cx) (r : V → Option Int → Option Int → Hp → VK → Prop) : Prop :=
  ∀ (pins : List (Addr × Obj)) (s : Shared) (σ : St) (H : Hp) (x : V) (v vl vu : Value) (lo hi : Option Int) (sl : Addr) (Q : VK), Inv X pins σ H s → RelV x v → s.heap.IsSliceOf sl vl vu .none → IsPart vl lo → IsPart vu hi → r x lo hi H Q →
    ∃ T id, typeLookup (.type T) "__getitem__" = pure (some (.builtin id)) ∧ s.TypeIs v T ∧ wpAny (model X.prog X.w) X.A (getItem v (.ref sl)) (EP X pins σ Q) X.xe s
def tSl (r : V → Option Int → Option Int → Hp → VK → Prop) (te : TE) (tl th : TO) : TE := fun σ H Q => te σ H fun x H1 => tl σ H1 fun l H2 => th σ H2 fun u H3 => r x l u H3 Q
theorem pe_slice {r : V → Option Int → Option Int → Hp → VK → Prop} (hr : SlR X r) (he : PE X e te) (hl : PO X lo tl) (hu : PO X hi th) : PE X (.Subscript e (.Slice lo hi none p2) pos) (tSl r te tl th) := by
  intro pins s σ H Q I h
  refine Subscript_ (thn (he pins s σ H _ I h) fun v s1 ⟨x, H1, I1, r1, q1⟩ => ?_)
  refine wpAny_Slice (thn (hl pins s1 σ H1 _ I1 q1) fun vl s2 ⟨l, H2, I2, pl, q2⟩ => thn (hu pins s2 σ H2 _ I2 q2) fun vu s3 ⟨u, H3, I3, pu, q3⟩ => ?_)
  rw [evalPart_none]
  refine wpAny_pure ?_
  have I4 : Inv X pins σ H3 { s3 with heap := s3.heap.push { cls := .type "slice", data := .fields #[vl, vu, .none] } } := I3.kept (t' := s3.toks) fun b ob q => Heap.get?_push_of_some _ q
  obtain ⟨T, id, hT, ht, hg⟩ := hr pins { s3 with heap := s3.heap.push { cls := .type "slice", data := .fields #[vl, vu, .none] } } σ H3 x v vl vu l u s3.heap.objs.size Q I4 r1 (Heap.IsSliceOf.new ..) pl pu q3
  show wpAny (model X.prog X.w) X.A (subscriptTail e (.Slice lo hi none p2) v (.ref s3.heap.objs.size)) (EP X pins σ Q) X.xe { s3 with heap := s3.heap.push { cls := .type "slice", data := .fields #[vl, vu, .none] } }
  exact tail_any (ops := [.ref s3.heap.objs.size, v]) ht hT hg (by with_unfolding_all rfl)
def cutV (xs : List V) (lo hi : Option Int) : List V := (xs.drop (HT.sIx xs.length 0 lo)).take (HT.sIx xs.length xs.length hi - HT.sIx xs.length 0 lo)
theorem cutV_length (xs : List V) (lo hi : Option Int) : (cutV xs lo hi).length ≤ xs.length := by
  unfold cutV
  rw [List.length_take, List.length_drop]
  omega
end
end L2
namespace L2
open PySem PySem.Spec PyProof.Rows
def ixN (n : Nat) (i : Int) : Option Nat := if 0 ≤ i then (if i < n then some i.toNat else none) else if -(n : Int) ≤ i then some (i + n).toNat else none
def atI {α : Type} (xs : List α) (i : Int) : Option α := (ixN xs.length i).bind fun j => xs[j]?
theorem ixN_seq {n : Nat} {i : Int} {j : Nat} (h : ixN n i = some j) : seqIndex? i n = some j ∧ j < n ∧ -(n : Int) ≤ i ∧ i < n := by
  unfold ixN at h
  by_cases h0 : 0 ≤ i
  · rw [if_pos h0] at h
    by_cases h1 : i < n
    · rw [if_pos h1] at h
      have e : i.toNat = j := Option.some.inj h
      exact ⟨by rw [seqIndex_of h0 h1, e], by omega, by omega, h1⟩
    · rw [if_neg h1] at h; cases h
  · rw [if_neg h0] at h
    by_cases h1 : -(n : Int) ≤ i
    · rw [if_pos h1] at h
      have e : (i + n).toNat = j := Option.some.inj h
      exact ⟨by rw [seqIndex_neg (by omega) h1, e], by omega, h1, by omega⟩
    · rw [if_neg h1] at h; cases h
theorem atI_get {α : Type} {xs : List α} {i : Int} {v : α} (h : atI xs i = some v) : ∃ j, seqIndex? i xs.length = some j ∧ xs[j]? = some v ∧ j < xs.length ∧ -(xs.length : Int) ≤ i ∧ i < xs.length := by
  unfold atI at h
  cases e : ixN xs.length i with
  | none => rw [e] at h; cases h
  | some j =>
    rw [e] at h
    obtain ⟨h1, h2, h3, h4⟩ := ixN_seq e
    exact ⟨j, h1, h, h2, h3, h4⟩
theorem atI_nat {α : Type} {xs : List α} {j : Nat} {v : α} (h : xs[j]? = some v) : atI xs (j : Int) = some v := by
  have hj : j < xs.length := (List.getElem?_eq_some_iff.mp h).1
  have e : ixN xs.length (j : Int) = some j := by
    unfold ixN
    rw [if_pos (by omega), if_pos (by omega)]; simp
  unfold atI; rw [e]; exact h
def PlainIx (b : Expr) : Prop := ∀ o i, subscripted b false o i = operate [o, i] (getItem o i)
def IxR (X : Cx) (r : R2) : Prop :=
  ∀ (value slice : Expr) (pins : List (Addr × Obj)) (s : Shared) (σ : St) (H : Hp) (x y : V) (v u : Value) (Q : VK), Inv X pins σ H s → RelV x v → RelV y u → r x y H Q →
    subscripted slice false v u = operate [v, u] (getItem v u) → wpAny (model X.prog X.w) X.A (subscriptTail value slice v u) (EP X pins σ Q) X.xe s
def MtR (X : Cx) (id : String) (r : V → List V → Hp → VK → Prop) : Prop :=
  ∀ (pins : List (Addr × Obj)) (s : Shared) (σ : St) (H : Hp) (x : V) (xs : List V) (v : Value) (us : List Value) (Q : VK), Inv X pins σ H s → RelV x v → Vals xs us → r x xs H Q →
    wpAny (model X.prog X.w) X.A (call (.builtin id) (v :: us)) (EP X pins σ Q) X.xe s
section
variable {X : Cx} {a b : Expr} {ta tb : TE} {pos : Pos}
theorem pe_ix {r : R2} (hr : IxR X r) (ha : PE X a ta) (hb : PE X b tb) (hs : PlainIx b) : PE X (.Subscript a b pos) (tOp r ta tb) := by
  intro pins s σ H Q I h
  exact Subscript_ (binT ha hb I h fun v u s2 x y H2 I2 rx ry q => hr a b pins s2 σ H2 x y v u Q I2 rx ry q (hs _ _))
def rIxL (K : PySem.W.Frag) : R2 := fun x y H Q => ∃ p xs i v, x = .ref p ∧ y = .int i ∧ SqL K H p xs ∧ atI xs i = some v ∧ Q v H
def rIxT (K : PySem.W.Frag) : R2 := fun x y H Q => ∃ p xs i v, x = .ref p ∧ y = .int i ∧ SqT K H p xs ∧ atI xs i = some v ∧ Q v H
theorem ix_list : IxR X (rIxL X.K) := by
  intro value slice pins s σ H x y v u Q I rx ry h hs
  obtain ⟨p, xs, i, z, rfl, rfl, hq, he, q⟩ := h
  cases rx
  obtain ⟨t, rfl⟩ := ry
  obtain ⟨its, r, pl, hz⟩ := I.list hq
  obtain ⟨j, h1, h2, h3, h4, h5⟩ := atI_get he
  obtain ⟨w, ew, rw'⟩ := r.get h2
  have hl := r.length
  have hn := line63
  have fin : EP X pins σ Q w s := ⟨z, H, I, rw', q⟩
  by_cases h0 : 0 ≤ i
  · have hj : i.toNat = j := by
      rw [seqIndex_of h0 h5] at h1
      exact Option.some.inj h1
    exact item_listR pl.isList h0 (by omega) (by rw [hj]; simpa using ew) fin hs
  · have hj : (i + (its.toArray.size : Int)).toNat = j := by
      rw [seqIndex_neg (by omega) h4] at h1
      rw [List.size_toArray, ← hl]
      exact Option.some.inj h1
    exact subscriptTail_builtinR (x := w) pl.isList.typeIs slot_list_getitem.lookup
      (wpAny_getItem_list_neg (Q := fun r s' => r = w ∧ EP X pins σ Q r s') pl.isList (by omega) (by rw [List.size_toArray] <;> omega) (by omega) (by rw [hj]; simpa using ew) ⟨rfl, fin⟩) hs
theorem ix_tup : IxR X (rIxT X.K) := by
  intro value slice pins s σ H x y v u Q I rx ry h hs
  obtain ⟨p, xs, i, z, rfl, rfl, hq, he, q⟩ := h
  cases rx
  obtain ⟨t, rfl⟩ := ry
  obtain ⟨its, r, pl, hz⟩ := I.tuple hq
  obtain ⟨j, h1, h2, h3, h4, h5⟩ := atI_get he
  obtain ⟨w, ew, rw'⟩ := r.get h2
  have hl := r.length
  have hn := line63
  have fin : EP X pins σ Q w s := ⟨z, H, I, rw', q⟩
  exact subscriptTail_builtinR (x := w) pl.typeIs slot_tuple_getitem.lookup
    (getItem_tuple (j := j) (Q := fun r s' => r = w ∧ EP X pins σ Q r s') pl (by omega) (by omega) (by rw [List.size_toArray, ← hl]; exact h1) (by simpa using ew) ⟨rfl, fin⟩) hs
theorem mapSeq_set (its : List Value) (n j : Nat) (u : Value) : Obj.mapSeq (·.setIfInBounds j u) { cls := .type "list", data := .seq its.toArray n } = { cls := .type "list", data := .seq (its.set j u).toArray n } := by
  simp [Obj.mapSeq]
theorem Inv.lst {pins : List (Addr × Obj)} {σ : St} {H : Hp} {s : Shared} {p : Addr} {xs : List V} (I : Inv X pins σ H s) (h : H p = some (.lst xs)) :
    ∃ (its : List Value) (n : Nat), Vals xs its ∧ s.heap.get? p = some { cls := .type "list", data := .seq its.toArray n } ∧ xs.length ≤ sizeLine := by
  obtain ⟨z, its, n, r, e⟩ := I.hok p _ h
  exact ⟨its, n, r, e, z⟩
theorem Inv.lstUpd {pins : List (Addr × Obj)} {σ : St} {H : Hp} {s : Shared} {p : Addr} {xs ys : List V} {its its' : List Value} {n n' : Nat} {f : Obj → Obj} (I : Inv X pins σ H s) (h : H p = some (.lst xs))
    (ho : s.heap.get? p = some { cls := .type "list", data := .seq its.toArray n }) (hf : f { cls := .type "list", data := .seq its.toArray n } = { cls := .type "list", data := .seq its'.toArray n' }) (r : Vals ys its') (hz : ys.length ≤ sizeLine) (t : Nat) :
    Inv X pins σ (upd H p (.lst ys)) { s with heap := s.heap.update p f, toks := t } := by
  have e : (s.heap.update p f).get? p = some { cls := .type "list", data := .seq its'.toArray n' } := by
    rw [Heap.get?_update_self f ho (by rw [hf] <;> rfl), hf]
  refine I.write (x := p) (e := p) (by rw [h]; trivial) (.inl rfl) (fun b u hb q => (Heap.get?_update_other _ _ (Ne.symm hb)).trans q) ⟨_, e⟩ ?_
  exact ⟨hz, its', n', r, e⟩
def rSetL : V → V → V → Hp → (Hp → Prop) → Prop := fun o i v H Q => ∃ p xs k j, o = .ref p ∧ i = .int k ∧ H p = some (.lst xs) ∧ ixN xs.length k = some j ∧ Q (upd H p (.lst (xs.set j v)))
theorem set_list : PSet X rSetL := by
  intro pins s σ H o i v ov iv u Q I ro ri rv h
  obtain ⟨p, xs, k, j, rfl, rfl, hp, hj, q⟩ := h
  cases ro
  obtain ⟨t, rfl⟩ := ri
  obtain ⟨its, n, r, ho, hz⟩ := I.lst hp
  obtain ⟨h1, h2, h3, h4⟩ := ixN_seq hj
  have hl := r.length
  have hn := line63
  have I' : Inv X pins σ (upd H p (.lst (xs.set j v))) { s with heap := s.heap.update p (Obj.mapSeq (·.setIfInBounds j u)) } :=
    I.lstUpd hp ho (mapSeq_set its n j u) (r.set rv j) (by rw [List.length_set]; exact hz) s.toks
  by_cases h0 : 0 ≤ k
  · have hk : k.toNat = j := by
      rw [seqIndex_of h0 h4] at h1
      exact Option.some.inj h1
    exact PySem.W.ki_setAt ho h0 (by omega) (by rw [List.size_toArray, ← hl]; exact h4) (by rw [hk]; exact ⟨_, I', q⟩)
  · have hk : (k + (its.toArray.size : Int)).toNat = j := by
      rw [seqIndex_neg (by omega) h3] at h1
      rw [List.size_toArray, ← hl]
      exact Option.some.inj h1
    exact PySem.W.ki_setBack ho (by omega) (by rw [List.size_toArray, ← hl]; exact h3) (by omega) (by rw [hk]; exact ⟨_, I', q⟩)
theorem slice_bounds (lo hi : Option Int) (n : Nat) : (sliceBounds lo hi none n).1 = ((HT.sIx n 0 lo : Nat) : Int) ∧ (sliceBounds lo hi none n).2.1 = ((HT.sIx n n hi : Nat) : Int) ∧ (sliceBounds lo hi none n).2.2 = 1 := by
  refine ⟨?_, ?_, rfl⟩
  · cases lo with
    | none => simp [sliceBounds, HT.sIx]
    | some i =>
      simp only [sliceBounds, HT.sIx, Option.getD_none, show (1 : Int) > 0 by decide, if_true]
      by_cases h : i < 0
      · simp only [h, if_true] <;> omega
      · simp only [h, if_false] <;> omega
  · cases hi with
    | none => simp [sliceBounds, HT.sIx]
    | some i =>
      simp only [sliceBounds, HT.sIx, Option.getD_none, show (1 : Int) > 0 by decide, if_true]
      by_cases h : i < 0
      · simp only [h, if_true] <;> omega
      · simp only [h, if_false] <;> omega
theorem slicePick_cut (its : List Value) (lo hi : Option Int) : slicePick its.toArray lo hi none = ((its.drop (HT.sIx its.length 0 lo)).take (HT.sIx its.length its.length hi - HT.sIx its.length 0 lo)).toArray := by
  obtain ⟨h1, h2, h3⟩ := slice_bounds lo hi its.toArray.size
  unfold slicePick
  rw [h1, h2, h3]
  simp only [sliceRange_one, pick_run, List.size_toArray] <;> rfl
def rSlL (K : PySem.W.Frag) : V → Option Int → Option Int → Hp → VK → Prop := fun x lo hi H Q => ∃ a xs, x = .ref a ∧ SqL K H a xs ∧ ∀ p, H p = none → Q (.ref p) (upd H p (.lst (cutV xs lo hi)))
theorem sl_list : SlR X (rSlL X.K) := by
  intro pins s σ H x v vl vu lo hi sl Q I rx hs pl pu h
  obtain ⟨a, xs, rfl, hx, q⟩ := h
  cases rx
  obtain ⟨its, r, ht, hz⟩ := I.list hx
  have hlen := r.length
  refine ⟨"list", _, slot_list_getitem.lookup, ht.isList.typeIs, ?_⟩
  refine wpAny_getItem_list_slice ht.isList hs pl pu .none (by simp) ?_ (by rw [List.size_toArray] <;> omega)
  rw [slicePick_cut, ← hlen]
  refine ⟨.ref s.heap.objs.size, _, I.laid (t' := s.toks) (o := .lst (cutV xs lo hi)) (fun b ob q => Heap.get?_push_of_some _ q) (Nat.le_refl _) ?_, rfl, q _ (I.hok.fresh (Nat.le_refl _))⟩
  exact ⟨Nat.le_trans (cutV_length xs lo hi) hz, _, 0, (r.drop (HT.sIx xs.length 0 lo)).take (HT.sIx xs.length xs.length hi - HT.sIx xs.length 0 lo), Heap.get?_push_size _ rfl⟩
def flatV : V → Bool
  | .non => true
  | .bl _ => true
  | .int _ => true
  | .str _ => true
  | _ => false
def eqV : V → V → Bool
  | .non, .non => true
  | .bl a, .bl b => a == b
  | .bl a, .int b => (if a then 1 else 0) == b
  | .int a, .bl b => a == (if b then 1 else 0)
  | .int a, .int b => a == b
  | .str a, .str b => a == b
  | _, _ => false
theorem eqAt_V {A : Around} {s : Shared} {y x : V} {u v : Value} (ry : RelV y u) (rx : RelV x v) (fy : flatV y = true) (fx : flatV x = true) : SeqAt.EqAt A s u v (eqV y x) := by
  cases y with
  | non =>
    cases ry
    cases x with
    | non => cases rx; exact SeqAt.EqAt.same _
    | bl b => cases rx; exact SeqAt.EqAt.none_bool b
    | int b => obtain ⟨t, rfl⟩ := rx; exact SeqAt.EqAt.none_int b t
    | str b => obtain ⟨t, rfl⟩ := rx; exact SeqAt.EqAt.none_str b t
    | _ => exact absurd (show false = true from fx) Bool.false_ne_true
  | bl a =>
    cases ry
    cases x with
    | non => cases rx; exact SeqAt.EqAt.bool_none a
    | bl b => cases rx; exact SeqAt.EqAt.bool_bool a b
    | int b => obtain ⟨t, rfl⟩ := rx; exact SeqAt.EqAt.bool_int a b t
    | str b => obtain ⟨t, rfl⟩ := rx; exact SeqAt.EqAt.bool_str a b t
    | _ => exact absurd (show false = true from fx) Bool.false_ne_true
  | int a =>
    obtain ⟨t', rfl⟩ := ry
    cases x with
    | non => cases rx; exact SeqAt.EqAt.int_none a t'
    | bl b => cases rx; exact SeqAt.EqAt.int_bool a t' b
    | int b => obtain ⟨t, rfl⟩ := rx; exact SeqAt.EqAt.int_int a t' b t
    | str b => obtain ⟨t, rfl⟩ := rx; exact SeqAt.EqAt.int_str a t' b t
    | _ => exact absurd (show false = true from fx) Bool.false_ne_true
  | str a =>
    obtain ⟨t', rfl⟩ := ry
    cases x with
    | non => cases rx; exact SeqAt.EqAt.str_none a t'
    | bl b => cases rx; exact SeqAt.EqAt.str_bool a t' b
    | int b => obtain ⟨t, rfl⟩ := rx; exact SeqAt.EqAt.str_int a t' b t
    | str b => obtain ⟨t, rfl⟩ := rx; exact SeqAt.EqAt.str_str a t' b t
    | _ => exact absurd (show false = true from fx) Bool.false_ne_true
  | _ => exact absurd (show false = true from fy) Bool.false_ne_true
def eqU (x : V) (u : Value) : Bool := match u with
  | .none => eqV .non x
  | .bool b => eqV (.bl b) x
  | .int i _ => eqV (.int i) x
  | .str z _ => eqV (.str z) x
  | _ => false
theorem eqU_of {x y : V} {u : Value} (r : RelV y u) (f : flatV y = true) : eqU x u = eqV y x := by
  cases y with
  | non => cases r; rfl
  | bl b => cases r; rfl
  | int i => obtain ⟨t, rfl⟩ := r; rfl
  | str z => obtain ⟨t, rfl⟩ := r; rfl
  | _ => exact absurd (show false = true from f) Bool.false_ne_true
theorem any_eqU {x : V} : ∀ {xs : List V} {us : List Value}, Vals xs us → xs.all flatV = true → us.any (eqU x) = xs.any fun y => eqV y x
  | _, _, .nil, _ => rfl
  | y :: xs, u :: us, .cons r t, f => by
    rw [List.all_cons, Bool.and_eq_true] at f
    rw [List.any_cons, List.any_cons, eqU_of r f.1, any_eqU t f.2]
theorem mem_eqAt {A : Around} {s : Shared} {x : V} {v : Value} (rx : RelV x v) (fx : flatV x = true) : ∀ {xs : List V} {us : List Value}, Vals xs us → xs.all flatV = true → ∀ u ∈ us, SeqAt.EqAt A s u v (eqU x u)
  | _, _, .nil, _ => fun u hu => by cases hu
  | y :: xs, u :: us, .cons r t, f => fun u' hu => by
    rw [List.all_cons, Bool.and_eq_true] at f
    rcases List.mem_cons.mp hu with rfl | hu
    · rw [eqU_of r f.1]; exact eqAt_V r rx f.1 fx
    · exact mem_eqAt rx fx t f.2 u' hu
def inV (x : V) (xs : List V) : Bool := xs.any fun y => eqV y x
def rIn (K : PySem.W.Frag) (neg : Bool) : R2 := fun x y H Q => ∃ p xs, y = .ref p ∧ (SqL K H p xs ∨ SqT K H p xs) ∧ flatV x = true ∧ xs.all flatV = true ∧ Q (.bl (if neg then !inV x xs else inV x xs)) H
theorem op_in_seq : OpR X (compareOp .In) (rIn X.K false) := by
  intro pins s σ H x y v u Q I rx ry h
  obtain ⟨p, xs, rfl, hq, fx, fs, q⟩ := h
  cases ry
  rcases hq with hq | hq
  · obtain ⟨its, r, pl, hz⟩ := I.list hq
    refine SeqAt.in_listAt (eqU x) pl.isList (fun w hw => mem_eqAt rx fx r fs w (by simpa using hw)) ⟨.bl _, H, I, rfl, ?_⟩
    rw [show its.toArray.any (eqU x) = its.any (eqU x) by simp, any_eqU r fs]
    exact q
  · obtain ⟨its, r, pl, hz⟩ := I.tuple hq
    refine SeqAt.in_tupleAt (eqU x) pl (fun w hw => mem_eqAt rx fx r fs w (by simpa using hw)) ⟨.bl _, H, I, rfl, ?_⟩
    rw [show its.toArray.any (eqU x) = its.any (eqU x) by simp, any_eqU r fs]
    exact q
theorem op_notIn_seq : OpR X (compareOp .NotIn) (rIn X.K true) := by
  intro pins s σ H x y v u Q I rx ry h
  obtain ⟨p, xs, rfl, hq, fx, fs, q⟩ := h
  cases ry
  rcases hq with hq | hq
  · obtain ⟨its, r, pl, hz⟩ := I.list hq
    refine SeqAt.notIn_listAt (eqU x) pl.isList (fun w hw => mem_eqAt rx fx r fs w (by simpa using hw)) ⟨.bl _, H, I, rfl, ?_⟩
    rw [show its.toArray.any (eqU x) = its.any (eqU x) by simp, any_eqU r fs]
    exact q
  · obtain ⟨its, r, pl, hz⟩ := I.tuple hq
    refine SeqAt.notIn_tupleAt (eqU x) pl (fun w hw => mem_eqAt rx fx r fs w (by simpa using hw)) ⟨.bl _, H, I, rfl, ?_⟩
    rw [show its.toArray.any (eqU x) = its.any (eqU x) by simp, any_eqU r fs]
    exact q
theorem call_len_seq : CallR X (.builtin "len") (fun xs H Q => ∃ p ys, xs = [.ref p] ∧ (SqL X.K H p ys ∨ SqT X.K H p ys) ∧ Q (.int ys.length) H) := by
  intro pins s σ H xs us Q I r h
  obtain ⟨p, ys, rfl, hq, q⟩ := h
  obtain ⟨u, rfl, rx⟩ := vals1 r
  cases rx
  have hn := line63
  rcases hq with hq | hq
  · obtain ⟨its, r', pl, hz⟩ := I.list hq
    have hlen := r'.length
    exact Calls.call_len_list pl.isList (by simp only [List.size_toArray] <;> omega) ⟨.int ys.length, H, I.tok _, ⟨s.toks + 1, by rw [List.size_toArray, hlen]⟩, q⟩
  · obtain ⟨its, r', pl, hz⟩ := I.tuple hq
    have hlen := r'.length
    exact len_tuple pl (by simp only [List.size_toArray] <;> omega) ⟨.int ys.length, H, I.tok _, ⟨s.toks + 1, by rw [List.size_toArray, hlen]⟩, q⟩
def tyV (K : PySem.W.Frag) (T : String) (x : V) (H : Hp) : Prop := match x with
  | .str _ => T = "str"
  | .int _ => T = "int"
  | .ref p => (T = "list" ∧ ∃ xs, SqL K H p xs) ∨ (T = "tuple" ∧ ∃ o, K.lookup p = some o ∧ o.cls = .type "tuple" ∧ o.dict = none) ∨
      (T = "dict" ∧ ((∃ kvs, H p = some (.dK kvs)) ∨ ∃ kvs, H p = some (.dT kvs))) ∨ (T = "set" ∧ ∃ S n, H p = some (.set S n))
  | _ => False
theorem tyV_is {pins : List (Addr × Obj)} {σ : St} {H : Hp} {s : Shared} {T : String} {x : V} {v : Value} (I : Inv X pins σ H s) (r : RelV x v) (ty : tyV X.K T x H) :
    s.TypeIs v T ∧ ∀ a, v = .ref a → ∃ ob, s.heap.get? a = some ob ∧ ob.dict = none := by
  cases x with
  | str z =>
    obtain ⟨t, rfl⟩ := r
    cases (show T = "str" from ty)
    exact ⟨typeIs_str s z t, fun _ e => nomatch e⟩
  | int i =>
    obtain ⟨t, rfl⟩ := r
    cases (show T = "int" from ty)
    exact ⟨typeIs_int s i t, fun _ e => nomatch e⟩
  | ref p =>
    cases r
    rcases ty with ⟨rfl, xs, hq⟩ | ⟨rfl, o, hk, hc, hd⟩ | ⟨rfl, hk⟩ | ⟨rfl, S, n, hk⟩
    · obtain ⟨its, _, pl, _⟩ := I.list hq
      refine ⟨pl.isList.typeIs, fun a e => ?_⟩
      cases e
      obtain ⟨o, n, e, c, hd, _⟩ := pl
      exact ⟨o, e, hd⟩
    · refine ⟨⟨o, I.kIn p o hk, hc⟩, fun a e => ?_⟩
      cases e
      exact ⟨o, I.kIn _ o hk, hd⟩
    · have z : ∃ o, s.heap.get? p = some o ∧ o.ExactDict := by
        rcases hk with ⟨kvs, hk⟩ | ⟨kvs, hk⟩
        · obtain ⟨_, _, _, _, o, _, _, e, ex, _⟩ := I.hok p _ hk
          exact ⟨o, e, ex⟩
        · obtain ⟨_, _, _, _, o, _, _, e, ex, _⟩ := I.hok p _ hk
          exact ⟨o, e, ex⟩
      obtain ⟨o, e, ex⟩ := z
      refine ⟨⟨o, e, ex.1⟩, fun a e2 => ?_⟩
      cases e2
      exact ⟨o, e, ex.2.1⟩
    · obtain ⟨o, _, _, _, e, ex, _⟩ := I.hok p _ hk
      refine ⟨⟨o, e, ex.1⟩, fun a e2 => ?_⟩
      cases e2
      exact ⟨o, e, ex.2.1⟩
  | _ => exact False.elim ty
def tBM (K : PySem.W.Frag) (T : String) (r : V → List V → Hp → VK → Prop) (to : TE) (t : TA) : TE := fun σ H Q => to σ H fun x H1 => tyV K T x H1 ∧ t σ H1 fun xs H2 => r x xs H2 Q
variable {o e : Expr} {es : List Expr} {to : TE} {t : TA} {name : Str} {apos cpos : Pos} {T id : String} {r : V → List V → Hp → VK → Prop}
theorem pe_bm (pa : PlainAttrs T) (slot : Slot T name id) (hty : typeOf (.builtin id) = pure (.type "method_descriptor")) (hm : MtR X id r) (ho : PE X o to) (ha : PA X (e :: es) t)
    (hbase : attributeBase o name X.env (eval o X.env) = eval o X.env := by rfl)
    (hfew : ((backTo cpos (starEach (e :: es) X.env)).all (fun x => !x.1) && (backToKw cpos (keywordEach [] X.env)).all (fun x => x.1.isSome)
      && decide ((e :: es).length + ([] : List Keyword).length + (if ([] : List Keyword).isEmpty then 0 else 1) < 30)) = true := by rfl)
    (hline : (apos.endLine == cpos.line) = true := by rfl) (hs : starEach (e :: es) X.env = (false, eval e X.env) :: starEach es X.env := by rfl) (hplain : (backTo cpos (starEach es X.env)).any (·.1) = false := by rfl) :
    PE X (.Call (.Attribute o name apos) (e :: es) [] cpos) (tBM X.K T r to t) := by
  intro pins s σ H Q I h
  refine wpAny_Call_method_late hbase hfew hline rfl (thn (ho pins s σ H _ I h) fun v s1 ⟨x, H1, I1, r1, ty, q1⟩ => ?_)
  obtain ⟨h1, h2⟩ := tyV_is I1 r1 ty
  refine ⟨T, id, pa, slot, hty, h1, h2, ?_⟩
  have hA := ha cpos pins s1 σ H1 _ I1 q1
  rw [hs] at hA ⊢
  refine Calls.callWith_builtin (by show (false || (backTo cpos (starEach es X.env)).any (·.1)) = false; rw [hplain] <;> rfl) (Calls.evalArgs_plain ?_)
  exact thn hA fun us s2 ⟨vs, H2, I2, r2, q2⟩ => hm pins s2 σ H2 x vs v us Q I2 r1 r2 q2
end
end L2
namespace L2
open PySem PySem.Spec PyProof.Rows
def MtM (X : Cx) (id : String) (r : V → List V → Hp → VK → Prop) : Prop :=
  ∀ (pins : List (Addr × Obj)) (s : Shared) (σ : St) (H : Hp) (x : V) (xs : List V) (v : Value) (us : List Value) (Q : VK), Inv X pins σ H s → RelV x v → Vals xs us → r x xs H Q →
    wpAny (model X.prog X.w) X.A (call (.builtin id) (v :: us)) (EP X pins σ Q) X.xe s
theorem Vals.one : ∀ {x : V} {us : List Value}, Vals [x] us → ∃ u, us = [u] ∧ RelV x u
  | _, _, .cons r .nil => ⟨_, rfl, r⟩
theorem Vals.rep {xs : List V} {us : List Value} (h : Vals xs us) : ∀ k : Nat, Vals (List.replicate k xs).flatten (List.replicate k us).flatten
  | 0 => .nil
  | k + 1 => by
    rw [List.replicate_succ, List.replicate_succ, List.flatten_cons, List.flatten_cons]
    exact Vals.append h (Vals.rep h k)
theorem foldl_rep (its : List Value) : ∀ (k : Nat) (acc : List Value),
    List.foldl (fun x1 x2 => x1 ++ x2) acc.toArray (List.replicate k its.toArray) = (acc ++ (List.replicate k its).flatten).toArray
  | 0, acc => by simp
  | k + 1, acc => by
    have e : acc.toArray ++ its.toArray = (acc ++ its).toArray := by simp
    have e2 : (acc ++ its) ++ (List.replicate k its).flatten = acc ++ (List.replicate (k + 1) its).flatten := by
      rw [List.replicate_succ, List.flatten_cons, List.append_assoc]
    rw [← e2, ← foldl_rep its k (acc ++ its), ← e, List.replicate_succ, List.foldl_cons]
section
variable {X : Cx} {pins : List (Addr × Obj)} {σ : St} {H : Hp} {s : Shared} {l b : Addr} {xs ys zs : List V}
theorem Inv.lset {its its' : List Value} {n : Nat} {f : Array Value → Array Value} {t' : Nat} (I : Inv X pins σ H s) (hH : H l = some (.lst xs))
    (e : s.heap.get? l = some { cls := .type "list", data := .seq its.toArray n }) (hf : f its.toArray = its'.toArray) (hv : Vals ys its') (hz : ys.length ≤ sizeLine) :
    Inv X pins σ (upd H l (.lst ys)) { s with heap := s.heap.update l (Obj.mapSeq f), toks := t' } := by
  have q := PySem.IsL.update e f
  rw [hf] at q
  refine I.write (x := l) (e := l) (by rw [hH]; exact trivial) (.inl rfl) (fun b' u hb hu => (Heap.get?_update_other s.heap (Obj.mapSeq f) (Ne.symm hb)).trans hu) ⟨_, q⟩ ?_
  exact ⟨hz, its', _, hv, q⟩
theorem Inv.lnew {its : List Value} {t' : Nat} (I : Inv X pins σ H s) (hv : Vals ys its) (hz : ys.length ≤ sizeLine) :
    Inv X pins σ (upd H s.heap.objs.size (.lst ys)) { s with heap := s.heap.push { cls := .type "list", data := .seq its.toArray }, toks := t' } :=
  I.laid (fun _ _ q => Heap.get?_push_of_some _ q) (Nat.le_refl _) ⟨hz, its, 0, hv, Heap.get?_push_size _ rfl⟩
theorem Inv.fresh (I : Inv X pins σ H s) : H s.heap.objs.size = none := I.hok.fresh (Nat.le_refl _)
theorem Inv.lstM (I : Inv X pins σ H s) (hH : H l = some (.lst xs)) : xs.length ≤ sizeLine ∧ ∃ (its : List Value) (n : Nat), Vals xs its ∧ xs.length = its.length ∧ s.heap.get? l = some { cls := .type "list", data := .seq its.toArray n } := by
  obtain ⟨z, its, n, r, e⟩ := I.hok l _ hH
  exact ⟨z, its, n, r, r.length, e⟩
theorem notLongL {n : Nat} (h : n ≤ sizeLine) : Builtin.List.listTooLong n = false := by
  unfold Builtin.List.listTooLong
  exact decide_eq_false (by omega)
end
section
variable {X : Cx}
def rAppend : V → List V → Hp → VK → Prop := fun x vs H Q => ∃ l xs y, x = .ref l ∧ vs = [y] ∧ H l = some (.lst xs) ∧ xs.length < sizeLine ∧ Q .non (upd H l (.lst (xs ++ [y])))
theorem mt_append : MtM X "list.append" rAppend := by
  intro pins s σ H x vs v us Q I rx rv h
  obtain ⟨l, xs, y, rfl, rfl, hH, hz, q⟩ := h
  cases rx
  obtain ⟨u, rfl, ru⟩ := rv.one
  obtain ⟨z, its, n, r, hl, e⟩ := I.lstM hH
  refine call_meets F.slot_list_append ⟨_, e, rfl⟩ F.entry_list_append (F.args_list_append_2 _ _) (PySem.list_append l its.toArray n u (by rw [List.size_toArray]; omega)) ⟨e, ?_⟩
  refine ⟨.non, _, I.lset (its' := its ++ [u]) hH e (by simp) (r.append (.cons ru .nil)) ?_, rfl, q⟩
  rw [List.length_append, List.length_singleton]
  omega
def rExtend : V → List V → Hp → VK → Prop := fun x vs H Q => ∃ l b xs zs, x = .ref l ∧ vs = [.ref b] ∧ H l = some (.lst xs) ∧ H b = some (.lst zs) ∧ xs.length + zs.length ≤ sizeLine ∧ Q .non (upd H l (.lst (xs ++ zs)))
theorem mt_extend : MtM X "list.extend" rExtend := by
  intro pins s σ H x vs v us Q I rx rv h
  obtain ⟨l, b, xs, zs, rfl, rfl, hH, hB, hz, q⟩ := h
  cases rx
  obtain ⟨u, rfl, ru⟩ := rv.one
  cases ru
  obtain ⟨z, its, n, r, hl, e⟩ := I.lstM hH
  obtain ⟨z2, its2, n2, r2, hl2, e2⟩ := I.lstM hB
  have hsz : its.toArray.size + its2.toArray.size ≤ sizeLine := by rw [List.size_toArray, List.size_toArray]; omega
  have hlong : ¬ (!its.toArray.isEmpty && Builtin.List.listTooLong (its.toArray.size + its2.toArray.size)) = true := by
    rw [notLongL hsz, Bool.and_false]
    exact Bool.false_ne_true
  refine call_meets F.slot_list_extend ⟨_, e, rfl⟩ F.entry_list_extend (F.args_list_extend_2 _ _)
    (AutoSeq1.list_extend_list_list_0 l its.toArray n b its2.toArray n2 hlong (by rw [List.size_toArray]; omega) (by omega)) ⟨e, e2, ?_⟩
  refine ⟨.non, _, I.lset (its' := its ++ its2) hH e (by simp) (r.append r2) ?_, rfl, q⟩
  rw [List.length_append]
  omega
def rCat : R2 := fun x y H Q => ∃ l b xs zs, x = .ref l ∧ y = .ref b ∧ H l = some (.lst xs) ∧ H b = some (.lst zs) ∧ xs.length + zs.length ≤ sizeLine ∧ ∀ p, H p = none → Q (.ref p) (upd H p (.lst (xs ++ zs)))
theorem op_cat : OpR X (binaryOp .Add) rCat := by
  intro pins s σ H x y v u Q I rx ry h
  obtain ⟨l, b, xs, zs, rfl, rfl, hH, hB, hz, q⟩ := h
  cases rx
  cases ry
  obtain ⟨z, its, n, r, hl, e⟩ := I.lstM hH
  obtain ⟨z2, its2, n2, r2, hl2, e2⟩ := I.lstM hB
  refine PySem.P.add_list e e2 ?_ (by rw [List.size_toArray, List.size_toArray]; omega)
  have ea : its.toArray ++ its2.toArray = (its ++ its2).toArray := by simp
  rw [ea]
  exact ⟨.ref _, _, I.lnew (t' := s.toks) (r.append r2) (by rw [List.length_append]; omega), rfl, q _ I.fresh⟩
def rRep : R2 := fun x y H Q => ∃ l k xs, x = .ref l ∧ y = .int k ∧ H l = some (.lst xs) ∧ -(2 ^ 63) ≤ k ∧ k < 2 ^ 63 ∧ xs.length * k.toNat ≤ sizeLine ∧
  ∀ p, H p = none → Q (.ref p) (upd H p (.lst (List.replicate k.toNat xs).flatten))
theorem len_rep {α : Type} (xs : List α) (k : Nat) : (List.replicate k xs).flatten.length = k * xs.length := by
  induction k with
  | zero => simp
  | succ k ih => rw [List.replicate_succ, List.flatten_cons, List.length_append, ih, Nat.succ_mul, Nat.add_comm]
theorem op_rep : OpR X (binaryOp .Mult) rRep := by
  intro pins s σ H x y v u Q I rx ry h
  obtain ⟨l, k, xs, rfl, rfl, hH, h1, h2, hz, q⟩ := h
  cases rx
  obtain ⟨t, rfl⟩ := ry
  obtain ⟨z, its, n, r, hl, e⟩ := I.lstM hH
  have hlen : its.toArray.size * k.toNat ≤ sizeLine := by rw [List.size_toArray, ← hl]; exact hz
  have hcap : ¬ its.toArray.size * k.toNat > (2 ^ 63 - 1) / 8 := by
    have : (sizeLine : Nat) ≤ (2 ^ 63 - 1) / 8 := by decide
    omega
  have hfit : ¬ (!Builtin.List.listFitsIndex k) = true := by
    rw [fitsIndex_both h1 h2]
    exact Bool.false_ne_true
  have hlong : ¬ Builtin.List.listTooLong (its.toArray.size * k.toNat) = true := by
    rw [notLongL hlen]
    exact Bool.false_ne_true
  have hnew : List.foldl (fun x1 x2 => x1 ++ x2) #[] (List.replicate (if its.toArray.isEmpty = true then 0 else k.toNat) its.toArray) = (List.replicate k.toNat its).flatten.toArray := by
    have f0 : ∀ m : Nat, List.foldl (fun x1 x2 => x1 ++ x2) #[] (List.replicate m its.toArray) = (List.replicate m its).flatten.toArray := fun m => by
      have := foldl_rep its m []
      rw [List.nil_append] at this
      exact this
    rw [f0]
    cases its with
    | nil => simp
    | cons a r' => rw [if_neg (by simp)]
  refine wpAny_binaryOp_repeat_ref (T := "list") (U := "int") (by decide) ⟨_, e, rfl⟩ (fun s' => typeIs_int s' k t) noFill_list_mul F.fills_int_mul F.slot_int_rmul repeat_list F.slot_int_index.lookup
    (call_meets F.slot_int_rmul (typeIs_int s k t) F.entry_int_rmul (F.args_int_rmul_2 _ _) (int___rmul___int_list k t l its.toArray n)
      ⟨e, rfl, ⟨_, e, rfl⟩, call_meets F.slot_list_mul ⟨_, e, rfl⟩ F.entry_list_mul (F.args_list_mul_2 _ _) (AutoListH.list___mul___list_int_3 l its.toArray n k t hfit hcap hlong) ⟨e, ?_⟩⟩)
  rw [hnew]
  exact ⟨.ref _, _, I.lnew (t' := s.toks) (r.rep k.toNat) (by rw [len_rep, Nat.mul_comm]; exact hz), rfl, q _ I.fresh⟩
end
section
variable {prog : Program} {w : World} {A : Around} {E : Value → Shared → Prop} {s : Shared}
end
section
variable {X : Cx}
end
end L2
namespace L2
open PySem PySem.Spec PyProof.Rows
theorem Vals.ints : ∀ {ns : List Int} {us : List Value}, Vals (ns.map V.int) us → IntsAre us ns
  | [], us, h => by
    rw [List.map_nil] at h
    cases h
    exact IntsAre.nil
  | n :: ns, us, h => by
    rw [List.map_cons] at h
    cases h with
    | cons r t =>
      obtain ⟨k, rfl⟩ := r
      exact IntsAre.cons n k (Vals.ints t)
theorem vals_of_ints : ∀ {us : List Value} {ns : List Int}, IntsAre us ns → Vals (ns.map V.int) us
  | _, _, .nil => by rw [List.map_nil]; exact Paired.nil
  | _, _, .cons n t h => by rw [List.map_cons]; exact Paired.cons (show RelV (V.int n) (Value.int n t) from ⟨t, rfl⟩) (vals_of_ints h)
theorem Vals.bls : ∀ {bs : List Bool} {us : List Value}, Vals (bs.map V.bl) us → us = bs.map Value.bool
  | [], us, h => by
    rw [List.map_nil] at h
    cases h
    rfl
  | b :: bs, us, h => by
    rw [List.map_cons] at h
    cases h with
    | cons r t =>
      cases r
      rw [Vals.bls t, List.map_cons]
theorem Vals.ref1 {a : Addr} {us : List Value} (r : Vals [V.ref a] us) : us = [Value.ref a] := by
  cases r with
  | cons r t =>
    cases t
    cases r
    rfl
section
variable {prog : Program} {w : World} {A : Around} {E : Value → Shared → Prop} {s : Shared} {l : Addr} {its : List Value} {ns : List Int} {Q : Value → Shared → Prop}
theorem sum_raw (hh : A.handled = none) (hl : s.heap.IsList l its.toArray) (hi : IntsAre its ns)
    (h : ∀ h' tk t', (∀ b o, s.heap.get? b = some o → h'.get? b = some o) → Q (.int ns.sum t') { s with heap := h', toks := tk }) : wpAny (model prog w) A (call (.builtin "sum") [.ref l]) Q E s := by
  obtain ⟨xs, e⟩ := hi.allInts.items
  have hn : numsOf (intItems xs).toList = ns := by rw [← e]; exact hi.numsOf
  rw [nums_intItems] at hn
  rw [e] at hl
  refine PySem.sum_intListG hh hl fun h' tk t' hk => ?_
  have := h h' tk t' hk
  rw [preSum_eq, List.take_of_length_le (by simp), hn]; exact this
end
section
variable {X : Cx}
def rSum (K : PySem.W.Frag) : List V → Hp → VK → Prop := fun vs H Q => ∃ (a : Addr) (ns : List Int), vs = [V.ref a] ∧ SqL K H a (ns.map V.int) ∧ Q (.int ns.sum) H
theorem cr_sum (hc : X.calm = true) : CallR X (.builtin "sum") (rSum X.K) := by
  intro pins s σ H vs us Q I r h
  obtain ⟨a, ns, rfl, hs, q⟩ := h
  obtain ⟨its, rv, hl, _⟩ := I.list hs
  rw [Vals.ref1 r]
  exact sum_raw (I.ok.hd hc) hl.isList rv.ints fun h' tk t' hk => ⟨.int _, H, I.kept hk, ⟨_, rfl⟩, q⟩
end
section
variable {X : Cx}
end
section
variable {X : Cx}
end
theorem iter_any {prog : Program} {w : World} {A : Around} {E : Value → Shared → Prop} {s : Shared} {l : Addr} {items : Array Value} {Q : Value → Shared → Prop} (hl : s.heap.IsList l items)
    (h : ∀ s₂ : Shared, s₂ = { s with heap := s.heap.push { cls := .type "list_iterator", data := .fields #[.ref l, .int 0 0] } } →
      (s₂.heap.IsListIter s.heap.objs.size l 0 ∧ s₂.heap.IsList l items) → l ≠ s.heap.objs.size → Q (.ref s.heap.objs.size) s₂) : wpAny (model prog w) A (pyIter (.ref l)) Q E s := by
  have hlt : l < s.heap.objs.size := by obtain ⟨_, e, _⟩ := hl; exact Heap.lt_size e
  exact wpAny_pyIter_list hl (h _ rfl ⟨⟨_, Heap.get?_push_size _ rfl, rfl, rfl⟩, hl.push _⟩ (Nat.ne_of_lt hlt))
theorem truth_bools {prog : Program} {w : World} {A : Around} {bs : List Bool} {its : List Value} (e : its = bs.map Value.bool) :
    TruthOf prog w A (fun i v => its.toArray[i]? = some v) (fun i => bs.getD i false) := fun i v s Q E hv hq => by
  have hv' : its[i]? = some v := by simpa using hv
  rw [e, List.getElem?_map] at hv'
  obtain ⟨b, hb, rfl⟩ := Option.map_eq_some_iff.mp hv'
  have hg : bs.getD i false = b := by rw [List.getD_eq_getElem?_getD, hb] <;> rfl
  have hq' : Q (bs.getD i false) s := hq
  rw [hg] at hq'
  exact wpAny_truthy_bool hq'
theorem all_range : ∀ bs : List Bool, (List.range bs.length).all (fun i => bs.getD i false) = bs.all id
  | [] => rfl
  | b :: bs => by
    rw [List.length_cons, List.range_succ_eq_map, List.all_cons, List.all_map, List.all_cons, ← all_range bs]
    all_goals rfl
section
variable {X : Cx}
def rAll (K : PySem.W.Frag) : List V → Hp → VK → Prop := fun vs H Q => ∃ (a : Addr) (bs : List Bool), vs = [V.ref a] ∧ SqL K H a (bs.map V.bl) ∧ Q (.bl (bs.all id)) H
theorem cr_all (hc : X.calm = true) : CallR X (.builtin "all") (rAll X.K) := by
  intro pins s σ H vs us Q I r h
  obtain ⟨a, bs, rfl, hs, q⟩ := h
  obtain ⟨its, rv, hl, _⟩ := I.list hs
  rw [Vals.ref1 r]
  have hb := rv.bls
  refine call_all_walk (iter_any hl.isList fun s₂ e2 st hne => ?_)
  subst e2
  refine ⟨_, _, _, _, _, _, _, rfl, Walks.list (A := X.A.in1) (I.ok.hd hc) _ a hne its.toArray, st, truth_bools hb, fun h' tk hk => ?_⟩
  refine ⟨.bl _, H, I.kept fun b o eo => hk b o (fun hmem => ?_) (Heap.get?_push_of_some _ eo), ?_, q⟩
  · rcases List.mem_cons.mp hmem with e1 | hmem
    · exact absurd (e1 ▸ Heap.lt_size eo) (Nat.lt_irrefl _)
    · cases hmem
  · show Value.bool _ = Value.bool _
    rw [← all_range, hb, List.size_toArray, List.length_map]
end
mutual
inductive Dp (K : PySem.W.Frag) (H : Hp) : V → PyData → Prop
  | non : Dp K H .non .none
  | bl (b : Bool) : Dp K H (.bl b) (.bool b)
  | int (i : Int) : Dp K H (.int i) (.int i)
  | str (x : Str) : Dp K H (.str x) (.str x)
  | lst {a : Addr} {xs : List V} {ds : List PyData} : SqL K H a xs → DpAll K H xs ds → Dp K H (.ref a) (.list ds)
  | tup {a : Addr} {xs : List V} {ds : List PyData} : SqT K H a xs → DpAll K H xs ds → Dp K H (.ref a) (.tuple ds)
inductive DpAll (K : PySem.W.Frag) (H : Hp) : List V → List PyData → Prop
  | nil : DpAll K H [] []
  | cons {v : V} {vs : List V} {d : PyData} {ds : List PyData} : Dp K H v d → DpAll K H vs ds → DpAll K H (v :: vs) (d :: ds)
end
section
variable {X : Cx} {pins : List (Addr × Obj)} {σ : St} {H : Hp} {s : Shared}
mutual
theorem Dp.reads (I : Inv X pins σ H s) : ∀ (d : PyData) (v : V) (u : Value), Dp X.K H v d → RelV v u → ∃ as, Reads s.heap u d as
  | .none, _, _, h, r => by
    cases h
    cases r
    exact ⟨_, Reads.none⟩
  | .bool b, _, _, h, r => by
    cases h
    cases r
    exact ⟨_, Reads.bool b⟩
  | .int i, _, _, h, r => by
    cases h
    obtain ⟨t, rfl⟩ := r
    exact ⟨_, Reads.int i t⟩
  | .str x, _, _, h, r => by
    cases h
    obtain ⟨t, rfl⟩ := r
    exact ⟨_, Reads.str x t⟩
  | .list ds, _, _, h, r => by
    cases h with
    | lst hs ha =>
      cases r
      obtain ⟨its, rv, ⟨o, n, ho, hc, _, hd⟩, _⟩ := I.list hs
      obtain ⟨as, hr⟩ := Dp.readsAll I ds _ its ha rv
      exact ⟨_, Reads.list ho hc hd hr⟩
  | .tuple ds, _, _, h, r => by
    cases h with
    | tup hs ha =>
      cases r
      obtain ⟨its, rv, ⟨o, ho, hc, n, hd⟩, _⟩ := I.tuple hs
      obtain ⟨as, hr⟩ := Dp.readsAll I ds _ its ha rv
      exact ⟨_, Reads.tuple ho hc hd hr⟩
  | .dict _, _, _, h, _ => by cases h
theorem Dp.readsAll (I : Inv X pins σ H s) : ∀ (ds : List PyData) (vs : List V) (us : List Value), DpAll X.K H vs ds → Vals vs us → ∃ as, ReadsAll s.heap us ds as
  | [], _, _, h, r => by
    cases h
    cases r
    exact ⟨_, ReadsAll.nil⟩
  | d :: ds, _, _, h, r => by
    cases h with
    | cons h1 h2 =>
      cases r with
      | cons r1 r2 =>
        obtain ⟨as, q1⟩ := Dp.reads I d _ _ h1 r1
        obtain ⟨bs, q2⟩ := Dp.readsAll I ds _ _ h2 r2
        exact ⟨_, ReadsAll.cons q1 q2⟩
end
end
section
variable {X : Cx}
def rEqD (K : PySem.W.Frag) : R2 := fun x y H Q => ∃ d e, Dp K H x d ∧ Dp K H y e ∧ SeqAt.shaped d = true ∧ SeqAt.shaped e = true ∧ Q (.bl (PyData.eqv d e)) H
theorem op_eqD (hu : X.A.units + 64 < cLine) : OpR X (compareOp .Eq) (rEqD X.K) := by
  intro pins s σ H x y v u Q I rx ry h
  obtain ⟨d, e, hd, he, sd, se, q⟩ := h
  obtain ⟨as, r1⟩ := Dp.reads I d x v hd rx
  obtain ⟨bs, r2⟩ := Dp.reads I e y u he ry
  exact SeqAt.compareEq_shaped r1 r2 sd se hu ⟨.bl _, H, I, rfl, q⟩
end
end L2
namespace L2
open PySem PySem.Spec PyProof.Rows
abbrev CellAt (h : Heap) (c : Addr) (v : Option Value) : Prop := h.IsCell c v
def relS (scope sc : Scope) : Scope :=
  { scope with names := scope.names.map fun (n, k) => if (k == .free && sc.kind == .function && sc.names.lookup n == some .cell) then (n, .cell) else (n, k) }
def cloFrom (cells : List (Str × Addr)) : List (Str × NameKind) → List (Str × Addr) → List (Str × Addr)
  | [], acc => acc
  | (n, k) :: r, acc => if k == .free then cloFrom cells r ((n, (cells.lookup n).getD 0) :: acc) else cloFrom cells r acc
theorem closure_loop (env : Env) (f : Str × NameKind → List (Str × Addr) → Sem (ForInStep (List (Str × Addr))))
    (hf : ∀ n k c, f (n, k) c = if k == .free then (do let a ← cellOf env n; pure (.yield ((n, a) :: c))) else pure (.yield c)) :
    ∀ (names : List (Str × NameKind)) (acc : List (Str × Addr)), (∀ y ∈ names, y.2 = .free → ∃ c, env.cells.lookup y.1 = some c) → forIn names acc f = pure (cloFrom env.cells names acc)
  | [], acc, _ => by rw [List.forIn_nil]; rfl
  | (n, k) :: r, acc, h => by
    rw [List.forIn_cons, hf]
    have ih := fun acc => closure_loop env f hf r acc fun y hy => h y (List.mem_cons_of_mem _ hy)
    unfold cloFrom
    by_cases hk : (k == NameKind.free) = true
    · rw [if_pos hk, if_pos hk]
      obtain ⟨c, hc⟩ := h (n, k) List.mem_cons_self (by simpa using hk)
      have e : cellOf env n = pure c := by unfold cellOf; rw [hc]
      rw [e]
      have e2 : (env.cells.lookup n).getD 0 = c := by rw [hc]; rfl
      rw [e2]
      exact ih _
    · rw [if_neg hk, if_neg hk]
      exact ih _
theorem closure_ok {scope : Scope} {env : Env} (h : ∀ y ∈ scope.names, y.2 = .free → ∃ c, env.cells.lookup y.1 = some c) : closureFor scope env = pure (cloFrom env.cells scope.names []) := by
  simp only [closureFor]
  rw [closure_loop env _ (fun n k c => rfl) scope.names [] h]
  rfl
theorem mem_lookup {α : Type} : ∀ {l : List (Str × α)} {n : Str} {c : α}, (n, c) ∈ l → ∃ c', l.lookup n = some c'
  | (k, v) :: r, n, c, h => by
    rw [List.lookup_cons]
    cases hb : n == k with
    | true => exact ⟨_, rfl⟩
    | false =>
      rcases List.mem_cons.mp h with e | h
      · cases e; simp at hb
      · exact mem_lookup h
theorem cloFrom_mem {cells : List (Str × Addr)} : ∀ {names : List (Str × NameKind)} {acc : List (Str × Addr)} {n : Str} {c : Addr}, (n, c) ∈ cloFrom cells names acc → (n, c) ∈ acc ∨ ((n, .free) ∈ names ∧ c = (cells.lookup n).getD 0)
  | [], _, _, _, h => .inl h
  | (m, k) :: r, acc, n, c, h => by
    unfold cloFrom at h
    split at h
    · rename_i hk
      have hk : k = .free := by simpa using hk
      rcases cloFrom_mem h with h | ⟨h1, h2⟩
      · rcases List.mem_cons.mp h with e | h
        · cases e; exact .inr ⟨hk ▸ List.mem_cons_self, rfl⟩
        · exact .inl h
      · exact .inr ⟨List.mem_cons_of_mem _ h1, h2⟩
    · rcases cloFrom_mem h with h | ⟨h1, h2⟩
      · exact .inl h
      · exact .inr ⟨List.mem_cons_of_mem _ h1, h2⟩
theorem cloFrom_acc {cells : List (Str × Addr)} : ∀ {names : List (Str × NameKind)} {acc : List (Str × Addr)} {p : Str × Addr}, p ∈ acc → p ∈ cloFrom cells names acc
  | [], _, _, h => h
  | (m, k) :: r, acc, p, h => by
    unfold cloFrom
    split
    · exact cloFrom_acc (List.mem_cons_of_mem _ h)
    · exact cloFrom_acc h
theorem cloFrom_has {cells : List (Str × Addr)} : ∀ {names : List (Str × NameKind)} {acc : List (Str × Addr)} {n : Str}, (n, .free) ∈ names → (n, (cells.lookup n).getD 0) ∈ cloFrom cells names acc
  | (m, k) :: r, acc, n, h => by
    unfold cloFrom
    rcases List.mem_cons.mp h with e | h
    · cases e
      exact cloFrom_acc List.mem_cons_self
    · split
      · exact cloFrom_has h
      · exact cloFrom_has h
theorem cells_mem : ∀ {names : List (Str × NameKind)} {h : Heap} {acc : List (Str × Addr)} {x : Str} {c : Addr}, (x, c) ∈ cellsFrom h.objs.size names acc →
    (x, c) ∈ acc ∨ ((x, .cell) ∈ names ∧ h.objs.size ≤ c ∧ CellAt (pushCells h names) c none)
  | [], _, _, _, _, h => .inl h
  | (n, k) :: r, h, acc, x, c, hm => by
    unfold cellsFrom at hm
    unfold pushCells
    split at hm
    · rename_i hk
      rw [if_pos hk]
      have hk : k = .cell := by simpa using hk
      rw [← Heap.size_push h { cls := .type "cell", data := .cell none }] at hm
      rcases cells_mem hm with hm | ⟨h1, h2, h3⟩
      · rcases List.mem_cons.mp hm with e | hm
        · cases e
          exact .inr ⟨hk ▸ List.mem_cons_self, Nat.le_refl _, _, pushCells_keeps r _ _ _ (Heap.get?_push_size _ rfl), rfl⟩
        · exact .inl hm
      · rw [Heap.size_push] at h2
        exact .inr ⟨List.mem_cons_of_mem _ h1, Nat.le_of_succ_le h2, h3⟩
    · rename_i hk
      rw [if_neg hk]
      rcases cells_mem hm with hm | ⟨h1, h2, h3⟩
      · exact .inl hm
      · exact .inr ⟨List.mem_cons_of_mem _ h1, h2, h3⟩
theorem cells_acc : ∀ {names : List (Str × NameKind)} {n : Nat} {acc : List (Str × Addr)} {p : Str × Addr}, p ∈ acc → p ∈ cellsFrom n names acc
  | [], _, _, _, h => h
  | (m, k) :: r, n, acc, p, h => by
    unfold cellsFrom
    split
    · exact cells_acc (List.mem_cons_of_mem _ h)
    · exact cells_acc h
theorem cells_has : ∀ {names : List (Str × NameKind)} {n : Nat} {acc : List (Str × Addr)} {x : Str}, (x, .cell) ∈ names → ∃ c, (x, c) ∈ cellsFrom n names acc
  | (m, k) :: r, n, acc, x, h => by
    unfold cellsFrom
    rcases List.mem_cons.mp h with e | h
    · cases e
      exact ⟨n, cells_acc List.mem_cons_self⟩
    · split
      · exact cells_has h
      · exact cells_has h
theorem cells_inj : ∀ {names : List (Str × NameKind)} {h : Heap} {acc : List (Str × Addr)} {x y : Str} {c : Addr}, (∀ p ∈ acc, p.2 < h.objs.size) → (∀ x y c, (x, c) ∈ acc → (y, c) ∈ acc → x = y) →
    (x, c) ∈ cellsFrom h.objs.size names acc → (y, c) ∈ cellsFrom h.objs.size names acc → x = y
  | [], _, _, _, _, _, _, hi, h1, h2 => hi _ _ _ h1 h2
  | (n, k) :: r, h, acc, x, y, c, hl, hi, h1, h2 => by
    unfold cellsFrom at h1 h2
    split at h1
    · rename_i hk
      rw [if_pos hk] at h2
      rw [← Heap.size_push h { cls := .type "cell", data := .cell none }] at h1 h2
      refine cells_inj (h := h.push _) (fun p hp => ?_) (fun x y c a b => ?_) h1 h2
      · rw [Heap.size_push]
        rcases List.mem_cons.mp hp with rfl | hp
        · exact Nat.lt_succ_self _
        · exact Nat.lt_succ_of_lt (hl p hp)
      · rcases List.mem_cons.mp a with e | a <;> rcases List.mem_cons.mp b with e' | b
        · cases e; cases e'; rfl
        · cases e; exact absurd (hl _ b) (Nat.lt_irrefl _)
        · cases e'; exact absurd (hl _ a) (Nat.lt_irrefl _)
        · exact hi _ _ _ a b
    · rename_i hk
      rw [if_neg hk] at h2
      exact cells_inj hl hi h1 h2
theorem newEnv_comp {M : Model} {A : Around} {E : Value → Shared → Prop} {s : Shared} {scope : Scope} {globals : Addr} {closure : List (Str × Addr)} {qual : Str} {func : Option Addr} {code : Value} {around : Env} {builtins : Addr} {Q : Env → Shared → Prop}
    (h : Q (newEnv scope s.heap.objs.size globals (cellsFrom (s.heap.objs.size + 1) scope.names closure) qual func code (some around) builtins)
      { s with heap := pushCells (s.heap.push { cls := .type "dict", data := .dict #[] }) scope.names }) :
    wpAny M A (newFunctionEnv scope globals closure [] qual func code (some around) builtins) Q E s := by
  simp only [newFunctionEnv, Option.isSome_some, if_true]
  refine wpAny_bind (wpAny_alloc ?_)
  refine wpAny_bind (wpAny_layCells _ (fun n k c => rfl) scope.names closure _ _ ?_)
  rw [show ({ s with heap := s.heap.push { cls := .type "dict", data := .dict #[] } } : Shared).heap.objs.size = s.heap.objs.size + 1 from Heap.size_push ..]
  rw [List.forIn_nil]
  exact wpAny_bind (wpAny_pure (wpAny_pure h))
theorem lookup_relS {sc : Scope} : ∀ {names : List (Str × NameKind)} {x : Str} {k : NameKind},
    (names.map fun (n, k) => if (k == NameKind.free && sc.kind == .function && sc.names.lookup n == some .cell) then (n, NameKind.cell) else (n, k)).lookup x = some k →
    ∃ k', names.lookup x = some k' ∧ (k = k' ∨ (k' = .free ∧ k = .cell))
  | [], _, _, h => by simp at h
  | (n, k₀) :: r, x, k, h => by
    have ih := @lookup_relS sc r x k
    have h' : List.lookup x ((if (k₀ == NameKind.free && sc.kind == .function && sc.names.lookup n == some .cell) = true then (n, NameKind.cell) else (n, k₀)) :: (r.map _)) = some k := h
    cases hx : x == n with
    | true =>
      simp only [List.lookup_cons, hx]
      by_cases hc : (k₀ == NameKind.free && sc.kind == .function && sc.names.lookup n == some .cell) = true
      · rw [if_pos hc] at h'
        simp only [List.lookup_cons, hx] at h'
        cases h'
        simp only [Bool.and_eq_true, beq_iff_eq] at hc
        exact ⟨k₀, rfl, .inr ⟨hc.1.1, rfl⟩⟩
      · rw [if_neg hc] at h'
        simp only [List.lookup_cons, hx] at h'
        cases h'
        exact ⟨_, rfl, .inl rfl⟩
    | false =>
      simp only [List.lookup_cons, hx]
      by_cases hc : (k₀ == NameKind.free && sc.kind == .function && sc.names.lookup n == some .cell) = true
      · rw [if_pos hc] at h'
        simp only [List.lookup_cons, hx] at h'
        exact ih h'
      · rw [if_neg hc] at h'
        simp only [List.lookup_cons, hx] at h'
        exact ih h'
structure BlkOk (N : List Str) (sc scope : Scope) (own : List (Str × Nat)) : Prop where
  kind : scope.kind = .function
  uniq : ∀ y ∈ scope.names, scope.names.lookup y.1 = some y.2
  ix : ∀ p ∈ own, N[p.2]? = some p.1
  free : ∀ y ∈ scope.names, y.2 = .free → sc.names.lookup y.1 = some .cell ∨ sc.names.lookup y.1 = some .free
  own : ∀ y ∈ scope.names, y.2 = .local ∨ y.2 = .cell → y.1 ∈ own.map (·.1) ∨ y.1 ∉ N
def wipe (σ : St) : List Nat → St
  | [] => σ
  | v :: vs => (wipe σ vs).set v none
theorem wipe_length (σ : St) : ∀ vs : List Nat, (wipe σ vs).length = σ.length
  | [] => rfl
  | v :: vs => by unfold wipe; rw [List.length_set, wipe_length σ vs]
theorem wipe_some {σ : St} {i : Nat} {x : V} : ∀ {vs : List Nat}, (wipe σ vs)[i]? = some (some x) → σ[i]? = some (some x) ∧ i ∉ vs
  | [], h => ⟨h, by simp⟩
  | v :: vs, h => by
    unfold wipe at h
    by_cases hi : v = i
    · subst hi
      by_cases hv : v < (wipe σ vs).length
      · rw [List.getElem?_set_self hv] at h; cases h
      · rw [List.getElem?_eq_none (by simpa using hv)] at h; cases h
    · rw [List.getElem?_set_ne hi] at h
      obtain ⟨h1, h2⟩ := wipe_some h
      exact ⟨h1, by simp only [List.mem_cons, not_or]; exact ⟨fun e => hi e.symm, h2⟩⟩
abbrev Cx.blk (X : Cx) (s : Shared) (H : Hp) (scope : Scope) (cenv : Env) (fp : List Addr) : Cx := { X with s_0 := s, H_0 := H, env := cenv, outer := X.stack, ex := fp, fn := fun x => scope.names.lookup x == some .cell, pn := [], xe := fun _ _ => False }
section
variable {X : Cx} {pins : List (Addr × Obj)} {σ : St} {H : Hp} {s : Shared}
theorem block_start {scope : Scope} {own : List (Str × Nat)} {fp : List Addr} (I : Inv X pins σ H s) (ok : BlkOk X.N X.env.scope scope own) (hN : X.N.Nodup) (hfp : ∀ b ∈ fp, FpOk X pins H b ∧ b < s.heap.objs.size) :
    Inv (X.blk s H scope (compEnvC scope (cellsFrom (s.heap.objs.size + 1) scope.names (cloFrom X.env.cells scope.names [])) s.heap.objs.size X.env) fp) [] (wipe σ (own.map (·.2))) H { s with heap := pushCells (s.heap.push { cls := .type "dict", data := .dict #[] }) scope.names } := by
  have hfree : ∀ y ∈ scope.names, y.2 = .free → ∃ c, X.env.cells.lookup y.1 = some c := fun y hy e => by
    rcases ok.free y hy e with k | k
    · exact I.ok.has _ (.inl k)
    · exact I.ok.has _ (.inr k)
  generalize hcenv : compEnvC scope (cellsFrom (s.heap.objs.size + 1) scope.names (cloFrom X.env.cells scope.names [])) s.heap.objs.size X.env = cenv
  have kp : ∀ b o, s.heap.get? b = some o → (pushCells (s.heap.push { cls := .type "dict", data := .dict #[] }) scope.names).get? b = some o := fun b o e => pushCells_keeps _ _ _ _ (Heap.get?_push_of_some _ e)
  have hL : cenv.locals = s.heap.objs.size := by rw [← hcenv]; rfl
  have hcl : cenv.cells = cellsFrom (s.heap.objs.size + 1) scope.names (cloFrom X.env.cells scope.names []) := by rw [← hcenv]; rfl
  have hsc : cenv.scope = relS scope X.env.scope := by rw [← hcenv]; rfl
  rw [← Heap.size_push s.heap { cls := .type "dict", data := .dict #[] }] at hcl
  have cm : ∀ {y c}, (y, c) ∈ cloFrom X.env.cells scope.names [] → X.env.cells.lookup y = some c ∧ c < s.heap.objs.size := fun {y c} hm => by
    rcases cloFrom_mem hm with hm | ⟨h1, rfl⟩
    · cases hm
    · obtain ⟨c, hc⟩ := hfree _ h1 rfl
      rw [hc]
      obtain ⟨w, z⟩ := I.cell _ _ hc
      exact ⟨rfl, z.lt⟩
  have mem : ∀ {y c}, cenv.cells.lookup y = some c → (X.env.cells.lookup y = some c ∧ c < s.heap.objs.size) ∨ (s.heap.objs.size + 1 ≤ c ∧ CellAt (pushCells (s.heap.push { cls := .type "dict", data := .dict #[] }) scope.names) c none) := fun {y c} e => by
    rw [hcl] at e
    rcases cells_mem (PySem.mem_of_lookup e) with hm | ⟨_, h2, h3⟩
    · exact .inl (cm hm)
    · rw [Heap.size_push] at h2; exact .inr ⟨h2, h3⟩
  have look : ∀ {y}, scope.names.lookup y = some .free → ∃ c, cenv.cells.lookup y = some c ∧ X.env.cells.lookup y = some c := fun {y} hl => by
    have hy : (y, NameKind.free) ∈ scope.names := PySem.mem_of_lookup hl
    obtain ⟨c', e'⟩ := mem_lookup (cells_acc (names := scope.names) (n := (s.heap.push { cls := .type "dict", data := .dict #[] }).objs.size) (cloFrom_has (cells := X.env.cells) (acc := []) hy))
    rw [← hcl] at e'
    refine ⟨c', e', ?_⟩
    rw [hcl] at e'
    rcases cells_mem (PySem.mem_of_lookup e') with hm | ⟨h1, _, _⟩
    · exact (cm hm).1
    · have := ok.uniq _ h1
      rw [hl] at this; cases this
  have okB : (X.blk s H scope cenv fp).Ok := by
    refine ⟨I.ok.mod, by show cenv.scope.kind = _; rw [hsc]; exact ok.kind, by show cenv.globals = _; rw [← hcenv]; exact I.ok.glob, by show cenv.builtins = _; rw [← hcenv]; exact I.ok.blt, by show s.heap.objs.size ≤ cenv.locals; rw [hL]; exact Nat.le_refl _,
      fun y z c e1 e2 => ?_, fun y hy => ?_, fun y c z e => ?_, I.ok.hd, I.ok.frames, .inl rfl, fun b hb => ⟨?_, fun y c e z => ?_⟩, I.bs, Nat.le_trans I.ok.bsz I.sz, fun b o e hb => ?_, fun b hb z => ?_, I.stack, I.stkFree⟩
    · have e1 : cenv.cells.lookup y = some c := e1
      have e2 : cenv.cells.lookup z = some c := e2
      rw [hcl] at e1 e2
      refine cells_inj (fun p hp => ?_) (fun y z c a b => I.ok.inj y z c (cm a).1 (cm b).1) (PySem.mem_of_lookup e1) (PySem.mem_of_lookup e2)
      rw [Heap.size_push]
      exact Nat.lt_succ_of_lt (cm (y := p.1) (c := p.2) hp).2
    · show ∃ c, cenv.cells.lookup y = some c
      have key : ∀ k, cenv.kindOf y = some k → (k = .cell ∨ k = .free) → ∃ c, cenv.cells.lookup y = some c := fun k hk hk' => by
        unfold Env.kindOf at hk
        rw [hsc] at hk
        obtain ⟨k', e, r⟩ := lookup_relS hk
        have : k' = .cell ∨ k' = .free := by
          rcases r with rfl | ⟨rfl, _⟩
          · exact hk'
          · exact .inr rfl
        rcases this with rfl | rfl
        · obtain ⟨c, hm⟩ := cells_has (n := (s.heap.push { cls := .type "dict", data := .dict #[] }).objs.size) (acc := cloFrom X.env.cells scope.names []) (PySem.mem_of_lookup e)
          obtain ⟨c', e'⟩ := mem_lookup hm
          exact ⟨c', by rw [hcl]; exact e'⟩
        · obtain ⟨c, h1, _⟩ := look e
          exact ⟨c, h1⟩
      rcases hy with hy | hy
      · exact key _ hy (.inl rfl)
      · exact key _ hy (.inr rfl)
    · have z : (scope.names.lookup y == some NameKind.cell) = true := z
      have z : scope.names.lookup y = some .cell := by simpa using z
      have e : cenv.cells.lookup y = some c := e
      rw [hcl] at e
      rcases cells_mem (PySem.mem_of_lookup e) with hm | ⟨_, h2, _⟩
      · rcases cloFrom_mem hm with hm | ⟨h1, _⟩
        · cases hm
        · have q := ok.uniq _ h1
          rw [z] at q; cases q
      · rw [Heap.size_push] at h2
        exact Nat.le_of_succ_le h2
    · show b ≠ cenv.locals
      rw [hL]; exact Nat.ne_of_lt (hfp b hb).2
    · have e : cenv.cells.lookup y = some c := e
      rcases mem e with ⟨h1, _⟩ | ⟨h1, _⟩
      · exact (hfp b hb).1.2.2.2.2.1 y c h1 z
      · have h2 : s.heap.objs.size + 1 ≤ b := by rw [← z]; exact h1
        exact absurd (Nat.lt_of_lt_of_le (hfp b hb).2 (Nat.le_of_succ_le h2)) (Nat.lt_irrefl _)
    · rcases (hfp b hb).1.2.2.2.1 with z | z
      · exact I.ok.noex b o e z
      · exact absurd (Nat.lt_of_lt_of_le (Heap.lt_size e) (Nat.le_trans I.ok.bsz z)) (Nat.lt_irrefl _)
    · rcases List.mem_cons.mp (I.stkSub b z) with z | z
      · exact (hfp b hb).1.2.1 z
      · exact (hfp b hb).1.2.2.1 z
  refine ⟨okB, rfl, I.bare, Un.kept kp, ⟨fun _ => none, ?_, fun i y av e1 e2 e3 => ?_⟩, fun y c e => ?_, ?_, fun y c e => ?_, fun p hp => ?_, I.hok.kept kp, by rw [wipe_length]; exact I.len⟩
  · show Heap.Ns _ cenv.locals _
    rw [hL]
    exact Heap.Ns.keeps (Heap.Ns.new ..) fun b o e => pushCells_keeps _ _ _ _ e
  · obtain ⟨e2, hne⟩ := wipe_some e2
    have hfr : scope.names.lookup y = some .free ∧ (cenv.kindOf y = some .cell ∨ cenv.kindOf y = some .free) := by
      have key : ∀ k, cenv.scope.names.lookup y = some k → k = .local ∨ k = .cell ∨ k = .free → scope.names.lookup y = some .free ∧ (cenv.kindOf y = some .cell ∨ cenv.kindOf y = some .free) := fun k hk hk' => by
        have hk0 := hk
        rw [hsc] at hk
        obtain ⟨k', e, r⟩ := lookup_relS hk
        have no : ¬ (k' = .local ∨ k' = .cell) := fun hh => by
          rcases ok.own _ (PySem.mem_of_lookup e) hh with e' | e'
          · obtain ⟨p, hp, hpy⟩ := List.mem_map.mp e'
            have e3 := ok.ix p hp
            have : p.1 = y := hpy
            rw [this] at e3
            exact hne (List.mem_map.mpr ⟨p, hp, nodup_ix hN e3 e1⟩)
          · exact e' (List.mem_of_getElem? e1)
        rcases r with rfl | ⟨rfl, rfl⟩
        · rcases hk' with rfl | rfl | rfl
          · exact absurd (.inl rfl) no
          · exact absurd (.inr rfl) no
          · exact ⟨e, .inr hk0⟩
        · exact ⟨e, .inl hk0⟩
      have e3 : Vis cenv.scope y := e3
      rcases e3 with e3 | e3 | e3
      · exact key _ e3 (.inl rfl)
      · exact key _ e3 (.inr (.inl rfl))
      · exact key _ e3 (.inr (.inr rfl))
    obtain ⟨m, hn, hl⟩ := I.loc
    have hvis : Vis X.env.scope y := (ok.free _ (PySem.mem_of_lookup hfr.1) rfl).elim (fun k => .inr (.inl k)) (fun k => .inr (.inr k))
    obtain ⟨w, r, q⟩ := hl i y av e1 e2 hvis
    refine ⟨w, r, .inr ⟨hfr.2, ?_⟩⟩
    obtain ⟨c, h1, h2⟩ := look hfr.1
    rcases q with ⟨k, _⟩ | ⟨_, c', e', z⟩
    · have k : X.env.scope.names.lookup y = some .local := k
      rcases ok.free _ (PySem.mem_of_lookup hfr.1) rfl with k' | k' <;> rw [show X.env.scope.names.lookup y = _ from k'] at k <;> cases k
    · rw [h2] at e'; cases e'
      exact ⟨c, h1, z.keeps kp⟩
  · have e : cenv.cells.lookup y = some c := e
    rcases mem e with ⟨h1, _⟩ | ⟨_, z⟩
    · obtain ⟨w, z⟩ := I.cell y c h1
      exact ⟨w, z.keeps kp⟩
    · exact ⟨_, z⟩
  · show H cenv.locals = none
    rw [hL]; exact I.hok.fresh (Nat.le_refl _)
  · have e : cenv.cells.lookup y = some c := e
    rcases mem e with ⟨h1, _⟩ | ⟨h1, _⟩
    · exact I.freeC y c h1
    · exact I.hok.fresh (Nat.le_of_succ_le h1)
  · exact absurd (show p ∈ ([] : List (Addr × Obj)) ++ [] from hp) (by simp)
theorem app_ok {E : Value → Shared → Prop} {D : Addr} {xs : List V} {y : V} {v : Value} {Q : Value → Shared → Prop} (I : Inv X pins σ H s) (hD : H D = some (.lst xs)) (hz : xs.length < sizeLine) (r : RelV y v)
    (h : ∀ s', Inv X pins σ (upd H D (.lst (xs ++ [y]))) s' → Q .none s') : wpAny (model X.prog X.w) X.A (call (.builtin "list.append") [.ref D, v]) Q E s := by
  obtain ⟨hz', its, n, ri, e⟩ := I.hok D _ hD
  have hl := ri.length
  refine append_at (hsz := by rw [List.size_toArray]; omega) e fun h' sb ho' => ?_
  refine h { s with heap := h' } (I.write (t' := s.toks) (by rw [hD]; trivial) (.inl rfl) (fun b u hb q => (sb.2 b hb).trans q) ⟨_, ho'⟩ ⟨by rw [List.length_append]; exact hz, its ++ [v], n + 1, ri.append (.cons r .nil), ?_⟩)
  rw [ho']
  simp
def PTs (X : Cx) (ifs : List Expr) (t : TT) : Prop :=
  ∀ (pins : List (Addr × Obj)) (s : Shared) (σ : St) (H : Hp) (Q : Bool → Hp → Prop), Inv X pins σ H s → t σ H Q →
    wpAny (model X.prog X.w) X.A (forIn ifs true fun c r => if r = true then do let ok ← isTrue c X.env (eval c X.env); pure (ForInStep.yield ok) else pure (ForInStep.yield r)) (TP X pins σ Q) X.xe s
def tYes : TT := fun _ H Q => Q true H
theorem pts_nil : PTs X [] tYes := fun _ _ _ H _ I h => wpAny_tests_nil ⟨H, I, h⟩
theorem pts_one {c : Expr} {t : TT} (h : PT X c t) : PTs X [c] t := fun pins s σ H Q I hw => wpAny_tests_one (h pins s σ H Q I hw)
end
theorem thnF {α : Type} {t : Sem α} {Q Q' : α → Shared → Prop} {M : Model} {A : Around} {E : Value → Shared → Prop} {s : Shared} (h : wpAny M A t Q (fun _ _ => False) s) (hQ : ∀ a s, Q a s → Q' a s) : wpAny M A t Q' E s := wpAny_mono h hQ fun _ _ z => False.elim z
theorem compLoop_any {prog : Program} {w : World} {A : Around} {R : Result → Shared → Prop} {s : Shared} {elt target iter : Expr} {ifs : List Expr} {scope : Scope} {pos : Pos} {it acc : Value} {env : Env} (I : Nat → Shared → Prop)
    (turn : ∀ n s, I n s → wpAny (model prog w) A (pyNext it) (fun r s₁ => match r with
      | none => R (.ok .next) s₁
      | some v => wpAny (model prog w) A (letOwnedTupleGo target it v) (fun _ s₁' => wpAny (model prog w) A (assign target env v) (fun _ s₂ =>
          wpAny (model prog w) A (forIn ifs true fun c r => if r = true then do let ok ← isTrue c env (eval c env); pure (ForInStep.yield ok) else pure (ForInStep.yield r)) (fun ok s₃ =>
            if ok = true then wpAny (model prog w) A (eval elt env) (fun x s₄ =>
              wpAny (model prog w) A (call (.builtin "list.append") [acc, x]) (fun _ s₅ => ∃ m, m < n ∧ I m s₅) (notedBy (model prog w) A env fun e s' => R (.error e) s') s₄) (notedBy (model prog w) A env fun e s' => R (.error e) s') s₃
            else ∃ m, m < n ∧ I m s₃) (notedBy (model prog w) A env fun e s' => R (.error e) s') s₂) (notedBy (model prog w) A env fun e s' => R (.error e) s') s₁') (notedBy (model prog w) A env fun e s' => R (.error e) s') s₁) (notedBy (model prog w) A env fun e s' => R (.error e) s') s)
    (n : Nat) (h : I n s) :
    codeAny (model prog w) A (.compLoop (.ListComp elt [⟨target, iter, ifs, 0⟩] scope pos) 0 it acc env) R s := by
  refine codeAny_loop rfl I (fun n s hI => ?_) n h
  show wpAny _ A ((compTurn (.ListComp elt [⟨target, iter, ifs, 0⟩] scope pos) 0 it acc env).onRaise (fun x => do noteFrame x env; theTreesLotGoes x)) _ _ s
  refine wpAny_noted ?_
  rw [compTurn_list]
  refine wpAny_bind (wpAny_standAt (wpAny_bind (wpAny_mono (turn n s hI) (fun r s₁ h₁ => ?_) fun _ _ h' => h')))
  cases r with
  | none => exact wpAny_pure h₁
  | some v =>
    refine wpAny_bind (wpAny_mono h₁ (fun _ s₁' h₁' => ?_) fun _ _ h' => h')
    refine wpAny_bind (wpAny_mono h₁' (fun _ s₂ h₂ => wpAny_bind (wpAny_mono h₂ (fun ok s₃ h₃ => ?_) fun _ _ h' => h')) fun _ _ h' => h')
    cases ok with
    | false => exact wpAny_pure ⟨rfl, h₃⟩
    | true =>
      exact wpAny_bind (wpAny_bind (wpAny_mono h₃ (fun x s₄ h₄ => wpAny_bind (wpAny_mono h₄ (fun _ s₅ h₅ => wpAny_pure (wpAny_pure ⟨rfl, h₅⟩)) fun _ _ h' => h')) fun _ _ h' => h'))
section
variable {X : Cx}
def tLc (wi : TI) (g : TG) (tt : TT) (te : TE) (vs : List Nat) : TE := fun σ H Q => wi σ H fun J H1 => ∀ D, H1 D = none → ∃ W : Nat → Nat → Hp → Prop, (∃ m, W 0 m (upd H1 D (.lst []))) ∧ ∀ i m H, W i m H →
  (J.stop i H ∧ Q (.ref D) H) ∨ (J.go i H ∧ ∃ Nx : Hp → Prop, (∀ H', Nx H' → ∃ m', m' < m ∧ W (i + 1) m' H') ∧ ∀ x H', J.yld i H x H' → g x (wipe σ vs) H' fun σ2 H2 => wipe σ2 vs = wipe σ vs ∧ tt σ2 H2 fun b H3 =>
    if b = true then te σ2 H3 fun y H4 => ∃ acc, H4 D = some (.lst acc) ∧ acc.length < sizeLine ∧ Nx (upd H4 D (.lst (acc ++ [y]))) else Nx H3)
theorem lc_core {pins : List (Addr × Obj)} {s : Shared} {σ : St} {H : Hp} {Q : VK} {elt tg iter : Expr} {ifs : List Expr} {scope : Scope} {own : List (Str × Nat)} {pos pos' : Pos} {wi : TI} {g : TG} {tt : TT} {te : TE} {use : Option (Value → Sem Unit)} {Qf : Value → Shared → Prop}
    (hc : X.calm = true) (hN : X.N.Nodup) (I : Inv X pins σ H s) (hi : PI X tg iter wi) (ok : BlkOk X.N X.env.scope scope own)
    (hg : ∀ (s : Shared) (H : Hp) (C : Addr) (cl : List (Str × Addr)) (fp : List Addr), PG (X.blk s H scope (compEnvC scope cl C X.env) fp) tg g) (ht : ∀ (s : Shared) (H : Hp) (C : Addr) (cl : List (Str × Addr)) (fp : List Addr), PTs (X.blk s H scope (compEnvC scope cl C X.env) fp) ifs tt)
    (he : ∀ (s : Shared) (H : Hp) (C : Addr) (cl : List (Str × Addr)) (fp : List Addr), PE (X.blk s H scope (compEnvC scope cl C X.env) fp) elt te) (hs : ∀ x, foldedSetIterable iter X.env x = pure x)
    (h : tLc wi g tt te (own.map (·.2)) σ H Q)
    (hRR : ∀ D C s' m H', Inv X pins σ H' s' → Q (.ref D) H' → s'.heap.Ns C m → FpOk X pins H' C → compPost (model X.prog X.w) X.A X.xe use Qf (.ref D) C (.ok .next) s') :
    wpAny (model X.prog X.w) X.A (comprehension (.ListComp elt [⟨tg, iter, ifs, 0⟩] scope pos) scope X.env pos' (newList []) false (eval iter X.env) use) Qf X.xe s := by
  have hfree : ∀ y ∈ scope.names, y.2 = .free → ∃ c, X.env.cells.lookup y.1 = some c := fun y hy e => by
    rcases ok.free y hy e with k | k
    · exact I.ok.has _ (.inl k)
    · exact I.ok.has _ (.inr k)
  refine wpAny_comprehension_free (use := use) rfl hs (closure_ok hfree) ok.kind (fun y hy e => by rw [ok.uniq y hy, e])
    (thn (hi pins s σ H _ I h) fun xv s1 hx => thn hx fun itv s2 h2 => ?_)
  obtain ⟨it, fp, tn, J, H2, e, I2, T, st2, f2, q⟩ := h2
  subst e
  refine wpAny_newObj_type (newEnv_comp ?_) (by show 0 ≤ sizeLine; decide)
  generalize hD : s2.heap.objs.size = D
  have hDn : H2 D = none := I2.hok.fresh (Nat.le_of_eq hD)
  obtain ⟨W, ⟨m0, w0⟩, turn⟩ := q D hDn
  generalize hs3 : ({ s2 with heap := s2.heap.push { cls := .type "list", data := .seq ([] : List Value).toArray } } : Shared) = s3
  have I3 : Inv X pins σ (upd H2 D (.lst [])) s3 := by
    rw [← hs3]
    refine I2.laid (t' := s2.toks) (fun b o e => Heap.get?_push_of_some _ e) (Nat.le_of_eq hD) ⟨Nat.zero_le _, [], 0, .nil, ?_⟩
    rw [← hD]
    exact Heap.get?_push_size _ rfl
  have h3 : s3.heap = s2.heap.push { cls := .type "list", data := .seq ([] : List Value).toArray } := by rw [← hs3]
  have sz : ∀ b ∈ fp, b < s2.heap.objs.size := fun b hb => by
    obtain ⟨o, e, _⟩ := T.obj _ _ st2 b hb
    exact Heap.lt_size e
  have f3 : ∀ b ∈ fp, FpOk X pins (upd H2 D (.lst [])) b ∧ b < s3.heap.objs.size := fun b hb => by
    have hlt := sz b hb
    refine ⟨⟨?_, (f2 b hb).2⟩, by rw [h3, Heap.size_push]; exact Nat.lt_succ_of_lt hlt⟩
    rw [upd_ne (by rw [← hD]; exact Nat.ne_of_lt hlt)]
    exact (f2 b hb).1
  have st3 : tn 0 s3.heap := T.keep _ _ _ st2 fun b _ o e => by rw [h3]; exact Heap.get?_push_of_some _ e
  have I4 := block_start I3 ok hN f3
  have pg := hg s3 (upd H2 D (.lst [])) s3.heap.objs.size (cellsFrom (s3.heap.objs.size + 1) scope.names (cloFrom X.env.cells scope.names [])) fp
  have pt := ht s3 (upd H2 D (.lst [])) s3.heap.objs.size (cellsFrom (s3.heap.objs.size + 1) scope.names (cloFrom X.env.cells scope.names [])) fp
  have pe := he s3 (upd H2 D (.lst [])) s3.heap.objs.size (cellsFrom (s3.heap.objs.size + 1) scope.names (cloFrom X.env.cells scope.names [])) fp
  show codeAny _ _ (.compStart (.ListComp elt [⟨tg, iter, ifs, 0⟩] scope pos) 0 (.ref it) (.ref D) (compEnvC scope (cellsFrom (s3.heap.objs.size + 1) scope.names (cloFrom X.env.cells scope.names [])) s3.heap.objs.size X.env)) (compPost (model X.prog X.w) X.A X.xe use Qf (.ref D) s3.heap.objs.size) { s3 with heap := pushCells (s3.heap.push { cls := .type "dict", data := .dict #[] }) scope.names }
  have nfp : ∀ b ∈ fp, (upd H2 D (.lst [])) b = none := fun b hb => (f3 b hb).1.1
  generalize hce : compEnvC scope (cellsFrom (s3.heap.objs.size + 1) scope.names (cloFrom X.env.cells scope.names [])) s3.heap.objs.size X.env = ce at I4 pg pt pe ⊢
  have cL : ce.locals = s3.heap.objs.size := by subst hce; rfl
  generalize hH3 : upd H2 D (.lst []) = H3 at I3 I4 pg pt pe w0 nfp f3
  generalize hs4 : ({ s3 with heap := pushCells (s3.heap.push { cls := .type "dict", data := .dict #[] }) scope.names } : Shared) = s4 at I4 ⊢
  have st4 : tn 0 s4.heap := T.keep _ _ _ st3 fun b _ o e => by rw [← hs4]; exact pushCells_keeps _ _ _ _ (Heap.get?_push_of_some _ e)
  have stat : ∀ {σ' : St} {H' : Hp} {s' : Shared}, Inv (X.blk s3 H3 scope ce fp) [] σ' H' s' → (∀ b ∈ fp, H' b = none) → ∀ b ∈ fp, FpOk (X.blk s3 H3 scope ce fp) [] H' b := fun {σ' H' s'} I' hn b hb =>
    ⟨hn b hb, (I'.ok.exf b hb).1, I'.ok.exfs b hb, .inl hb, fun x c e => (I'.ok.exf b hb).2 x c e, fun p hp => absurd (show p ∈ ([] : List (Addr × Obj)) ++ [] from hp) (by simp)⟩
  have loop : codeAny (model X.prog X.w) X.A (.compLoop (.ListComp elt [⟨tg, iter, ifs, 0⟩] scope pos) 0 (.ref it) (.ref D) ce) (compPost (model X.prog X.w) X.A X.xe use Qf (.ref D) s3.heap.objs.size) s4 := by
    refine compLoop_any (fun n s' => ∃ i H', Inv (X.blk s3 H3 scope ce fp) [] (wipe σ (own.map (·.2))) H' s' ∧ tn i s'.heap ∧ (∀ b ∈ fp, H' b = none) ∧ W i n H') ?_ m0 ⟨0, H3, I4, st4, nfp, w0⟩
    rintro n s5 ⟨i, H5, I5, st5, n5, w5⟩
    rcases turn i n H5 w5 with ⟨stop, qq⟩ | ⟨go, Nx, hNx, step⟩
    · have td := T.done (X.blk s3 H3 scope ce fp) rfl rfl rfl hc i [] s5 _ H5 (fun _ _ => False) I5 (stat I5 n5) st5 stop
      refine thnF td fun r s6 ⟨hr, I6⟩ => ?_
      subst hr
      have I7 : Inv X pins σ H5 s6 := I3.call' (ch := fp) I6.os I6.base I6.hok I6.bare fun b hb => ⟨(f3 b hb).1.2.2.2.1, (f3 b hb).1.2.1, (f3 b hb).1.2.2.2.2.1, (f3 b hb).1.2.2.2.2.2⟩
      have nC : H5 s3.heap.objs.size = none := by
        have z : H5 ce.locals = none := I6.free
        rw [cL] at z
        exact z
      obtain ⟨m, hn, _⟩ := I6.loc
      have hn : s6.heap.Ns ce.locals m := hn
      rw [cL] at hn
      exact hRR D s3.heap.objs.size s6 m H5 I7 qq hn (I3.fpOk (Nat.le_refl _) nC)
    · have ti := T.item (X.blk s3 H3 scope ce fp) rfl rfl rfl hc i [] s5 _ H5 (fun _ _ => False) I5 (stat I5 n5) st5 go
      refine thnF ti fun r s6 ⟨u, hr, h6⟩ => ?_
      subst hr
      refine thnF h6 fun _ s7 ⟨x, H7, I7, r7, y7, st7, n7⟩ => ?_
      have I7' := I7.pinned (stat I7 n7) (T.obj _ _ st7)
      refine thnF (pg _ s7 _ H7 x u _ I7' r7 (step x H7 y7)) fun _ s8 ⟨σ8, H8, I8, hw8, q8⟩ => ?_
      refine thnF (pt _ s8 σ8 H8 _ I8 q8) fun b s9 ⟨H9, I9, q9⟩ => ?_
      have fin : ∀ {s' : Shared} {H' : Hp}, Inv (X.blk s3 H3 scope ce fp) ([] ++ pinsAt fp s7.heap) σ8 H' s' → Nx H' → ∃ m, m < n ∧ ∃ i H', Inv (X.blk s3 H3 scope ce fp) [] (wipe σ (own.map (·.2))) H' s' ∧ tn i s'.heap ∧ (∀ b ∈ fp, H' b = none) ∧ W i m H' := fun {s' H'} I' nx => by
        obtain ⟨m', hm, w'⟩ := hNx H' nx
        have pin' : ∀ b ∈ fp, ∀ o, s7.heap.get? b = some o → s'.heap.get? b = some o ∧ H' b = none := fun b hb o e =>
          let z := I'.pin (b, o) (List.mem_append_right _ (List.mem_append_right _ (mem_pinsAt hb e)))
          ⟨z.1, z.2.1⟩
        have hl : (wipe σ (own.map (·.2))).length = σ8.length := by rw [← hw8, wipe_length]
        refine ⟨m', hm, i + 1, H', (I'.unpinned (pins := [])).weak hl (fun j v e => ?_), T.keep _ _ _ st7 fun b hb o e => (pin' b hb o e).1, fun b hb => ?_, w'⟩
        · rw [← hw8] at e
          exact (wipe_some e).1
        · obtain ⟨o, e, _⟩ := T.obj _ _ st7 b hb
          exact (pin' b hb o e).2
      cases b with
      | false =>
        simp only [Bool.false_eq_true, if_false] at q9 ⊢
        exact fin I9 q9
      | true =>
        simp only [if_true] at q9 ⊢
        refine thnF (pe _ s9 σ8 H9 _ I9 q9) fun z s10 ⟨yv, H10, I10, r10, acc, hD10, hz10, nx⟩ => ?_
        exact app_ok (X := X.blk s3 H3 scope ce fp) I10 hD10 hz10 r10 fun s11 I11 => fin I11 nx
  exact codeAny_compStart_list loop (T.self X.A 0 _ _ _ st4 loop)
theorem pe_lc {elt tg iter : Expr} {ifs : List Expr} {scope : Scope} {own : List (Str × Nat)} {pos : Pos} {wi : TI} {g : TG} {tt : TT} {te : TE} (hc : X.calm = true) (hN : X.N.Nodup) (hi : PI X tg iter wi) (ok : BlkOk X.N X.env.scope scope own)
    (hg : ∀ (s : Shared) (H : Hp) (C : Addr) (cl : List (Str × Addr)) (fp : List Addr), PG (X.blk s H scope (compEnvC scope cl C X.env) fp) tg g) (ht : ∀ (s : Shared) (H : Hp) (C : Addr) (cl : List (Str × Addr)) (fp : List Addr), PTs (X.blk s H scope (compEnvC scope cl C X.env) fp) ifs tt)
    (he : ∀ (s : Shared) (H : Hp) (C : Addr) (cl : List (Str × Addr)) (fp : List Addr), PE (X.blk s H scope (compEnvC scope cl C X.env) fp) elt te) (hs : ∀ x, foldedSetIterable iter X.env x = pure x := by intro _; rfl) :
    PE X (.ListComp elt [⟨tg, iter, ifs, 0⟩] scope pos) (tLc wi g tt te (own.map (·.2))) := by
  intro pins s σ H Q I h
  rw [eval_ListComp]
  refine lc_core hc hN I hi ok hg ht he hs h fun D C s' m H' I' q hn f => ⟨m, hn, fun h'' sb => ?_⟩
  obtain ⟨f0, f1, f2, f3, f4, f5⟩ := f
  exact ⟨.ref D, H', I'.turned (t' := s'.toks) (fun b o hb e => (sb.2 b hb).trans e) f0 f1 f3 f4 f5, rfl, q⟩
theorem ps_setLc {i : Nat} {y : Str} {py : Pos} {elt tg iter : Expr} {ifs : List Expr} {scope : Scope} {own : List (Str × Nat)} {pos spos : Pos} {wi : TI} {g : TG} {tt : TT} {te : TE} (hc : X.calm = true) (hN : X.N.Nodup) (hy : X.N[i]? = some y) (hyl : X.env.scope.names.lookup y = some .local)
    (hsw : swapsWith (.ListComp elt [⟨tg, iter, ifs, 0⟩] scope pos) (some (.Name y py)) spos.line X.env = pure true) (hi : PI X tg iter wi) (ok : BlkOk X.N X.env.scope scope own)
    (hg : ∀ (s : Shared) (H : Hp) (C : Addr) (cl : List (Str × Addr)) (fp : List Addr), PG (X.blk s H scope (compEnvC scope cl C X.env) fp) tg g) (ht : ∀ (s : Shared) (H : Hp) (C : Addr) (cl : List (Str × Addr)) (fp : List Addr), PTs (X.blk s H scope (compEnvC scope cl C X.env) fp) ifs tt)
    (he : ∀ (s : Shared) (H : Hp) (C : Addr) (cl : List (Str × Addr)) (fp : List Addr), PE (X.blk s H scope (compEnvC scope cl C X.env) fp) elt te) (hs : ∀ x, foldedSetIterable iter X.env x = pure x := by intro _; rfl) :
    PS X (.Assign [.Name y py] (.ListComp elt [⟨tg, iter, ifs, 0⟩] scope pos) spos) (tAsg (tLc wi g tt te (own.map (·.2))) (gName i)) := by
  intro pins s σ H D I h
  rw [exec_Assign_Name_used _ _ _ _ hsw]
  refine wpAny_bind (wpAny_standAt (wpAny_bind ?_))
  show wpAny _ X.A (do let _ ← comprehension (.ListComp elt [⟨tg, iter, ifs, 0⟩] scope pos) scope X.env (firstIterPos [⟨tg, iter, ifs, 0⟩] pos) (newList []) false (eval iter X.env) (some (assign (.Name y py) X.env))) _ _ s
  have h : tLc wi g tt te (own.map (·.2)) σ H (fun x H1 => gName i x σ H1 D.nx) := h
  refine wpAny_bind (thn (lc_core (Qf := fun _ s' => SP X pins D .next s') hc hN I hi ok hg ht he hs h fun L C s' m H' I' q hn f => ?_) fun _ s' hq => wpAny_pure (wpAny_pure hq))
  show wpAny _ _ (assign (.Name y py) X.env (.ref L)) _ _ _
  refine wpAny_assign_Name (store_ok2 (v := V.ref L) I' hN hy (.inl hyl) rfl (fun s2 I2 ⟨a, sb, ha⟩ => ?_) (.inr hyl))
  obtain ⟨f0, f1, f2, f3, f4, f5⟩ := f
  have haC : C ≠ a := by
    rcases ha with z | z
    · rw [z]; exact f1
    · exact fun e => f4 y a z e.symm
  refine ⟨m, hn.sameBut sb haC, fun h3 sb3 => ?_⟩
  exact ⟨_, H', I2.turned (t' := s2.toks) (fun b o hb e => (sb3.2 b hb).trans e) f0 f1 f3 f4 f5, q⟩
theorem sw_true {elt : Expr} {gs : List Comprehension} {scope : Scope} {pos py : Pos} {y : Str} {l : Nat} {env : Env} (hk : env.scope.kind = .function) (hy : env.scope.names.lookup y = some .local) (hl : (py.line == pos.line) = true)
    (ha : (scope.names.any fun (n, k) => n == y && (k == .local || k == .cell)) = false) : swapsWith (.ListComp elt gs scope pos) (some (.Name y py)) l env = pure true := by
  have ky : env.kindOf y = some .local := hy
  have hb : env.blockKind = .function := by unfold Env.blockKind; rw [hk]; rfl
  unfold swapsWith
  simp only [hb, ky, ha, Expr.pos, hl]
  rfl
end
def blkC (N : List Str) (sc scope : Scope) (own : List (Str × Nat)) : Bool :=
  (match scope.kind with | .function => true | _ => false) && (scope.names.all fun y => decide (scope.names.lookup y.1 = some y.2)) && (own.all fun p => decide (N[p.2]? = some p.1)) &&
    (scope.names.all fun y => match y.2 with
      | .free => (match sc.names.lookup y.1 with | some .cell => true | some .free => true | _ => false)
      | .local => decide (y.1 ∈ own.map (·.1)) || decide (y.1 ∉ N)
      | .cell => decide (y.1 ∈ own.map (·.1)) || decide (y.1 ∉ N)
      | _ => true)
theorem blkOk_by {N : List Str} {sc scope : Scope} {own : List (Str × Nat)} (h : blkC N sc scope own = true) : BlkOk N sc scope own := by
  unfold blkC at h
  simp only [Bool.and_eq_true, List.all_eq_true, decide_eq_true_eq] at h
  obtain ⟨⟨⟨h1, h2⟩, h3⟩, h4⟩ := h
  refine ⟨?_, h2, h3, fun y hy e => ?_, fun y hy e => ?_⟩
  · split at h1
    · assumption
    · cases h1
  · have q := h4 y hy
    simp only [e] at q
    split at q <;> first | exact .inl (by assumption) | exact .inr (by assumption) | cases q
  · have q := h4 y hy
    rcases e with e | e <;> (simp only [e, Bool.or_eq_true, decide_eq_true_eq] at q; exact q)
end L2
namespace L2
open PySem PySem.Spec PyProof.Rows
section
variable {prog : Program} {w : World} {A : Around} {R : Result → Shared → Prop} {s : Shared} {elt t0 i0 t1 i1 : Expr} {ifs0 ifs1 : List Expr} {scope : Scope} {pos : Pos} {it acc : Value} {env : Env}
end
section
variable {X : Cx}
end
end L2
namespace L2
open PySem PySem.Spec PyProof.Rows
section
variable {κ : Type} [DecidableEq κ]
def valV (kvs : List (κ × V)) (k : κ) : Option V := (kvs.find? fun kv => decide (kv.1 = k)).map (·.2)
def putK (kvs : List (κ × V)) (k : κ) (v : V) : List (κ × V) :=
  if (kvs.any fun kv => decide (kv.1 = k)) = true then kvs.map (fun kv => if kv.1 = k then (kv.1, v) else kv) else kvs ++ [(k, v)]
theorem valV_pos {p : κ × V} {r : List (κ × V)} {k : κ} (e : p.1 = k) : valV (p :: r) k = some p.2 := by simp [valV, List.find?_cons, e]
theorem valV_neg {p : κ × V} {r : List (κ × V)} {k : κ} (e : ¬ p.1 = k) : valV (p :: r) k = valV r k := by simp [valV, List.find?_cons, e]
theorem valV_any (k : κ) : ∀ kvs : List (κ × V), (kvs.any fun kv => decide (kv.1 = k)) = (valV kvs k).isSome
  | [] => rfl
  | p :: r => by
    rw [List.any_cons]
    by_cases e : p.1 = k
    · simp only [valV_pos e, decide_eq_true e, Bool.true_or, Option.isSome_some]
    · rw [valV_neg e, decide_eq_false e, Bool.false_or]; exact valV_any k r
theorem length_putK (kvs : List (κ × V)) (k : κ) (v : V) : (putK kvs k v).length ≤ kvs.length + 1 := by
  unfold putK
  split
  · rw [List.length_map]; omega
  · rw [List.length_append, List.length_cons, List.length_nil]; omega
theorem RelO.isSome_eq {o : Option V} {u : Option Value} (r : RelO o u) : o.isSome = u.isSome := by
  cases o with
  | none => cases u with
    | none => rfl
    | some _ => exact (show False from r).elim
  | some _ => cases u with
    | none => exact (show False from r).elim
    | some _ => rfl
theorem RelO.getD {o : Option V} {u : Option Value} {d : V} {d' : Value} (r : RelO o u) (rd : RelV d d') : RelV (o.getD d) (u.getD d') := by
  cases o with
  | none => cases u with
    | none => exact rd
    | some _ => exact (show False from r).elim
  | some _ => cases u with
    | none => exact (show False from r).elim
    | some _ => exact r
theorem KV.val {kvs : List (κ × V)} {vs : List (κ × Value)} (r : KV kvs vs) (k : κ) : RelO (valV kvs k) (valueAt vs k) := by
  unfold KV at r
  induction r with
  | nil => exact True.intro
  | @cons p q ps qs h t ih =>
    obtain ⟨h1, h2⟩ := h
    by_cases e : p.1 = k
    · have e' : q.1 = k := h1.symm.trans e
      have b : valueAt (q :: qs) k = some q.2 := by simp [valueAt, List.find?_cons, e']
      rw [valV_pos e, b]; exact h2
    · have e' : ¬ q.1 = k := fun z => e (h1.trans z)
      have b : valueAt (q :: qs) k = valueAt qs k := by simp [valueAt, List.find?_cons, e']
      rw [valV_neg e, b]; exact ih
theorem KV.any {kvs : List (κ × V)} {vs : List (κ × Value)} (r : KV kvs vs) (k : κ) : (kvs.any fun kv => decide (kv.1 = k)) = vs.any fun kv => decide (kv.1 = k) := by
  unfold KV at r
  induction r with
  | nil => rfl
  | cons h t ih => rw [List.any_cons, List.any_cons, ih, h.1]
theorem KV.repl {kvs : List (κ × V)} {vs : List (κ × Value)} (r : KV kvs vs) (k : κ) {y : V} {u : Value} (ry : RelV y u) :
    KV (kvs.map fun kv => if kv.1 = k then (kv.1, y) else kv) (vs.map fun kv => if kv.1 = k then (kv.1, u) else kv) := by
  unfold KV at r ⊢
  induction r with
  | nil => exact .nil
  | @cons p q ps qs h t ih =>
    rw [List.map_cons, List.map_cons]
    refine .cons ?_ ih
    obtain ⟨h1, h2⟩ := h
    by_cases e : p.1 = k
    · rw [if_pos e, if_pos (h1.symm.trans e)]; exact ⟨h1, ry⟩
    · rw [if_neg e, if_neg (fun z => e (h1.trans z))]; exact ⟨h1, h2⟩
theorem KV.put {kvs : List (κ × V)} {vs : List (κ × Value)} (r : KV kvs vs) (k : κ) {y : V} {u : Value} (ry : RelV y u) : KV (putK kvs k y) (stored vs k u) := by
  unfold putK stored
  rw [r.any k]
  by_cases e : (vs.any fun kv => decide (kv.1 = k)) = true
  · rw [if_pos e, if_pos e]; exact r.repl k ry
  · rw [if_neg e, if_neg e]; exact Paired.snoc r ⟨rfl, ry⟩
theorem KV.length {kvs : List (κ × V)} {vs : List (κ × Value)} (r : KV kvs vs) : kvs.length = vs.length := Paired.length r
end
theorem kV_is {P : Program} {w : World} {k : Key} {u : Value} (r : RelV (kV k) u) : (mixKind P w).is k u = true := by
  cases k with
  | inl i => obtain ⟨t, e⟩ := (show ∃ t, u = Value.int i t from r); subst e; exact mixKind_int P w i t
  | inr x => obtain ⟨t, e⟩ := (show ∃ t, u = Value.str x t from r); subst e; exact mixKind_str P w x t
theorem items_are {P : Program} {w : World} : ∀ {ks : List Key} {us : List Value}, Vals (ks.map kV) us → ItemsAre (mixKind P w) ks us
  | [], _, r => by rw [List.map_nil] at r; cases r; exact .nil
  | k :: ks, _, r => by
    rw [List.map_cons] at r
    cases r with
    | cons h t => exact .cons (kV_is h) (items_are t)
abbrev KT (H : Hp) : List (List Key × V) → List (List Key × Addr × Value) → Prop := Paired fun p q => p.1 = q.1 ∧ H q.2.1 = some (.tup (p.1.map kV)) ∧ RelV p.2 q.2.2
theorem KT.val {H : Hp} {kvs : List (List Key × V)} {xs : List (List Key × Addr × Value)} (r : KT H kvs xs) (k : List Key) : RelO (valV kvs k) ((atKey xs k).map (·.2)) := by
  induction r with
  | nil => exact True.intro
  | @cons p q ps qs h t ih =>
    obtain ⟨h1, _, h2⟩ := h
    by_cases e : p.1 = k
    · have e' : q.1 = k := h1.symm.trans e
      have b : atKey (q :: qs) k = some q.2 := by simp [atKey, List.find?_cons, e']
      rw [valV_pos e, b]; exact h2
    · have e' : ¬ q.1 = k := fun z => e (h1.trans z)
      have b : atKey (q :: qs) k = atKey qs k := by simp [atKey, List.find?_cons, e']
      rw [valV_neg e, b]; exact ih
theorem KT.repl {H : Hp} {kvs : List (List Key × V)} {xs : List (List Key × Addr × Value)} (r : KT H kvs xs) (k : List Key) {y : V} {u : Value} (ry : RelV y u) :
    KT H (kvs.map fun kv => if kv.1 = k then (kv.1, y) else kv) (xs.map (putAt k u)) := by
  induction r with
  | nil => exact .nil
  | @cons p q ps qs h t ih =>
    rw [List.map_cons, List.map_cons]
    refine .cons ?_ ih
    obtain ⟨h1, h2, h3⟩ := h
    unfold putAt
    by_cases e : p.1 = k
    · rw [if_pos e, if_pos (h1.symm.trans e)]; exact ⟨h1, h2, ry⟩
    · rw [if_neg e, if_neg (fun z => e (h1.trans z))]; exact ⟨h1, h2, h3⟩
theorem KT.put {H : Hp} {kvs : List (List Key × V)} {xs : List (List Key × Addr × Value)} (r : KT H kvs xs) (k : List Key) {b : Addr} {y : V} {u : Value} (hb : H b = some (.tup (k.map kV))) (ry : RelV y u) :
    KT H (putK kvs k y) (storedH xs k b u) := by
  have e : (kvs.any fun kv => decide (kv.1 = k)) = (atKey xs k).isSome := by
    rw [valV_any, (r.val k).isSome_eq, Option.isSome_map]
  unfold putK storedH
  rw [e]
  by_cases q : (atKey xs k).isSome = true
  · rw [if_pos q, if_pos q]; exact r.repl k ry
  · rw [if_neg q, if_neg q]; exact Paired.snoc r ⟨rfl, hb, ry⟩
theorem KT.keeps {H H' : Hp} {kvs : List (List Key × V)} {xs : List (List Key × Addr × Value)} (r : KT H kvs xs) (ht : ∀ b ys, H b = some (.tup ys) → H' b = some (.tup ys)) : KT H' kvs xs :=
  Paired.mapP r fun _ _ z => ⟨z.1, ht _ _ z.2.1, z.2.2⟩
section
variable {P : Program} {w : World} {H : Hp} {h : Heap} {a : Addr}
theorem rd_of {u : HO} (ok : HOk P w H h) (e : Rd H a u) : ObjOk P w H h a u := e.ok ok
theorem dk_rd {kvs : List (Key × V)} (ok : HOk P w H h) (e : Rd H a (.dK kvs)) : kvs.length ≤ sizeLine ∧ (a == sysModules) = false ∧ ∃ vs, KV kvs vs ∧ h.DictOf (mixKind P w) a vs :=
  show ObjOk P w H h a (.dK kvs) from rd_of ok e
theorem dk_of {kvs : List (Key × V)} (ok : HOk P w H h) (e : H a = some (.dK kvs)) : kvs.length ≤ sizeLine ∧ (a == sysModules) = false ∧ ∃ vs, KV kvs vs ∧ h.DictOf (mixKind P w) a vs := dk_rd ok (.inl e)
theorem key_of {ks : List Key} (ok : HOk P w H h) (e : H a = some (.tup (ks.map kV))) : (tupleKind (mixKind P w)).is h ks a := by
  obtain ⟨_, its, r, o, h1, h2, n, h3⟩ := (show ObjOk P w H h a (.tup (ks.map kV)) from ok a _ e)
  exact ⟨o, its.toArray, n, h1, h2, h3, by simpa using items_are r⟩
theorem dt_rd {kvs : List (List Key × V)} (ok : HOk P w H h) (e : Rd H a (.dT kvs)) : kvs.length ≤ sizeLine ∧ (a == sysModules) = false ∧
    ∃ xs, KT H kvs xs ∧ h.DictOfH (tupleKind (mixKind P w)) a xs := by
  obtain ⟨z, y, xs, r, o, es, ep, h1, h2, h3, h4, h5⟩ := (show ObjOk P w H h a (.dT kvs) from rd_of ok e)
  refine ⟨z, y, xs, r, o, es, ep, h1, h2, h3, h4, fun x hx => ?_, h5⟩
  have all : ∀ {l : List (List Key × V)} {m : List (List Key × Addr × Value)}, KT H l m → ∀ x ∈ m, (tupleKind (mixKind P w)).is h x.1 x.2.1 := by
    intro l m q
    induction q with
    | nil => intro x hx; exact nomatch hx
    | @cons p q ps qs hq t ih =>
      intro x hx
      rcases List.mem_cons.mp hx with e | hx
      · subst e
        exact key_of ok (by rw [← hq.1]; exact hq.2.1)
      · exact ih x hx
  exact all r x hx
theorem dt_of {kvs : List (List Key × V)} (ok : HOk P w H h) (e : H a = some (.dT kvs)) : kvs.length ≤ sizeLine ∧ (a == sysModules) = false ∧
    ∃ xs, KT H kvs xs ∧ h.DictOfH (tupleKind (mixKind P w)) a xs := dt_rd ok (.inl e)
end
def DGet (H : Hp) (a : Addr) (y : V) (r : Option V) : Prop :=
  (∃ kvs k, Rd H a (.dK kvs) ∧ y = kV k ∧ r = valV kvs k) ∨ ∃ kvs k b, Rd H a (.dT kvs) ∧ y = .ref b ∧ H b = some (.tup (k.map kV)) ∧ r = valV kvs k
def DPut (H : Hp) (a : Addr) (y v : V) (H' : Hp) : Prop :=
  (∃ kvs k, H a = some (.dK kvs) ∧ y = kV k ∧ kvs.length < sizeLine ∧ H' = upd H a (.dK (putK kvs k v))) ∨
  ∃ kvs k b, H a = some (.dT kvs) ∧ y = .ref b ∧ H b = some (.tup (k.map kV)) ∧ kvs.length < sizeLine ∧ H' = upd H a (.dT (putK kvs k v))
theorem DGet.k {H : Hp} {a : Addr} {kvs : List (Key × V)} {k : Key} (e : H a = some (.dK kvs)) : DGet H a (kV k) (valV kvs k) := .inl ⟨kvs, k, .inl e, rfl, rfl⟩
theorem DPut.k {H : Hp} {a : Addr} {kvs : List (Key × V)} {k : Key} {v : V} (e : H a = some (.dK kvs)) (hl : kvs.length < sizeLine) : DPut H a (kV k) v (upd H a (.dK (putK kvs k v))) := .inl ⟨kvs, k, e, rfl, hl, rfl⟩
section
variable {X : Cx} {pins : List (Addr × Obj)} {σ : St} {H : Hp} {s : Shared} {a : Addr} {y v : V} {u r : Value} {o : Option V} {A : Around} {E : Value → Shared → Prop}
theorem Inv.big (I : Inv X pins σ H s) : sysModules < s.heap.objs.size := by
  have h : mainGlobals < s.heap.objs.size := (I.mod.glob.keeps I.bk).lt
  exact Nat.lt_trans (by decide) h
theorem d_getItem {Q : Value → Shared → Prop} (hu : A.units + 1 < cLine) (I : Inv X pins σ H s) (g : DGet H a y (some v)) (ry : RelV y u) (h : ∀ w' s', Inv X pins σ H s' → RelV v w' → Q w' s') :
    wpAny (model X.prog X.w) A (getItem (.ref a) u) Q E s := by
  rcases g with ⟨kvs, k, e, ey, l⟩ | ⟨kvs, k, b, e, ey, eb, l⟩
  · subst ey
    obtain ⟨z, hd, vs, rel, dd⟩ := dk_rd I.hok e
    obtain ⟨w', hw, rw'⟩ := RelO.some_of (v := v) (o := valueAt vs k) (by rw [l]; exact rel.val k)
    exact wpAny_getItem_of (kV_is ry) dd.mapOf hw (h w' _ (I.tok _) rw')
  · subst ey
    cases (show u = Value.ref b from ry)
    obtain ⟨z, hd, xs, rel, dd⟩ := dt_rd I.hok e
    obtain ⟨w', hw, rw'⟩ := RelO.some_of (v := v) (o := (atKey xs k).map (·.2)) (by rw [l]; exact rel.val k)
    obtain ⟨p, hp, hp2⟩ := Option.map_eq_some_iff.mp hw
    refine wpAny_getItem_heap (tupleKind_room_in1 hu) (key_of I.hok eb) dd hp ?_
    rw [hp2]
    exact h w' _ (I.tok _) rw'
theorem d_in {Q : Value → Shared → Prop} (hu : A.units + 1 < cLine) (I : Inv X pins σ H s) (g : DGet H a y o) (ry : RelV y u) (h : ∀ s', Inv X pins σ H s' → Q (.bool o.isSome) s') :
    wpAny (model X.prog X.w) A (compareOp .In u (.ref a)) Q E s := by
  rcases g with ⟨kvs, k, e, ey, l⟩ | ⟨kvs, k, b, e, ey, eb, l⟩
  · subst ey
    obtain ⟨z, hd, vs, rel, dd⟩ := dk_rd I.hok e
    refine wpAny_in_of (kV_is ry) hd dd.mapOf ?_
    rw [← (rel.val k).isSome_eq, ← l]
    exact h _ (I.tok _)
  · subst ey
    cases (show u = Value.ref b from ry)
    obtain ⟨z, hd, xs, rel, dd⟩ := dt_rd I.hok e
    refine wpAny_in_heap (tupleKind_room_in1 hu) (key_of I.hok eb) hd dd ?_
    have q := (rel.val k).isSome_eq
    rw [Option.isSome_map] at q
    rw [← q, ← l]
    exact h _ (I.tok _)
theorem d_write {h' : Heap} {t' : Nat} {ob : HO} (I : Inv X pins σ H s) (mu : Mut (H a)) (hs : Heap.SameBut a s.heap h') (he : ∃ q, h'.get? a = some q) (new : ObjOk X.prog X.w (upd H a ob) h' a ob) :
    Inv X pins σ (upd H a ob) { s with heap := h', toks := t' } :=
  I.write (x := a) (e := a) mu (.inl rfl) (fun b q hb z => (hs.2 b hb).trans z) he new
theorem dk_new {P : Program} {w : World} {H' : Hp} {h' : Heap} {kvs : List (Key × V)} {vs : List (Key × Value)} (z : kvs.length ≤ sizeLine) (hd : (a == sysModules) = false) (rel : KV kvs vs) (dd : h'.DictOf (mixKind P w) a vs) :
    ObjOk P w H' h' a (.dK kvs) := ⟨z, hd, vs, rel, dd⟩
theorem d_setItem {H' : Hp} {Q : Unit → Shared → Prop} (hu : A.units + 1 < cLine) (I : Inv X pins σ H s) (g : DPut H a y v H') (ry : RelV y u) (rv : RelV v r) (h : ∀ s', Inv X pins σ H' s' → Q () s') :
    wpAny (model X.prog X.w) A (setItem (.ref a) u r) Q E s := by
  rcases g with ⟨kvs, k, e, ey, l, eH⟩ | ⟨kvs, k, b, e, ey, eb, l, eH⟩
  · subst ey eH
    obtain ⟨z, hd, vs, rel, dd⟩ := dk_of I.hok e
    have hz : vs.length ≤ sizeLine := by rw [← rel.length]; exact z
    have hl : (putK kvs k v).length ≤ sizeLine := by have := length_putK kvs k v; omega
    refine wpAny_setItem_pairs (hsz := hz) (kV_is ry) dd fun h' dd' hs => h _ ?_
    have he : ∃ q, h'.get? a = some q := let ⟨q, _, _, hq, _⟩ := dd'; ⟨q, hq⟩
    exact d_write I (by rw [e]; exact True.intro) hs he (dk_new hl hd (rel.put k rv) dd')
  · subst ey eH
    cases (show u = Value.ref b from ry)
    obtain ⟨z, hd, xs, rel, dd⟩ := dt_of I.hok e
    have hz : xs.length ≤ sizeLine := by rw [← Paired.length rel]; exact z
    have hl : (putK kvs k v).length ≤ sizeLine := by have := length_putK kvs k v; omega
    refine wpAny_setItem_heap (hsz := hz) (tupleKind_room_in1 hu) (key_of I.hok eb) dd fun h' dd' hs => h _ ?_
    obtain ⟨q, es, ep, hq, h2, h3, h4, _, h5⟩ := dd'
    refine d_write I (by rw [e]; exact True.intro) hs ⟨q, hq⟩ ⟨hl, hd, _, (rel.put k eb rv).keeps fun c ys ec => ?_, q, es, ep, hq, h2, h3, h4, h5⟩
    rw [upd_ne (ne_of ec e (fun z => nomatch z))]
    exact ec
end
section
variable {X : Cx} {pins : List (Addr × Obj)} {σ : St} {H : Hp} {s : Shared} {a : Addr} {kvs : List (Key × V)} {k : Key} {u : Value} {A : Around} {E : Value → Shared → Prop}
theorem d_len {Q : Value → Shared → Prop} (I : Inv X pins σ H s) (e : Rd H a (.dK kvs)) (h : ∀ t s', Inv X pins σ H s' → Q (.int kvs.length t) s') : wpAny (model X.prog X.w) A (call (.builtin "len") [.ref a]) Q E s := by
  obtain ⟨z, hd, vs, rel, dd⟩ := dk_rd I.hok e
  refine call_len_dict hd dd (by rw [← rel.length]; rw [sizeLine_eq] at z; omega) ?_
  rw [← rel.length]
  exact h _ _ (I.tok _)
end
def NoSl (i : Expr) : Prop := ∀ ov iv, subscripted i false ov iv = operate [ov, iv] (getItem ov iv)
theorem subD_of {prog : Program} {w : World} {A : Around} {E : Value → Shared → Prop} {s : Shared} {env : Env} {value slice : Expr} {pos : Pos} {T id : String} {Q : Value → Shared → Prop}
    (hl : typeLookup (.type T) "__getitem__" = pure (some (.builtin id))) (hs : NoSl slice)
    (h : wpAny (model prog w) A (eval value env) (fun o s₁ => wpAny (model prog w) A (eval slice env) (fun i s₂ => s₂.TypeIs o T ∧ wpAny (model prog w) A (getItem o i) Q E s₂) E s₁) E s) :
    wpAny (model prog w) A (eval (.Subscript value slice pos) env) Q E s := by
  refine Subscript_ (wpAny_mono h (fun o s₁ h₁ => wpAny_mono h₁ (fun i s₂ h₂ => ?_) fun _ _ x => x) fun _ _ x => x)
  obtain ⟨hT, h₂⟩ := h₂
  unfold subscriptTail
  refine wpAny_bind ?_
  rw [getitemInPython_of_ne hT.not_modules]
  refine wpAny_bind (wpAny_specialOf hT hl ?_)
  have fin : wpAny (model prog w) A (subscripted slice false o i) (fun r s₃ => wpAny (model prog w) A (letTemporaryGo value o r >>= fun _ => pure r) Q E s₃) E s₂ := by
    rw [hs o i]
    exact wpAny_operating (wpAny_mono h₂ (fun r s₃ h₃ => wpAny_bind (wpAny_letTemporaryGo (wpAny_pure h₃))) fun _ _ x => x)
  first
    | exact wpAny_pure (wpAny_bind fin)
    | exact wpAny_bind (wpAny_pure (wpAny_bind fin))
    | exact wpAny_bind fin
theorem dict_typeIs {X : Cx} {pins : List (Addr × Obj)} {σ : St} {H : Hp} {s : Shared} {a : Addr} {y : V} {o : Option V} (I : Inv X pins σ H s) (g : DGet H a y o) : s.TypeIs (.ref a) "dict" := by
  rcases g with ⟨kvs, k, e, _, _⟩ | ⟨kvs, k, b, e, _, _, _⟩
  · obtain ⟨_, _, vs, _, dd⟩ := dk_rd I.hok e
    exact dd.typeIs
  · obtain ⟨_, _, xs, _, dd⟩ := dt_rd I.hok e
    exact dd.typeIs
def tDGet (td ty : TE) : TE := fun σ H Q => td σ H fun x H1 => ty σ H1 fun y H2 => ∃ a v, x = .ref a ∧ DGet H2 a y (some v) ∧ Q v H2
def tDIn (ty td : TE) : TE := fun σ H Q => ty σ H fun y H1 => td σ H1 fun x H2 => ∃ a o, x = .ref a ∧ DGet H2 a y o ∧ Q (.bl o.isSome) H2
def sDPut (td ty tv : TE) : TS := fun D σ H => tv σ H fun v H1 => td σ H1 fun x H2 => ty σ H2 fun y H3 => ∃ a H4, x = .ref a ∧ DPut H3 a y v H4 ∧ D.nx σ H4
section
variable {X : Cx} {o i e value : Expr} {pos pos' tpos : Pos} {td ty tv : TE}
theorem pe_dget (hu : X.A.units + 1 < cLine) (ho : PE X o td) (hi : PE X i ty) (hs : NoSl i) : PE X (.Subscript o i pos) (tDGet td ty) := by
  intro pins s σ H Q I h
  refine subD_of PySem.F.slot_dict_getitem.lookup hs (thn (ho pins s σ H _ I h) fun u s1 ⟨x, H1, I1, rx, q1⟩ => thn (hi pins s1 σ H1 _ I1 q1) fun iv s2 ⟨y, H2, I2, ry, a, v, ex, g, q2⟩ => ?_)
  subst ex
  obtain rfl : u = Value.ref a := rx
  exact ⟨dict_typeIs I2 g, d_getItem hu I2 g ry fun w' s3 I3 rw' => ⟨v, H2, I3, rw', q2⟩⟩
theorem pc_din (hu : X.A.units + 1 < cLine) (hi : PE X i ty) (ho : PE X o td) : PC X .In i o (tDIn ty td) := by
  intro pins s σ H Q I h
  refine thn (hi pins s σ H _ I h) fun iv s1 ⟨y, H1, I1, ry, q1⟩ => thn (ho pins s1 σ H1 _ I1 q1) fun u s2 ⟨x, H2, I2, rx, a, ov, ex, g, q2⟩ => ?_
  subst ex
  obtain rfl : u = Value.ref a := rx
  exact d_in hu I2 g ry fun s3 I3 => ⟨.bl ov.isSome, H2, I3, rfl, q2⟩
theorem ps_dput (hu : X.A.units + 1 < cLine) (ho : PE X o td) (hi : PE X i ty) (hv : PE X value tv) (hs : swapsWith value (some (.Subscript o i pos')) pos.line X.env = pure false) :
    PS X (.Assign [.Subscript o i pos'] value pos) (sDPut td ty tv) := by
  intro pins s σ H D I h
  refine wpAny_Assign_Subscript (thn (hv pins s σ H _ I h) fun r s1 ⟨v, H1, I1, rv, q1⟩ => thn (ho pins s1 σ H1 _ I1 q1) fun u s2 ⟨x, H2, I2, rx, q2⟩ => thn (hi pins s2 σ H2 _ I2 q2) fun iv s3 ⟨y, H3, I3, ry, a, H4, ex, g, q3⟩ => ?_) hs
  subst ex
  obtain rfl : u = Value.ref a := rx
  exact d_setItem hu I3 g ry rv fun s4 I4 => ⟨σ, H4, I4, q3⟩
end
theorem dk_empty {P : Program} {w : World} {H : Hp} (h : Heap) (hb : sysModules < h.objs.size) : ObjOk P w H (h.push { cls := .type "dict", data := .dict #[] }) h.objs.size (.dK []) :=
  ⟨Nat.zero_le _, beq_eq_false_iff_ne.mpr (Ne.symm (Nat.ne_of_lt hb)), [], .nil, Heap.DictOf.new h⟩
def tDNewK : TE := fun _ H Q => ∀ p, H p = none → Q (.ref p) (upd H p (.dK []))
section
variable {X : Cx} {pos : Pos}
theorem pe_dnewK : PE X (.Dict [] [] pos) tDNewK := fun pins s σ H Q I h =>
  wpAny_Dict_empty ⟨.ref s.heap.objs.size, _, I.laid (a := s.heap.objs.size) (o := .dK []) (t' := s.toks) (fun _ _ q => Heap.get?_push_of_some _ q) (Nat.le_refl _) (dk_empty s.heap I.big), rfl, h _ (I.hok.fresh (Nat.le_refl _))⟩
end
structure M1 (X : Cx) (o : Expr) (m : Str) (apos : Pos) (e : Expr) (cpos : Pos) : Prop where
  base : attributeBase o m X.env (eval o X.env) = eval o X.env
  few : ((backTo cpos (starEach [e] X.env)).all (fun x => !x.1) && (backToKw cpos (keywordEach [] X.env)).all (fun x => x.1.isSome)
    && decide (([e] : List Expr).length + ([] : List Keyword).length + (if ([] : List Keyword).isEmpty then 0 else 1) < 30)) = true
  line : (apos.endLine == cpos.line) = true
  trees : backTo cpos (starEach [e] X.env) = [(false, eval e X.env)]
def IsD (H : Hp) (a : Addr) : Prop := (∃ kvs, Rd H a (.dK kvs)) ∨ ∃ kvs, Rd H a (.dT kvs)
theorem isD_at {X : Cx} {pins : List (Addr × Obj)} {σ : St} {H : Hp} {s : Shared} {a : Addr} (I : Inv X pins σ H s) (d : IsD H a) :
    s.TypeIs (.ref a) "dict" ∧ (∀ b, Value.ref a = .ref b → ∃ ob, s.heap.get? b = some ob ∧ ob.dict = none) ∧ (a == sysModules) = false := by
  rcases d with ⟨kvs, e⟩ | ⟨kvs, e⟩
  · obtain ⟨_, hd, vs, _, dd⟩ := dk_rd I.hok e
    refine ⟨dd.typeIs, fun b q => ?_, hd⟩
    cases q
    obtain ⟨ob, _, _, h1, h2, _⟩ := dd
    exact ⟨ob, h1, h2.2.1⟩
  · obtain ⟨_, hd, xs, _, dd⟩ := dt_rd I.hok e
    refine ⟨dd.typeIs, fun b q => ?_, hd⟩
    cases q
    obtain ⟨ob, _, _, h1, h2, _⟩ := dd
    exact ⟨ob, h1, h2.2.1⟩
section
variable {X : Cx} {pins : List (Addr × Obj)} {σ : St} {H : Hp} {s : Shared} {a : Addr} {y d : V} {u r : Value} {o : Option V} {A : Around} {E : Value → Shared → Prop}
theorem d_get1 {Q : Value → Shared → Prop} (hu : A.units + 1 < cLine) (I : Inv X pins σ H s) (g : DGet H a y o) (ry : RelV y u) (h : ∀ w' s', Inv X pins σ H s' → RelV (o.getD .non) w' → Q w' s') :
    wpAny (model X.prog X.w) A (call (.builtin "dict.get") [.ref a, u]) Q E s := by
  rcases g with ⟨kvs, k, e, ey, l⟩ | ⟨kvs, k, b, e, ey, eb, l⟩
  · subst ey
    obtain ⟨z, hd, vs, rel, dd⟩ := dk_rd I.hok e
    refine call_meetsIn PySem.F.slot_dict_get dd.typeIs PySem.F.entry_dict_get (PySem.F.args_dict_get_2 _ _) (meets_dict_get (mixKind X.prog X.w) a (kV_is ry) hd) ⟨_, dd.mapOf, h _ _ (I.tok _) ?_⟩
    rw [l]
    exact (rel.val k).getD rfl
  · subst ey
    cases (show u = Value.ref b from ry)
    obtain ⟨z, hd, xs, rel, dd⟩ := dt_rd I.hok e
    refine call_meetsIn PySem.F.slot_dict_get dd.typeIs PySem.F.entry_dict_get (PySem.F.args_dict_get_2 _ _) (meetsH_dict_get (tupleKind (mixKind X.prog X.w)) a b hd) ⟨tupleKind_room_in1 hu, k, xs, key_of I.hok eb, dd, h _ _ (I.tok _) ?_⟩
    rw [l]
    exact (rel.val k).getD rfl
end
def tDGet1 (td ty : TE) : TE := fun σ H Q => td σ H fun x H1 => ∃ a, x = .ref a ∧ IsD H1 a ∧ ty σ H1 fun y H2 => ∃ o, DGet H2 a y o ∧ Q (o.getD .non) H2
section
variable {X : Cx} {o e f : Expr} {apos cpos : Pos} {td ty tx : TE}
theorem pe_dget1 (hu : X.A.units + 1 < cLine) (ho : PE X o td) (he : PE X e ty) (m : M1 X o "get" apos e cpos) : PE X (.Call (.Attribute o "get" apos) [e] [] cpos) (tDGet1 td ty) := by
  intro pins s σ H Q I h
  refine wpAny_Call_method m.base m.few m.line PySem.F.plainAttrs_dict PySem.F.slot_dict_get PySem.F.type_dict_get (thn (ho pins s σ H _ I h) fun u s1 ⟨x, H1, I1, rx, a, ex, d, q1⟩ => ?_)
  subst ex
  obtain rfl : u = Value.ref a := rx
  obtain ⟨t1, t2, _⟩ := isD_at I1 d
  refine ⟨t1, t2, ?_⟩
  rw [m.trees]
  refine Calls.callWith_builtin rfl (Calls.evalArgs_plain (Calls.spliced_cons (thn (he pins s1 σ H1 _ I1 q1) fun iv s2 ⟨y, H2, I2, ry, ov, g, q2⟩ => Calls.spliced_nil ?_)))
  exact d_get1 hu I2 g ry fun w' s3 I3 rw' => ⟨_, H2, I3, rw', q2⟩
end
section
variable {X : Cx} {pins : List (Addr × Obj)} {σ : St} {H : Hp} {s : Shared} {a : Addr} {kvs : List (Key × V)} {A : Around} {E : Value → Shared → Prop}
end
section
variable {X : Cx} {pins : List (Addr × Obj)} {σ : St} {H : Hp} {s : Shared} {a : Addr} {y : V} {u : Value} {A : Around} {E : Value → Shared → Prop}
end
end L2
namespace L2
open PySem PySem.Spec PyProof.Rows
section
variable {prog : Program} {w : World} {A : Around} {E : Value → Shared → Prop}
end
section
variable {X : Cx}
end
end L2
namespace L2
open PySem PySem.Spec PyProof.Rows
section
variable {X : Cx} {pins : List (Addr × Obj)} {σ : St} {H : Hp} {s : Shared} {h' : Heap}
theorem Inv.turnedL {t' : Nat} {ch : List Addr} (I : Inv X pins σ H s) (k : ∀ b o, b ∉ ch → s.heap.get? b = some o → h'.get? b = some o) (hf : ∀ b ∈ ch, FpOk X pins H b) : Inv X pins σ H { s with heap := h', toks := t' } := by
  have nit : ∀ b u, H b = some u → b ∉ ch := fun b u e z => by
    have q := (hf b z).1
    rw [q] at e; cases e
  refine I.step (g' := s.gens) (d' := s.drawn) (ch := ch) (fun b hb => ⟨(hf b hb).2.2.2.1, (hf b hb).2.1, (hf b hb).2.2.2.2.1, (hf b hb).2.2.2.2.2⟩) (fun b o _ _ hc e _ => k b o hc e) (fun b o _ _ hc e _ => ⟨o.slots, k b o hc e⟩)
    (fun _ _ _ _ n => n) (fun b o hc e => ⟨o, k b o hc e⟩) (fun _ _ e => e) (fun _ _ _ e => e) (fun b ps e => ⟨#[], by rw [e]; simp⟩) (fun m hm => ?_) (fun b u e => ?_) I.bare
  · obtain ⟨o, es, ep, ho, r⟩ := hm
    exact ⟨o, es, ep, k _ o (fun z => (hf _ z).2.1 rfl) ho, r⟩
  · refine (I.hok b u e).stay (fun c v hc q => k c v ?_ q) (fun _ q => q) fun _ _ q => q
    rcases hc with z | z
    · rw [z]; exact nit b u e
    · exact nit c _ z
theorem Inv.turnedNew {t' : Nat} {ch : List Addr} {T : Addr} {ob : HO} (I : Inv X pins σ H s) (k : ∀ b o, b ∉ ch → s.heap.get? b = some o → h'.get? b = some o) (hf : ∀ b ∈ ch, FpOk X pins H b) (hT : s.heap.objs.size ≤ T)
    (new : ObjOk X.prog X.w (upd H T ob) h' T ob) : Inv X pins σ (upd H T ob) { s with heap := h', toks := t' } := by
  have hn : H T = none := I.hok.fresh hT
  have nit : ∀ b u, H b = some u → b ∉ ch := fun b u e z => by
    have q := (hf b z).1
    rw [q] at e; cases e
  refine I.step (g' := s.gens) (d' := s.drawn) (ch := ch) (fun b hb => ⟨(hf b hb).2.2.2.1, (hf b hb).2.1, (hf b hb).2.2.2.2.1, (hf b hb).2.2.2.2.2⟩) (fun b o _ _ hc e _ => k b o hc e) (fun b o _ _ hc e _ => ⟨o.slots, k b o hc e⟩)
    (fun b o _ e n => ?_) (fun b o hc e => ⟨o, k b o hc e⟩) (fun b xs e => ?_) (fun b o u e => ?_) (fun b ps e => ⟨#[], ?_⟩) (fun m hm => ?_) (fun b u e => ?_) I.bare
  · rw [upd_ne (Nat.ne_of_lt (Nat.lt_of_lt_of_le (Heap.lt_size e) hT))]; exact n
  · rw [upd_ne (ne_of_none e hn)]; exact e
  · rw [upd_ne (ne_of_none e hn)]; exact e
  · rw [upd_ne (ne_of_none e hn), e]; simp
  · obtain ⟨o, es, ep, ho, r⟩ := hm
    exact ⟨o, es, ep, k _ o (fun z => (hf _ z).2.1 rfl) ho, r⟩
  · by_cases hb : b = T
    · subst hb
      rw [upd_same] at e
      cases e
      exact new
    · rw [upd_ne hb] at e
      refine (I.hok b u e).stay (fun c v hc q => k c v ?_ q) (fun c q => by rw [upd_ne (ne_of_none q hn)]; exact q) fun c xs q => by rw [upd_ne (ne_of_none q hn)]; exact q
      rcases hc with z | z
      · rw [z]; exact nit b u e
      · exact nit c _ z
theorem Inv.lock {d : Addr} {u : HO} (I : Inv X pins σ H s) (h : H d = some u) (mu : Mut (some u)) : ∃ od, Inv X pins σ (upd H d (.frz od u)) s := by
  have x := I.hok d u h
  have ex : ∃ od, s.heap.get? d = some od := by
    cases u with
    | lst xs => obtain ⟨_, _, _, _, e⟩ := x; exact ⟨_, e⟩
    | dK kvs => obtain ⟨_, _, _, _, o, _, _, e, _⟩ := x; exact ⟨o, e⟩
    | dT kvs => obtain ⟨_, _, _, _, o, _, _, e, _⟩ := x; exact ⟨o, e⟩
    | set S n => obtain ⟨o, _, _, _, e, _⟩ := x; exact ⟨o, e⟩
    | ins C dx fs => obtain ⟨_, _, _, e, _⟩ := x; exact ⟨_, e⟩
    | ext φ => obtain ⟨_, ⟨_, e⟩, _⟩ := x; exact ⟨_, e⟩
    | _ => exact False.elim mu
  obtain ⟨od, e⟩ := ex
  have new : ObjOk X.prog X.w (upd H d (.frz od u)) s.heap d (.frz od u) := by
    refine ⟨e, x.stay (fun b v _ q => q) (fun b q => ?_) fun b xs q => ?_⟩
    · rw [upd_ne (fun z => by rw [z, h] at q; cases q; exact mu)]; exact q
    · rw [upd_ne (fun z => by rw [z, h] at q; cases q; exact mu)]; exact q
  exact ⟨od, I.write (x := d) (e := d) (t' := s.toks) (h' := s.heap) (by rw [h]; exact mu) (.inl rfl) (fun b v _ q => q) ⟨od, e⟩ new⟩
theorem Inv.nofrz {d : Addr} {u : HO} (I : Inv X pins σ H s) (h : H d = some u) (mu : Mut (some u)) : ∀ o' u', X.H_0 d ≠ some (.frz o' u') := fun o' u' e => by
  have q := I.base.frzs d o' u' e
  rw [h] at q
  cases q
  exact mu
theorem Inv.unlock {d : Addr} {od : Obj} {u : HO} (I : Inv X pins σ H s) (h : H d = some (.frz od u)) (hn : ∀ o' u', X.H_0 d ≠ some (.frz o' u')) : Inv X pins σ (upd H d u) s := by
  have neH : ∀ b o, H b = some o → (∀ o' u', o ≠ .frz o' u') → b ≠ d := fun b o e hne z => by
    rw [z, h] at e
    cases e
    exact hne _ _ rfl
  have neN : ∀ b, H b = none → b ≠ d := fun b e z => by rw [z, h] at e; cases e
  refine ⟨I.ok, I.os, I.bare, ⟨I.base.keep, I.base.slot, fun b o e n hx => ?_, I.base.there, fun b xs e => ?_, fun b o x e => ?_, fun b ps e => ?_⟩, I.loc, I.cell, ?_, fun x c e => ?_, fun p hp => ?_, fun b o e => ?_, I.len⟩
  · rw [upd_ne (neN b (I.base.free b o e n hx))]; exact I.base.free b o e n hx
  · have q := I.base.tups b xs e
    rw [upd_ne (neH b _ q (fun _ _ z => nomatch z))]; exact q
  · have q := I.base.frzs b o x e
    rw [upd_ne (fun z => by rw [z] at e; exact hn _ _ e)]; exact q
  · obtain ⟨m, q⟩ := I.base.tbls b ps e
    exact ⟨m, by rw [upd_ne (neH b _ q (fun _ _ z => nomatch z))]; exact q⟩
  · rw [upd_ne (neN _ I.free)]; exact I.free
  · rw [upd_ne (neN c (I.freeC x c e))]; exact I.freeC x c e
  · obtain ⟨e, n, r⟩ := I.pin p hp
    exact ⟨e, by rw [upd_ne (neN _ n)]; exact n, r⟩
  · by_cases hb : b = d
    · rw [hb, upd_same] at e
      cases e
      rw [hb]
      obtain ⟨_, x⟩ := I.hok d _ h
      exact x.stay (fun c v _ q => q) (fun c q => by rw [upd_ne (neH c _ q (fun _ _ z => nomatch z))]; exact q) fun c xs q => by rw [upd_ne (neH c _ q (fun _ _ z => nomatch z))]; exact q
    · rw [upd_ne hb] at e
      exact (I.hok b o e).stay (fun c v _ q => q) (fun c q => by rw [upd_ne (neH c _ q (fun _ _ z => nomatch z))]; exact q) fun c xs q => by rw [upd_ne (neH c _ q (fun _ _ z => nomatch z))]; exact q
end
def tLockE (t : TE) : TE := fun σ H Q => ∃ d u, H d = some u ∧ Mut (some u) ∧ ∀ od, t σ (upd H d (.frz od u)) fun v H' => H' d = some (.frz od u) ∧ Q v (upd H' d u)
section
variable {X : Cx}
theorem pe_lock {e : Expr} {t : TE} (h : PE X e t) : PE X e (tLockE t) := by
  intro pins s σ H Q I hw
  obtain ⟨d, u, hd, mu, hw⟩ := hw
  obtain ⟨od, I1⟩ := I.lock hd mu
  refine thn (h pins s σ _ _ I1 (hw od)) fun v s1 ⟨x, H1, I2, r, e2, q⟩ => ?_
  exact ⟨x, _, I2.unlock e2 (I.nofrz hd mu), r, q⟩
theorem pi_one {tg : Expr} {pins : List (Addr × Obj)} {σ : St} {H : Hp} {s : Shared} {R : It → Hp → Prop} {J : It} {tn : Nat → Heap → Prop} {tk : Nat} (I : Inv X pins σ H s) (o : Obj)
    (T : Turn X.prog X.w X.K tg J [s.heap.objs.size] s.heap.objs.size tn) (st : tn 0 (s.heap.push o)) (q : R J H) : PIE X pins σ tg R (.ref s.heap.objs.size) { s with heap := s.heap.push o, toks := tk } := by
  refine ⟨s.heap.objs.size, [s.heap.objs.size], tn, J, H, rfl, I.kept fun b ob e => Heap.get?_push_of_some _ e, T, st, fun b hb => ?_, q⟩
  have e : b = s.heap.objs.size := by simpa using hb
  subst e
  exact I.fpOk (Nat.le_refl _) (I.hok.fresh (Nat.le_refl _))
end
def Itc (lo c : Int) (n : Nat) : It := ⟨fun i _ => i < n, fun i H x H' => H' = H ∧ x = .int (lo + (i : Nat) * c), fun i _ => n ≤ i⟩
theorem turn_rangeC {P : Program} {w : World} {K : PySem.W.Frag} {tg : Expr} (it : Addr) (lo c : Int) (n : Nat) : Turn P w K tg (Itc lo c n) [it] it (fun i h => IsRangeIter h it (lo + (i : Nat) * c) ((n : Int) - (i : Nat)) c) where
  mem := by simp
  obj := fun i h st b hb => by
    have e : b = it := by simpa using hb
    subst e
    exact ⟨_, st, fun v z => nomatch z⟩
  keep := fun i h h' st k => k it (by simp) _ st
  item := by
    intro X hP hw hK hc i pins s σ H E I hf st hg
    subst hP hw hK
    obtain ⟨f0, f1, f2, f3, f4, f5⟩ := hf it (by simp)
    have W := Walks.range (prog := X.prog) (w := X.w) (I.ok.hd hc) it lo c n
    refine W.item i s _ _ hg st fun v h' tk hv st' kk => ?_
    obtain ⟨t, rfl⟩ := hv
    have I1 : Inv X pins σ H { s with heap := h', toks := tk } := I.turned (fun b o hb e => kk b o (by simpa using hb) e) f0 f1 f3 f4 f5
    exact ⟨_, rfl, go_of (s := { s with heap := h', toks := tk }) (n := "range_iterator") st' rfl rfl (by decide) ⟨.int (lo + (i : Nat) * c), H, I1, ⟨t, rfl⟩, ⟨rfl, rfl⟩, st', fun b hb => (hf b hb).1⟩⟩
  done := by
    intro X hP hw hK hc i pins s σ H E I hf st hg
    subst hP hw hK
    obtain ⟨f0, f1, f2, f3, f4, f5⟩ := hf it (by simp)
    exact wpAny_pyNext_range_end (I.ok.hd hc) st (by have : n ≤ i := hg; omega) fun h' eb => ⟨rfl, I.turned (t' := s.toks) (fun b o hb e => eb b o hb e) f0 f1 f3 f4 f5⟩
  self := fun A i s Q E st h => wpAny_pyIter_rangeiter st h
def RgC (i j c : Int) (n : Nat) : Prop := c ≠ 0 ∧ c.natAbs < 1073741824 ∧ Builtin.Range.small i j c = true ∧ Builtin.Range.rangeSize i j c = n
theorem RgC.neg {i j : Int} (ha : -(2 ^ 62) ≤ i) (ha' : i < 2 ^ 62) (hb : -(2 ^ 62) ≤ j) (hb' : j < 2 ^ 62) : RgC i j (-1) (i - j).toNat :=
  ⟨by decide, by decide, PySem.W.small_down ha ha' hb hb', PySem.W.rangeSize_downNat i j⟩
def iRng3 (ta : TA) : TI := fun σ H R => ta σ H fun vs H1 => ∃ (i j c : Int) (n : Nat), vs = [.int i, .int j, .int c] ∧ RgC i j c n ∧ R (Itc i c n) H1
section
variable {X : Cx} {tg : Expr}
theorem pi_range3 {a b c : Expr} {ta : TA} {p pos : Pos} (hg : Gl X "range") (hm : X.mg "range" = none) (ha : PA X [a, b, c] ta)
    (hs : starEach [a, b, c] X.env = (false, eval a X.env) :: starEach [b, c] X.env := by rfl) (hpl : (backTo pos (starEach [b, c] X.env)).any (·.1) = false := by rfl) :
    PI X tg (.Call (.Name "range" p) [a, b, c] [] pos) (iRng3 ta) := by
  intro pins s σ H R I h
  refine Call_ (ld_blt I hg hm boot_range (PyProof.Rows.callWith_type1 (thn (ha pos pins s σ H _ I h) fun us s1 ⟨vs, H1, I1, r1, q1⟩ => ?_) hs hpl))
  obtain ⟨i, j, k, n, e, ⟨c0, c1, c2, c3⟩, q⟩ := q1
  subst e
  cases r1 with
  | cons r rr =>
    cases rr with
    | cons r' rr =>
      cases rr with
      | cons r'' rr =>
        cases rr
        obtain ⟨t, rfl⟩ := r
        obtain ⟨t', rfl⟩ := r'
        obtain ⟨t'', rfl⟩ := r''
        refine call_range_3 c0 ?_ (.inl (PyProof.noPylong_small c1))
        refine wpAny_pyIter_range (IsRange.new ..) c2 ?_
        have I2 : Inv X pins σ H1 { s1 with heap := s1.heap.push { cls := .type "range", data := .fields #[.int i t, .int j t', .int k t''] } } := I1.kept (t' := s1.toks) fun b o e => Heap.get?_push_of_some _ e
        refine pi_one (tk := s1.toks) I2 _ (turn_rangeC _ i k n) ?_ q
        have e1 : i + ((0 : Nat) : Int) * k = i := by simp
        have e2 : (n : Int) - ((0 : Nat) : Int) = Builtin.Range.rangeSize i j k := by rw [c3]; simp
        show IsRangeIter _ _ (i + ((0 : Nat) : Int) * k) ((n : Int) - ((0 : Nat) : Int)) k
        rw [e1, e2]
        exact Heap.get?_push_size _ rfl
end
theorem for_rangeC {lo c : Int} {n : Nat} {g : TG} {tb : TS} {D : Ends} {σ : St} {H : Hp} (Pv : Nat → St → Hp → Prop) (h0 : Pv 0 σ H)
    (hs : ∀ i σ H, i < n → Pv i σ H → g (.int (lo + (i : Nat) * c)) σ H fun σ2 H2 => tb { D with nx := Pv (i + 1), ct := Pv (i + 1), bk := D.nx } σ2 H2) (hd : ∀ σ H, Pv n σ H → D.nx σ H) :
    ∃ W : Nat → Nat → St → Hp → Prop, (∃ m, W 0 m σ H) ∧ ∀ i m σ H, W i m σ H →
      ((Itc lo c n).stop i H ∧ D.nx σ H) ∨ ((Itc lo c n).go i H ∧ ∃ N : St → Hp → Prop, (∀ σ' H', N σ' H' → ∃ m', m' < m ∧ W (i + 1) m' σ' H') ∧ ∀ x H', (Itc lo c n).yld i H x H' → g x σ H' fun σ2 H2 => tb { D with nx := N, ct := N, bk := D.nx } σ2 H2) := by
  refine ⟨fun i m σ H => m = n - i ∧ i ≤ n ∧ Pv i σ H, ⟨n, by simp, Nat.zero_le _, h0⟩, ?_⟩
  rintro i m σ H ⟨rfl, hi, p⟩
  by_cases hlt : i < n
  · refine .inr ⟨hlt, Pv (i + 1), fun σ' H' p' => ⟨n - (i + 1), by omega, rfl, hlt, p'⟩, fun x H' y => ?_⟩
    obtain ⟨e, y⟩ := y
    subst e y
    exact hs i σ _ hlt p
  · have e : i = n := by omega
    subst e
    exact .inl ⟨Nat.le_refl _, hd σ H p⟩
section
variable {X : Cx} {tg : Expr}
end
section
variable {prog : Program} {w : World} {A : Around} {E : Value → Shared → Prop} {s : Shared}
end
theorem relV_key {k : Key} {u : Value} (h : keyIs k u = true) : RelV (kV k) u := by
  rcases keyIs_shape h with ⟨i, t, rfl, rfl⟩ | ⟨x, t, rfl, rfl⟩
  · exact ⟨t, rfl⟩
  · exact ⟨t, rfl⟩
section
variable {X : Cx} {pins : List (Addr × Obj)} {σ : St} {H : Hp} {s : Shared} {d : Addr} {o : Obj}
end
section
variable {P : Program} {w : World} {K : PySem.W.Frag} {tg : Expr} {d : Addr} {o : Obj} {es : Array DictEntry} {ep : Nat}
end
section
variable {X : Cx} {tg e : Expr} {td : TE} {apos cpos : Pos}
end
theorem boot_zip5 : bootBuiltins "zip" = some (.type "zip") := by decide +kernel
def Itz (K : PySem.W.Frag) (a b : Addr) : It :=
  ⟨fun i H => ∃ (xs ys : List V) (x y : V), SqL K H a xs ∧ SqL K H b ys ∧ xs[i]? = some x ∧ ys[i]? = some y,
    fun i H v H' => ∃ T x y, v = .ref T ∧ H T = none ∧ H' = upd H T (.tup [x, y]) ∧ (∀ xs, SqL K H a xs → xs[i]? = some x) ∧ ∀ ys, SqL K H b ys → ys[i]? = some y,
    fun i H => ∃ xs ys : List V, SqL K H a xs ∧ SqL K H b ys ∧ (xs.length ≤ i ∨ ys.length ≤ i)⟩
theorem turn_zip {P : Program} {w : World} {K : PySem.W.Frag} {elts : List Expr} {kk : Nat} {tpos : Pos} {a b z TI TO i1 i2 : Addr} (D : ZipApart z TI TO i1 i2 a b) :
    Turn P w K (.Tuple elts kk tpos) (Itz K a b) [z, TI, TO, i1, i2] z (fun i h => IsZip h z TI TO .none ∧ IsPair h TI (.ref i1) (.ref i2) ∧ (∃ x y, IsPair h TO x y) ∧ h.IsListIter i1 a i ∧ h.IsListIter i2 b i) where
  mem := by simp
  obj := fun i h st c hc => by
    obtain ⟨hz, hTI, ⟨x, y, hTO⟩, ⟨o1, e1, _, d1⟩, ⟨o2, e2, _, d2⟩⟩ := st
    have e' : c = z ∨ c = TI ∨ c = TO ∨ c = i1 ∨ c = i2 := by simpa using hc
    rcases e' with q | q | q | q | q
    · rw [q]; exact ⟨_, hz, fun v q => nomatch q⟩
    · rw [q]; exact ⟨_, hTI, fun v q => nomatch q⟩
    · rw [q]; exact ⟨_, hTO, fun v q => nomatch q⟩
    · rw [q]; exact ⟨o1, e1, fun v q => by rw [d1] at q; cases q⟩
    · rw [q]; exact ⟨o2, e2, fun v q => by rw [d2] at q; cases q⟩
  keep := fun i h h' st k => by
    obtain ⟨hz, hTI, ⟨x, y, hTO⟩, h1, h2⟩ := st
    exact ⟨k z (by simp) _ hz, k TI (by simp) _ hTI, ⟨x, y, k TO (by simp) _ hTO⟩, h1.at fun o q => k i1 (by simp) o q, h2.at fun o q => k i2 (by simp) o q⟩
  item := by
    intro X hP hw hK hc i pins s σ H E I hf st hg
    subst hP hw hK
    obtain ⟨hz, hTI, ⟨x0, y0, hTO⟩, h1, h2⟩ := st
    obtain ⟨xs, ys, x, y, hqx, hqy, hx, hy⟩ := hg
    obtain ⟨its, rv, p, _⟩ := I.list hqx
    obtain ⟨its2, rv2, p2, _⟩ := I.list hqy
    obtain ⟨u, hu, ru⟩ := rv.get hx
    obtain ⟨u2, hu2, ru2⟩ := rv2.get hy
    have hzl : z < s.heap.objs.size := Heap.lt_size hz
    refine wpAny_pyNext_zip_item D hz hTI hTO h1 h2 p.isList p2.isList (x := u) (y := u2) (by simpa using hu) (by simpa using hu2) fun h' z' TO' h1' h2' hT hsz hk => ?_
    refine ⟨_, rfl, wpAny_letOwnedTupleGo_zip (s := { s with heap := h' }) z' fun h'' z'' sb => ?_⟩
    have hT2 : h''.get? s.heap.objs.size = some { cls := .type "tuple", data := .seq #[u, u2] } := (sb.2 _ (Nat.ne_of_gt hzl)).trans hT
    have new : ObjOk X.prog X.w (upd H s.heap.objs.size (.tup [x, y])) h'' s.heap.objs.size (.tup [x, y]) :=
      ⟨by show 2 ≤ sizeLine; decide, [u, u2], .cons ru (.cons ru2 .nil), ⟨_, hT2, rfl, _, rfl⟩⟩
    have I1 : Inv X pins σ (upd H s.heap.objs.size (.tup [x, y])) { s with heap := h'' } :=
      I.turnedNew (t' := s.toks) (ch := [z, TI, TO, i1, i2]) (fun c o hb q => (sb.2 c (fun q' => hb (by simp [q']))).trans (hk c o (fun q' => hb (by simp [q'])) (fun q' => hb (by simp [q'])) (fun q' => hb (by simp [q'])) (fun q' => hb (by simp [q'])) q)) hf (Nat.le_refl _) new
    refine ⟨.ref s.heap.objs.size, _, I1, rfl, ⟨_, x, y, rfl, I.hok.fresh (Nat.le_refl _), rfl, fun l hl => by rw [I.list_inj hl hqx]; exact hx, fun l hl => by rw [I.list_inj hl hqy]; exact hy⟩, ⟨z'', ?_, ⟨u, u2, ?_⟩, ?_, ?_⟩, fun c hcm => ?_⟩
    · exact (sb.2 _ D.TIz).trans (hk _ _ D.TIz D.TITO D.TIi1 D.TIi2 hTI)
    · exact (sb.2 _ D.TOz).trans TO'
    · exact h1'.at fun o q => (sb.2 _ D.i1z).trans q
    · exact h2'.at fun o q => (sb.2 _ D.i2z).trans q
    · have hlt : c < s.heap.objs.size := by
        have e' : c = z ∨ c = TI ∨ c = TO ∨ c = i1 ∨ c = i2 := by simpa using hcm
        rcases e' with q | q | q | q | q
        · rw [q]; exact hzl
        · rw [q]; exact Heap.lt_size hTI
        · rw [q]; exact Heap.lt_size hTO
        · rw [q]; obtain ⟨_, e1, _⟩ := h1; exact Heap.lt_size e1
        · rw [q]; obtain ⟨_, e2, _⟩ := h2; exact Heap.lt_size e2
      rw [upd_ne (Nat.ne_of_lt hlt)]
      exact (hf c hcm).1
  done := by
    intro X hP hw hK hc i pins s σ H E I hf st hg
    subst hP hw hK
    obtain ⟨hz, hTI, ⟨x0, y0, hTO⟩, h1, h2⟩ := st
    obtain ⟨xs, ys, hqx, hqy, hend⟩ := hg
    obtain ⟨its, rv, p, _⟩ := I.list hqx
    obtain ⟨its2, rv2, p2, _⟩ := I.list hqy
    have l1 := rv.length
    have l2 := rv2.length
    have he : its.toArray[i]? = none ∨ its2.toArray[i]? = none := by
      rcases hend with q | q
      · exact .inl (by simp; omega)
      · exact .inr (by simp; omega)
    exact wpAny_pyNext_zip_end (I.ok.hd hc) D hz hTI hTO h1 h2 p.isList p2.isList he fun h' hk => ⟨rfl, I.turnedL (t' := s.toks) (ch := [z, TI, TO, i1, i2]) (fun c o hb q =>
      hk c o (fun q' => hb (by simp [q'])) (fun q' => hb (by simp [q'])) (fun q' => hb (by simp [q'])) (fun q' => hb (by simp [q'])) q) hf⟩
  self := fun A i s Q E st h => wpAny_pyIter_zip st.1 h
def iZip (K : PySem.W.Frag) (ta : TA) : TI := fun σ H R => ta σ H fun vs H1 => ∃ a b xs ys, vs = [.ref a, .ref b] ∧ SqL K H1 a xs ∧ SqL K H1 b ys ∧ R (Itz K a b) H1
theorem pi_zip {X : Cx} {e e2 : Expr} {ta : TA} {p pos tpos : Pos} {elts : List Expr} {kk : Nat} (hg : Gl X "zip") (hm : X.mg "zip" = none) (ha : PA X [e, e2] ta)
    (hs : starEach [e, e2] X.env = (false, eval e X.env) :: starEach [e2] X.env := by rfl) (hpl : (backTo pos (starEach [e2] X.env)).any (·.1) = false := by rfl) :
    PI X (.Tuple elts kk tpos) (.Call (.Name "zip" p) [e, e2] [] pos) (iZip X.K ta) := by
  intro pins s σ H R I h
  refine Call_ (ld_blt I hg hm boot_zip5 (PyProof.Rows.callWith_type1 (thn (ha pos pins s σ H _ I h) fun us s1 ⟨vs, H1, I1, r1, q1⟩ => ?_) hs hpl))
  obtain ⟨a, b, xs, ys, ex, hqx, hqy, q⟩ := q1
  subst ex
  cases r1 with
  | cons r rr =>
    cases rr with
    | cons r' rr =>
      cases rr
      cases r
      cases r'
      obtain ⟨its, rv, p1, _⟩ := I1.list hqx
      obtain ⟨its2, rv2, p2, _⟩ := I1.list hqy
      have la : a < s1.heap.objs.size := p1.lt
      have lb : b < s1.heap.objs.size := p2.lt
      refine call_zip_2 p1.isList p2.isList fun h' hz hTI hTO h1 h2 hsz hk => wpAny_pyIter_zip hz ?_
      have I2 : Inv X pins σ H1 { s1 with heap := h' } := I1.kept (t' := s1.toks) hk
      refine ⟨s1.heap.objs.size + 4, [s1.heap.objs.size + 4, s1.heap.objs.size + 2, s1.heap.objs.size + 3, s1.heap.objs.size, s1.heap.objs.size + 1], _, _, H1, rfl, I2, turn_zip (PySem.W.ktu_apart s1.heap.objs.size a b la lb), ⟨hz, hTI, ⟨_, _, hTO⟩, h1, h2⟩, fun c hcm => ?_, q⟩
      have e' : c = s1.heap.objs.size + 4 ∨ c = s1.heap.objs.size + 2 ∨ c = s1.heap.objs.size + 3 ∨ c = s1.heap.objs.size ∨ c = s1.heap.objs.size + 1 := by simpa using hcm
      have hle : s1.heap.objs.size ≤ c := by
        rcases e' with z | z | z | z | z
        · rw [z]; exact Nat.le_add_right _ _
        · rw [z]; exact Nat.le_add_right _ _
        · rw [z]; exact Nat.le_add_right _ _
        · rw [z]; exact Nat.le_refl _
        · rw [z]; exact Nat.le_add_right _ _
      exact I1.fpOk hle (I1.hok.fresh hle)
end L2
section 
namespace Bits
open PySem PyProof.Rows
theorem bitAnd_mask {x : Int} (k : Nat) (hx : 0 ≤ x) : Builtin.bitAnd x (2 ^ k - 1) = x % 2 ^ k := by
  obtain ⟨n, rfl⟩ := Int.eq_ofNat_of_zero_le hx
  have hp : 0 < 2 ^ k := Nat.two_pow_pos k
  rw [two_pow_cast]
  have e : ((2 ^ k : Nat) : Int) - 1 = ((2 ^ k - 1 : Nat) : Int) := by
    generalize (2 : Nat) ^ k = m at hp
    omega
  rw [e, bitAnd_pp (by omega) (by omega), Int.toNat_natCast, Int.toNat_natCast, Nat.and_two_pow_sub_one_eq_mod]
  first
    | rfl
    | exact Int.natCast_emod _ _
    | simp
theorem nat_xor_add_and (m : Nat) : ∀ n : Nat, (m ^^^ n) + 2 * (m &&& n) = m + n := by
  induction m using Nat.strongRecOn with
  | _ m ih =>
    intro n
    by_cases h0 : m = 0
    · subst h0
      simp
    · have ih' := ih (m / 2) (by omega) (n / 2)
      rw [← Nat.xor_div_two, ← Nat.and_div_two] at ih'
      have o1 := @Nat.xor_mod_two_eq_one m n
      have a1 := @Nat.and_mod_two_eq_one m n
      omega
theorem bitXor_pp {x y : Int} (hx : 0 ≤ x) (hy : 0 ≤ y) : Builtin.bitXor x y = ((x.toNat ^^^ y.toNat : Nat) : Int) := by
  have e := nat_xor_add_and x.toNat y.toNat
  rw [bitXor_and, bitAnd_pp hx hy]
  omega
end Bits
end 
section 
namespace TL
open PySem PySem.Builtin PySem.Builtin.Str PySem.StrLaws
end TL
end 
namespace L2
open PySem PySem.Spec PyProof.Rows
section
variable {X : Cx} {pins : List (Addr × Obj)} {σ : St} {H : Hp} {s : Shared} {Q : VK}
end
section
variable {X : Cx}
end
section
variable {X : Cx} {o e : Expr} {to te : TE}
end
end L2
namespace L2
open PySem PySem.Spec PyProof.Rows
section
variable {X : Cx}
end
end L2
namespace Att
open PySem PySem.W PySem.Calls PyProof.Rows
section
variable {prog : Program} {w : World} {A : Around} {E : Value → Shared → Prop} {s : Shared} {K : Frag}
end
end Att
namespace L2
open PySem PySem.Spec PyProof.Rows
end L2
namespace L2
open PySem PySem.Spec PyProof.Rows
end L2
namespace L2
open PySem PySem.Spec PyProof.Rows
def inClass (s : Stmt) (j : Nat) : Stmt := match s with
  | .ClassDef _ _ _ body _ _ _ _ _ _ _ => body.getD j (.Pass ⟨0, 0, 0, 0⟩)
  | _ => .Pass ⟨0, 0, 0, 0⟩
def defArgs (s : Stmt) : Arguments := match s with
  | .FunctionDef _ a _ _ _ _ _ _ _ _ => a
  | _ => { posonlyargs := [], args := [], vararg := none, kwonlyargs := [], kw_defaults := [], kwarg := none, defaults := [] }
def defBody (s : Stmt) : List Stmt := match s with
  | .FunctionDef _ _ b _ _ _ _ _ _ _ => b
  | _ => []
def defScope (s : Stmt) : Scope := match s with
  | .FunctionDef _ _ _ _ _ _ sc _ _ _ => sc
  | _ => { kind := .function, names := [], isGenerator := false, isCoroutine := false }
abbrev CX0 : CXT := fun _ _ _ _ _ _ => False
abbrev E0 : XK := fun _ _ _ => False
theorem pass0 {X : Cx} : Passes CX0 X E0 := fun _ _ _ _ _ _ _ h => h.elim
structure Fun (K : PySem.W.Frag) (x qual : Str) (st : Stmt) (f : Addr) (fd : FuncData) : Prop where
  ex : ∃ (oc : Value) (od : Option Addr) (kV doc pm : Value) (an : Option Addr) (cdv ct : Value) (osl : Array (Option Value)),
    fd = PySem.W.fnOf x qual (defArgs st) (defBody st) (defScope st) .none kV doc pm an cdv ct ∧ K.lookup f = some ⟨oc, od, .func fd, osl⟩ ∧ PySem.W.codeIn K cdv qual = true
  kp : PySem.W.keepIn K (.ref f) = true
section
variable {P : Program} {w : World} {K : PySem.W.Frag} {mg : Str → Option Value} {base : Heap}
theorem Fun.ok {x qual : Str} {st : Stmt} {f : Addr} {fd : FuncData} {N ps : List Str} {k : Nat} {sp : Sp} (F : Fun K x qual st f fd) (S : FnScope N ps (defScope st)) (len : ∀ vs H Q E, sp vs H Q E → vs.length = ps.length)
    (hbody : ∀ (cdv : Value) (A : Around) (outer : List Env) (s : Shared) (H : Hp) (vs : List V) (Q : VK) (E : XK), Room k (A.deeper (envOfC qual (defScope st) s.heap.objs.size f cdv)) → sp vs H Q E →
      ∃ t, PSs (cxOf CX0 P w K mg base N qual (defScope st) f cdv A outer s H E).nox (defBody st) t ∧ t { nx := fun _ H' => Q .non H', rt := Q } (start N vs) H) : FnOk P w K mg base CX0 (k + 1) f fd ps sp := by
  obtain ⟨oc, od, kV, doc, pm, an, cdv, ct, osl, rfl, lk, hcd⟩ := F.ex
  refine fn_of lk hcd S len fun A outer s H vs Q E hr hsp => ?_
  obtain ⟨t, h, q⟩ := hbody cdv A outer s H vs Q E hr hsp
  exact ⟨t, h.nox, q⟩
theorem Fun.binds {x qual : Str} {st : Stmt} {f : Addr} {fd : FuncData} {ps : List Str} (F : Fun K x qual st f fd)
    (h : ∀ (kV doc pm : Value) (an : Option Addr) (cdv ct : Value) (us : List Value), us.length = ps.length → bindArgs (PySem.W.fnOf x qual (defArgs st) (defBody st) (defScope st) .none kV doc pm an cdv ct) ⟨us, []⟩ = pure (ps.zip us)) : Binds K fd ps [] := by
  obtain ⟨oc, od, kV, doc, pm, an, cdv, ct, osl, rfl, lk, hcd⟩ := F.ex
  exact .all (h kV doc pm an cdv ct)
theorem fun_mk {x qual : Str} {st : Stmt} {f : Addr} {oc : Value} {od an : Option Addr} {osl : Array (Option Value)} {kV doc pm cdv ct : Value} (l : K.lookup f = some ⟨oc, od, .func (PySem.W.fnOf x qual (defArgs st) (defBody st) (defScope st) .none kV doc pm an cdv ct), osl⟩)
    (c : PySem.W.codeIn K cdv qual = true) (k : PySem.W.keepIn K (.ref f) = true) : Fun K x qual st f (PySem.W.fnOf x qual (defArgs st) (defBody st) (defScope st) .none kV doc pm an cdv ct) := ⟨⟨oc, od, kV, doc, pm, an, cdv, ct, osl, rfl, l, c⟩, k⟩
end
theorem hu_of {A : Around} {k : Nat} (hr : Room k A) : A.units + 1 < cLine := Nat.lt_of_le_of_lt (Nat.add_le_add_left (by decide : 1 ≤ 64) _) hr.units
section
variable {X : Cx}
theorem pv (i : Nat) {x : Str} {pos : Pos} (hN : X.N[i]? = some x := by rfl) (hv : Vis X.env.scope x := by first | exact Or.inl rfl | exact Or.inr (Or.inl rfl) | exact Or.inr (Or.inr rfl)) (hd : (x == ("__debug__" : Str)) = false := by decide)
    (hcd : (x == ("__classdict__" : Str)) = false := by decide) : PE X (.Name x pos) (tVar i) := pe_var hN hv hd hcd
theorem call_lenD : CallR X (.builtin "len") (fun xs H Q => ∃ a kvs, xs = [V.ref a] ∧ H a = some (.dK kvs) ∧ Q (.int kvs.length) H) := by
  intro pins s σ H xs us Q I r h
  obtain ⟨a, kvs, rfl, ha, q⟩ := h
  obtain ⟨u, rfl, ru⟩ := vals1 r
  cases ru
  exact d_len I (.inl ha) fun t s' I' => ⟨.int kvs.length, H, I', ⟨t, rfl⟩, q⟩
end
theorem iteF {A B : Prop} (h : B) : if false = true then A else B := by
  rw [if_neg Bool.false_ne_true]
  exact h
theorem iteT {A B : Prop} (h : A) : if true = true then A else B := by
  rw [if_pos rfl]
  exact h
def Same (H H' : Hp) : Prop := ∀ b o, H b = some o → H' b = some o
theorem Same.refl (H : Hp) : Same H H := fun _ _ h => h
theorem Same.trans {H H1 H2 : Hp} (a : Same H H1) (b : Same H1 H2) : Same H H2 := fun c o h => b c o (a c o h)
theorem Same.free {H H' : Hp} (e : Same H H') {l : Addr} (h : H' l = Option.none) : H l = Option.none := by
  cases q : H l with
  | none => rfl
  | some o =>
    rw [e l o q] at h
    cases h
theorem Same.seq {K : PySem.W.Frag} {H H' : Hp} {a : Addr} {xs : List V} (e : Same H H') (h : SqL K H a xs) : SqL K H' a xs := by
  rcases h with (h | ⟨o, h⟩) | h
  · exact .inl (.inl (e _ _ h))
  · exact .inl (.inr ⟨o, e _ _ h⟩)
  · exact .inr h
section
variable {κ : Type} [DecidableEq κ]
end
theorem at_of {xs : List V} {z : Int} {j : Nat} {v : V} (e : z = (j : Int)) (h : xs[j]? = some v) : atI xs z = some v := by
  rw [e]
  exact atI_nat h
theorem nd_ix {α : Type} {l : List α} (hN : l.Nodup) {i j : Nat} {x : α} (a : l[i]? = some x) (b : l[j]? = some x) : i = j := by
  obtain ⟨h1, e1⟩ := List.getElem?_eq_some_iff.mp a
  obtain ⟨h2, e2⟩ := List.getElem?_eq_some_iff.mp b
  exact (List.getElem_inj hN).mp (e1.trans e2.symm)
theorem Same.made {H H1 : Hp} {x dx C : Addr} (nx : H x = Option.none) (nd : H dx = Option.none) (k : ∀ b o, (upd (upd H dx (.own x)) x (.ins C dx [])) b = some o → b ≠ x → H1 b = some o) : Same H H1 := fun b o e =>
  k b o (by rw [upd_ne (ne_of_none e nx), upd_ne (ne_of_none e nd)]; exact e) (ne_of_none e nx)
end L2
end
section
section
set_option maxRecDepth 100000
set_option maxHeartbeats 2000000
namespace L2
open PySem PySem.Spec PyProof.Rows
open PySem.W (WData Codec OpenSpec Well WellAll ReadsW ReadsAllW)
mutual
inductive Dw (K : PySem.W.Frag) (H : Hp) : V → WData → Prop
  | non : Dw K H .non .none
  | bl (b : Bool) : Dw K H (.bl b) (.bool b)
  | int (i : Int) : Dw K H (.int i) (.int i)
  | str (x : Str) : Dw K H (.str x) (.str x)
  | byt (b : Array UInt8) : Dw K H (.byt b) (.bytes b.toList)
  | lst {a : Addr} {xs : List V} {ds : List WData} : SqL K H a xs → DwAll K H xs ds → Dw K H (.ref a) (.list ds)
  | tup {a : Addr} {xs : List V} {ds : List WData} : SqT K H a xs → DwAll K H xs ds → Dw K H (.ref a) (.tuple ds)
inductive DwAll (K : PySem.W.Frag) (H : Hp) : List V → List WData → Prop
  | nil : DwAll K H [] []
  | cons {v : V} {vs : List V} {d : WData} {ds : List WData} : Dw K H v d → DwAll K H vs ds → DwAll K H (v :: vs) (d :: ds)
end
theorem dw_ints {K : PySem.W.Frag} {H : Hp} : ∀ ns : List Int, DwAll K H (ns.map V.int) (ns.map WData.int)
  | [] => .nil
  | n :: r => .cons (.int n) (dw_ints r)
theorem ints_dw {K : PySem.W.Frag} {H : Hp} : ∀ (ns : List Int) (xs : List V), DwAll K H xs (ns.map WData.int) → xs = ns.map V.int
  | [], xs, h => by
    cases h
    rfl
  | n :: r, xs, h => by
    cases h with
    | cons h1 h2 =>
      cases h1
      rw [ints_dw r _ h2] <;> rfl
section
variable {P : Program} {w : World} {K : PySem.W.Frag} {H : Hp} {h : Heap} {R : PySem.W.WRecords} {cl : Str → Option Addr}
theorem sqL_at {a : Addr} {xs : List V} (hok : HOk P w H h) (KX : K.In h) (q : SqL K H a xs) : ∃ (its : List Value) (o : Obj) (n : Nat), Vals xs its ∧ h.get? a = some o ∧ o.cls = .type "list" ∧ o.data = .seq its.toArray n := by
  rcases q with q | ⟨o, its, n, e, hc, _, hd, _, hv⟩
  · obtain ⟨_, its, n, hv, e⟩ := (show ObjOk P w H h a (.lst xs) from q.ok hok)
    exact ⟨its, _, n, hv, e, rfl, rfl⟩
  · exact ⟨its.toList, o, n, hv, KX _ _ e, hc, by simp [hd]⟩
theorem sqT_at {a : Addr} {xs : List V} (hok : HOk P w H h) (KX : K.In h) (q : SqT K H a xs) : ∃ (its : List Value) (o : Obj) (n : Nat), Vals xs its ∧ h.get? a = some o ∧ o.cls = .type "tuple" ∧ o.data = .seq its.toArray n := by
  rcases q with q | ⟨o, its, n, e, hc, hd, _, hv⟩
  · obtain ⟨_, its, hv, o, e, hc, n, hd⟩ := (show ObjOk P w H h a (.tup xs) from q.ok hok)
    exact ⟨its, o, n, hv, e, hc, hd⟩
  · exact ⟨its.toList, o, n, hv, KX _ _ e, hc, by simp [hd]⟩
mutual
theorem Dw.reads (hok : HOk P w H h) (KX : K.In h) : ∀ (d : WData) (v : V) (u : Value), Dw K H v d → RelV v u → ∃ as, ReadsW R cl h u d as
  | .none, _, _, x, r => by
    cases x
    cases r
    exact ⟨_, ReadsW.none⟩
  | .bool b, _, _, x, r => by
    cases x
    cases r
    exact ⟨_, ReadsW.bool b⟩
  | .int i, _, _, x, r => by
    cases x
    obtain ⟨t, rfl⟩ := r
    exact ⟨_, ReadsW.int i t⟩
  | .str s, _, _, x, r => by
    cases x
    obtain ⟨t, rfl⟩ := r
    exact ⟨_, ReadsW.str s t⟩
  | .bytes b, _, _, x, r => by
    cases x
    obtain ⟨t, rfl⟩ := r
    exact ⟨_, ReadsW.bytes _ t⟩
  | .list ds, _, _, x, r => by
    cases x with
    | lst hs ha =>
      cases r
      obtain ⟨its, o, n, rv, ho, hc, hd⟩ := sqL_at hok KX hs
      obtain ⟨as, hr⟩ := Dw.readsAll hok KX ds _ its ha rv
      exact ⟨_, ReadsW.list ho hc hd hr⟩
  | .tuple ds, _, _, x, r => by
    cases x with
    | tup hs ha =>
      cases r
      obtain ⟨its, o, n, rv, ho, hc, hd⟩ := sqT_at hok KX hs
      obtain ⟨as, hr⟩ := Dw.readsAll hok KX ds _ its ha rv
      exact ⟨_, ReadsW.tuple ho hc hd hr⟩
  | .float _, _, _, x, _ => by cases x
  | .dict _, _, _, x, _ => by cases x
  | .bytearray _, _, _, x, _ => by cases x
  | .set _, _, _, x, _ => by cases x
  | .frozenset _, _, _, x, _ => by cases x
  | .obj _ _, _, _, x, _ => by cases x
theorem Dw.readsAll (hok : HOk P w H h) (KX : K.In h) : ∀ (ds : List WData) (vs : List V) (us : List Value), DwAll K H vs ds → Vals vs us → ∃ as, ReadsAllW R cl h us ds as
  | [], _, _, x, r => by
    cases x
    cases r
    exact ⟨_, ReadsAllW.nil⟩
  | d :: ds, _, _, x, r => by
    cases x with
    | cons h1 h2 =>
      cases r with
      | cons r1 r2 =>
        obtain ⟨as, q1⟩ := Dw.reads hok KX d _ _ h1 r1
        obtain ⟨bs, q2⟩ := Dw.readsAll hok KX ds _ _ h2 r2
        exact ⟨_, ReadsAllW.cons q1 q2⟩
end
end
mutual
def plW : WData → Bool
  | .none => true
  | .bool _ => true
  | .int _ => true
  | .str _ => true
  | .bytes _ => true
  | .list xs => plWs xs
  | .tuple xs => plWs xs
  | _ => false
def plWs : List WData → Bool
  | [] => true
  | x :: r => plW x && plWs r
end
theorem plWs_map {α : Type} {f : α → WData} (h : ∀ a, plW (f a) = true) : ∀ l : List α, plWs (l.map f) = true
  | [] => rfl
  | x :: r => by
    show (plW (f x) && plWs (r.map f)) = true
    rw [h x, plWs_map h r] <;> rfl
theorem pl_enc : ∀ (c : Codec) (a : c.denote), plW (c.enc a) = true
  | .unit, _ => rfl
  | .bool, _ => rfl
  | .int _ _, _ => rfl
  | .nat _ _, _ => rfl
  | .u8, _ => rfl
  | .bytes _ _, _ => rfl
  | .text _ _ _ _, _ => rfl
  | .list _ _ c, a => plWs_map (fun x => pl_enc c x) a
  | .pair c d, a => by
    show (plW (c.enc a.1) && (plW (d.enc a.2) && true)) = true
    rw [pl_enc c a.1, pl_enc d a.2] <;> rfl
  | .triple c d e, a => by
    show (plW (c.enc a.1) && (plW (d.enc a.2.1) && (plW (e.enc a.2.2) && true))) = true
    rw [pl_enc c a.1, pl_enc d a.2.1, pl_enc e a.2.2] <;> rfl
  | .option c, none => rfl
  | .option c, some x => pl_enc c x
theorem pl_encAll : ∀ (cs : List Codec) (a : Codec.denoteAll cs), plWs (Codec.encAll cs a) = true
  | [], _ => rfl
  | c :: cs, a => by
    show (plW (c.enc a.1) && plWs (Codec.encAll cs a.2)) = true
    rw [pl_enc c a.1, pl_encAll cs a.2] <;> rfl
theorem weight_mem : ∀ {xs : List WData} {d : WData}, d ∈ xs → d.weight ≤ WData.weightAll xs
  | [], d, h => absurd h (by simp)
  | x :: r, d, h => by
    show d.weight ≤ x.weight + 1 + WData.weightAll r
    rcases List.mem_cons.mp h with e | m
    · rw [e]
      omega
    · have z := weight_mem m
      omega
def toV : Value → V
  | .none => .non
  | .bool b => .bl b
  | .int i _ => .int i
  | .str x _ => .str x
  | .bytes b _ => .byt b
  | .ref a => .ref a
  | _ => .non
def OkU (A : List Addr) : Value → Prop
  | .none => True
  | .bool _ => True
  | .int _ _ => True
  | .str _ _ => True
  | .bytes _ _ => True
  | .ref a => a ∈ A
  | _ => False
theorem OkU.mono {A B : List Addr} (h : ∀ a ∈ A, a ∈ B) : ∀ {u : Value}, OkU A u → OkU B u := fun {u} x => by
  cases u with
  | ref a => exact h a x
  | none => trivial
  | bool b => trivial
  | int i t => trivial
  | str s t => trivial
  | bytes b t => trivial
  | _ => exact False.elim x
theorem relV_toV {A : List Addr} {u : Value} (x : OkU A u) : RelV (toV u) u := by
  cases u with
  | ref a => rfl
  | none => rfl
  | bool b => rfl
  | int i t => exact ⟨t, rfl⟩
  | str s t => exact ⟨t, rfl⟩
  | bytes b t => exact ⟨t, rfl⟩
  | _ => exact False.elim x
theorem vals_toV {A : List Addr} : ∀ {vs : List Value}, (∀ u ∈ vs, OkU A u) → Vals (vs.map toV) vs
  | [], _ => .nil
  | u :: r, h => .cons (relV_toV (h u (List.mem_cons_self ..))) (vals_toV fun x hx => h x (List.mem_cons_of_mem _ hx))
def ArgOb (h : Heap) (A : List Addr) (a : Addr) : Prop := ∃ vs : List Value, vs.length ≤ sizeLine ∧ (∀ u ∈ vs, OkU A u) ∧
  (h.get? a = some { cls := .type "list", data := .seq vs.toArray } ∨ h.get? a = some { cls := .type "tuple", data := .seq vs.toArray })
theorem ArgOb.mono {h : Heap} {A B : List Addr} {a : Addr} (k : ∀ a ∈ A, a ∈ B) (x : ArgOb h A a) : ArgOb h B a := by
  obtain ⟨vs, h1, h2, h3⟩ := x
  exact ⟨vs, h1, fun u hu => (h2 u hu).mono k, h3⟩
theorem wellAll_len {P : Params} {h : Heap} : ∀ {vs : List Value} {ds : List WData}, WellAll P h vs ds → vs.length = ds.length
  | _, _, .nil => rfl
  | _, _, .cons _ b => by
    show _ + 1 = _ + 1
    rw [wellAll_len b]
theorem well_list {P : Params} {h : Heap} {v : Value} {ds : List WData} (x : Well P h v (.list ds)) : ∃ (a : Addr) (vs : List Value), v = .ref a ∧ h.get? a = some { cls := .type "list", data := .seq vs.toArray } ∧ WellAll P h vs ds := by
  cases x with
  | list ho hall => exact ⟨_, _, rfl, ho, hall⟩
theorem well_tuple {P : Params} {h : Heap} {v : Value} {ds : List WData} (x : Well P h v (.tuple ds)) : ∃ (a : Addr) (vs : List Value), v = .ref a ∧ h.get? a = some { cls := .type "tuple", data := .seq vs.toArray } ∧ WellAll P h vs ds := by
  cases x with
  | tuple ho hall => exact ⟨_, _, rfl, ho, hall⟩
theorem well_cons {P : Params} {h : Heap} {us : List Value} {d : WData} {ds : List WData} (x : WellAll P h us (d :: ds)) : ∃ (v : Value) (vs : List Value), us = v :: vs ∧ Well P h v d ∧ WellAll P h vs ds := by
  cases x with
  | cons a b => exact ⟨_, _, rfl, a, b⟩
theorem line_of {n : Nat} (h : n ≤ 1048576) : n ≤ sizeLine := Nat.le_trans h (by decide)
section
variable {P : Params} {h : Heap}
mutual
theorem area_one : ∀ (d : WData) (v : Value), Well P h v d → plW d = true → d.weight ≤ 1048576 → ∃ A : List Addr, OkU A v ∧ ∀ a ∈ A, ArgOb h A a
  | .none, _, x, _, _ => by
    cases x
    exact ⟨[], trivial, fun a m => absurd m (by simp)⟩
  | .bool b, _, x, _, _ => by
    cases x
    exact ⟨[], trivial, fun a m => absurd m (by simp)⟩
  | .int i, _, x, _, _ => by
    cases x
    exact ⟨[], trivial, fun a m => absurd m (by simp)⟩
  | .str s, _, x, _, _ => by
    cases x
    exact ⟨[], trivial, fun a m => absurd m (by simp)⟩
  | .bytes b, _, x, _, _ => by
    cases x
    exact ⟨[], trivial, fun a m => absurd m (by simp)⟩
  | .list ds, _, x, p, z => by
    obtain ⟨a, vs, rfl, ho, hall⟩ := well_list x
    have z2 : WData.weightAll ds ≤ 1048576 := z
    obtain ⟨A, h1, h2⟩ := area_all ds _ hall p fun d hd => Nat.le_trans (weight_mem hd) z2
    have k : ∀ b ∈ A, b ∈ a :: A := fun b hb => List.mem_cons_of_mem _ hb
    refine ⟨a :: A, List.mem_cons_self .., fun b hb => ?_⟩
    rcases List.mem_cons.mp hb with e | m
    · rw [e]
      exact ⟨vs, line_of (by rw [wellAll_len hall]; exact Nat.le_trans (PySem.W.length_le_weightAllW ds) z2), fun u hu => (h1 u hu).mono k, .inl ho⟩
    · exact (h2 b m).mono k
  | .tuple ds, _, x, p, z => by
    obtain ⟨a, vs, rfl, ho, hall⟩ := well_tuple x
    have z2 : WData.weightAll ds ≤ 1048576 := z
    obtain ⟨A, h1, h2⟩ := area_all ds _ hall p fun d hd => Nat.le_trans (weight_mem hd) z2
    have k : ∀ b ∈ A, b ∈ a :: A := fun b hb => List.mem_cons_of_mem _ hb
    refine ⟨a :: A, List.mem_cons_self .., fun b hb => ?_⟩
    rcases List.mem_cons.mp hb with e | m
    · rw [e]
      exact ⟨vs, line_of (by rw [wellAll_len hall]; exact Nat.le_trans (PySem.W.length_le_weightAllW ds) z2), fun u hu => (h1 u hu).mono k, .inr ho⟩
    · exact (h2 b m).mono k
  | .float _, _, _, p, _ => Bool.noConfusion (show false = true from p)
  | .dict _, _, _, p, _ => Bool.noConfusion (show false = true from p)
  | .bytearray _, _, _, p, _ => Bool.noConfusion (show false = true from p)
  | .set _, _, _, p, _ => Bool.noConfusion (show false = true from p)
  | .frozenset _, _, _, p, _ => Bool.noConfusion (show false = true from p)
  | .obj _ _, _, _, p, _ => Bool.noConfusion (show false = true from p)
theorem area_all : ∀ (ds : List WData) (vs : List Value), WellAll P h vs ds → plWs ds = true → (∀ d ∈ ds, d.weight ≤ 1048576) → ∃ A : List Addr, (∀ u ∈ vs, OkU A u) ∧ ∀ a ∈ A, ArgOb h A a
  | [], _, x, _, _ => by
    cases x
    exact ⟨[], fun u m => absurd m (by simp), fun a m => absurd m (by simp)⟩
  | d :: ds, _, x, p, z => by
    obtain ⟨v, vs, rfl, x1, x2⟩ := well_cons x
    have q : plW d = true ∧ plWs ds = true := Bool.and_eq_true_iff.mp p
    obtain ⟨A, a1, a2⟩ := area_one d v x1 q.1 (z d (List.mem_cons_self ..))
    obtain ⟨B, b1, b2⟩ := area_all ds vs x2 q.2 fun e he => z e (List.mem_cons_of_mem _ he)
    have kA : ∀ b ∈ A, b ∈ A ++ B := fun b hb => List.mem_append.mpr (.inl hb)
    have kB : ∀ b ∈ B, b ∈ A ++ B := fun b hb => List.mem_append.mpr (.inr hb)
    refine ⟨A ++ B, fun u hu => ?_, fun b hb => ?_⟩
    · rcases List.mem_cons.mp hu with e | m
      · rw [e]
        exact a1.mono kA
      · exact (b1 u m).mono kB
    · rcases List.mem_append.mp hb with m | m
      · exact (a2 b m).mono kA
      · exact (b2 b m).mono kB
end
end
def hoOf (o : Obj) : Option HO := match o.data with
  | .seq vs _ => if (o.cls == Value.type "list") = true then some (.frz o (.lst (vs.toList.map toV))) else some (.frz o (.tup (vs.toList.map toV)))
  | _ => none
def argH (K : PySem.W.Frag) (h : Heap) (A : List Addr) : Hp := fun b => if b ∈ A then (if (K.lookup b).isNone = true then (h.get? b).bind hoOf else none) else none
def OnlyF (H : Hp) : Prop := ∀ b, H b = none ∨ ∃ o u, H b = some (.frz o u)
theorem hoOf_lst (vs : List Value) : hoOf { cls := .type "list", data := .seq vs.toArray } = some (.frz { cls := .type "list", data := .seq vs.toArray } (.lst (vs.map toV))) := by
  show (if (Value.type "list" == Value.type "list") = true then some (HO.frz { cls := .type "list", data := .seq vs.toArray } (.lst (vs.toArray.toList.map toV))) else some (HO.frz { cls := .type "list", data := .seq vs.toArray } (.tup (vs.toArray.toList.map toV)))) = _
  rw [if_pos (beq_self_eq_true _)]
theorem hoOf_tup (vs : List Value) : hoOf { cls := .type "tuple", data := .seq vs.toArray } = some (.frz { cls := .type "tuple", data := .seq vs.toArray } (.tup (vs.map toV))) := by
  show (if (Value.type "tuple" == Value.type "list") = true then some (HO.frz { cls := .type "tuple", data := .seq vs.toArray } (.lst (vs.toArray.toList.map toV))) else some (HO.frz { cls := .type "tuple", data := .seq vs.toArray } (.tup (vs.toArray.toList.map toV)))) = _
  rw [if_neg (by decide)]
section
variable {P : Program} {w : World} {K : PySem.W.Frag} {h : Heap} {A : List Addr}
theorem argH_at {b : Addr} {o : Obj} (hb : b ∈ A) (hk : K.lookup b = none) (e : h.get? b = some o) : argH K h A b = hoOf o := by
  unfold argH
  rw [if_pos hb, hk, if_pos (show (none : Option Obj).isNone = true from rfl), e] <;> rfl
theorem of_argH {b : Addr} {u : HO} (q : argH K h A b = some u) : b ∈ A ∧ K.lookup b = none := by
  unfold argH at q
  by_cases hb : b ∈ A
  · rw [if_pos hb] at q
    cases hk : K.lookup b with
    | none => exact ⟨hb, rfl⟩
    | some o =>
      rw [hk, if_neg (by simp)] at q
      cases q
  · rw [if_neg hb] at q
    cases q
theorem argH_is (ar : ∀ a ∈ A, ArgOb h A a) {b : Addr} {u : HO} (q : argH K h A b = some u) : K.lookup b = none ∧ ∃ vs : List Value, vs.length ≤ sizeLine ∧ (∀ u ∈ vs, OkU A u) ∧
    ((h.get? b = some { cls := .type "list", data := .seq vs.toArray } ∧ u = .frz { cls := .type "list", data := .seq vs.toArray } (.lst (vs.map toV))) ∨
     (h.get? b = some { cls := .type "tuple", data := .seq vs.toArray } ∧ u = .frz { cls := .type "tuple", data := .seq vs.toArray } (.tup (vs.map toV)))) := by
  obtain ⟨hb, hk⟩ := of_argH q
  obtain ⟨vs, h1, h2, h3⟩ := ar b hb
  refine ⟨hk, vs, h1, h2, ?_⟩
  rcases h3 with e | e
  · rw [argH_at hb hk e, hoOf_lst] at q
    exact .inl ⟨e, (Option.some.inj q).symm⟩
  · rw [argH_at hb hk e, hoOf_tup] at q
    exact .inr ⟨e, (Option.some.inj q).symm⟩
theorem argH_only (ar : ∀ a ∈ A, ArgOb h A a) : OnlyF (argH K h A) := fun b => by
  cases q : argH K h A b with
  | none => exact .inl rfl
  | some u =>
    obtain ⟨_, vs, _, _, ⟨_, e⟩ | ⟨_, e⟩⟩ := argH_is ar q
    · exact .inr ⟨_, _, by rw [e]⟩
    · exact .inr ⟨_, _, by rw [e]⟩
theorem argH_ok (ar : ∀ a ∈ A, ArgOb h A a) : HOk P w (argH K h A) h := fun b u q => by
  obtain ⟨_, vs, h1, h2, ⟨e, rfl⟩ | ⟨e, rfl⟩⟩ := argH_is ar q
  · exact ⟨e, by rw [List.length_map]; exact h1, vs, _, vals_toV h2, e⟩
  · exact ⟨e, by rw [List.length_map]; exact h1, vs, vals_toV h2, _, e, rfl, _, rfl⟩
theorem seq_inj {c c' : Value} {vs us : List Value} (e : (some { cls := c, data := .seq vs.toArray } : Option Obj) = some { cls := c', data := .seq us.toArray }) : c = c' ∧ vs = us := by
  have e1 := Option.some.inj e
  have e2 : c = c' := congrArg Obj.cls e1
  have e3 : Data.seq vs.toArray = Data.seq us.toArray := congrArg Obj.data e1
  injection e3 with e4
  refine ⟨e2, ?_⟩
  have e5 := congrArg Array.toList e4
  simpa using e5
theorem argL (KX : K.In h) (ar : ∀ a ∈ A, ArgOb h A a) {a : Addr} {vs : List Value} (ha : a ∈ A) (e : h.get? a = some { cls := .type "list", data := .seq vs.toArray }) : (∀ u ∈ vs, OkU A u) ∧ SqL K (argH K h A) a (vs.map toV) := by
  obtain ⟨us, h1, h2, h3⟩ := ar a ha
  have hu : us = vs := by
    rcases h3 with q | q
    · rw [e] at q
      exact (seq_inj q).2.symm
    · rw [e] at q
      exact absurd (Value.type.inj (seq_inj q).1) (by decide)
  subst hu
  refine ⟨h2, ?_⟩
  cases hk : K.lookup a with
  | none => exact .inl (.inr ⟨_, by rw [argH_at ha hk e, hoOf_lst]⟩)
  | some o =>
    have e2 := KX a o hk
    rw [e] at e2
    obtain rfl := Option.some.inj e2
    exact .inr ⟨_, us.toArray, _, hk, rfl, rfl, rfl, by rw [List.size_toArray]; exact h1, by simpa using vals_toV h2⟩
theorem argT (KX : K.In h) (ar : ∀ a ∈ A, ArgOb h A a) {a : Addr} {vs : List Value} (ha : a ∈ A) (e : h.get? a = some { cls := .type "tuple", data := .seq vs.toArray }) : (∀ u ∈ vs, OkU A u) ∧ SqT K (argH K h A) a (vs.map toV) := by
  obtain ⟨us, h1, h2, h3⟩ := ar a ha
  have hu : us = vs := by
    rcases h3 with q | q
    · rw [e] at q
      exact absurd (Value.type.inj (seq_inj q).1) (by decide)
    · rw [e] at q
      exact (seq_inj q).2.symm
  subst hu
  refine ⟨h2, ?_⟩
  cases hk : K.lookup a with
  | none => exact .inl (.inr ⟨_, by rw [argH_at ha hk e, hoOf_tup]⟩)
  | some o =>
    have e2 := KX a o hk
    rw [e] at e2
    obtain rfl := Option.some.inj e2
    exact .inr ⟨_, us.toArray, _, hk, rfl, rfl, by rw [List.size_toArray]; exact h1, by simpa using vals_toV h2⟩
mutual
theorem dw_one {Pm : Params} (KX : K.In h) (ar : ∀ a ∈ A, ArgOb h A a) : ∀ (d : WData) (v : Value), Well Pm h v d → plW d = true → OkU A v → Dw K (argH K h A) (toV v) d
  | .none, _, x, _, _ => by
    cases x
    exact .non
  | .bool b, _, x, _, _ => by
    cases x
    exact .bl b
  | .int i, _, x, _, _ => by
    cases x
    exact .int i
  | .str s, _, x, _, _ => by
    cases x
    exact .str s
  | .bytes b, _, x, _, _ => by
    cases x
    have z := Dw.byt (K := K) (H := argH K h A) b.toArray
    exact z
  | .list ds, _, x, p, hu => by
    obtain ⟨a, vs, rfl, ho, hall⟩ := well_list x
    obtain ⟨h2, hs⟩ := argL KX ar hu ho
    exact .lst hs (dw_all KX ar ds _ hall p h2)
  | .tuple ds, _, x, p, hu => by
    obtain ⟨a, vs, rfl, ho, hall⟩ := well_tuple x
    obtain ⟨h2, hs⟩ := argT KX ar hu ho
    exact .tup hs (dw_all KX ar ds _ hall p h2)
  | .float _, _, _, p, _ => Bool.noConfusion (show false = true from p)
  | .dict _, _, _, p, _ => Bool.noConfusion (show false = true from p)
  | .bytearray _, _, _, p, _ => Bool.noConfusion (show false = true from p)
  | .set _, _, _, p, _ => Bool.noConfusion (show false = true from p)
  | .frozenset _, _, _, p, _ => Bool.noConfusion (show false = true from p)
  | .obj _ _, _, _, p, _ => Bool.noConfusion (show false = true from p)
theorem dw_all {Pm : Params} (KX : K.In h) (ar : ∀ a ∈ A, ArgOb h A a) : ∀ (ds : List WData) (vs : List Value), WellAll Pm h vs ds → plWs ds = true → (∀ u ∈ vs, OkU A u) → DwAll K (argH K h A) (vs.map toV) ds
  | [], _, x, _, _ => by
    cases x
    exact .nil
  | d :: ds, _, x, p, hu => by
    obtain ⟨v, vs, rfl, x1, x2⟩ := well_cons x
    have q : plW d = true ∧ plWs ds = true := Bool.and_eq_true_iff.mp p
    exact .cons (dw_one KX ar d v x1 q.1 (hu _ (List.mem_cons_self ..))) (dw_all KX ar ds vs x2 q.2 fun u m => hu u (List.mem_cons_of_mem _ m))
end
end
theorem spec_call {P : Program} {w : World} {K : PySem.W.Frag} {mg mb : Str → Option Value} {CX : CXT} {k : Nat} {fa : Addr} {fd : FuncData} {ps : List Str} {sp : Sp} {s₁ : Shared} {vals : List Value} {ds : List WData} {R : PySem.W.WRecords} {cl : Str → Option Addr} {d0 : WData}
    (KX : K.In s₁.heap) (hns : s₁.heap.Ns mainGlobals mg) (hb : s₁.heap.Ns builtinsNs mb) (hbb : ∀ x : Str, x ≠ "__name__" → mb x = bootBuiltins x) (hlim : s₁.heap.NoLimit) (hg : s₁.gens = #[])
    (hwl : WellAll w.params s₁.heap vals ds) (hpl : plWs ds = true) (hwt : ∀ d ∈ ds, d.weight ≤ 1048576) (hr : Room k callerA)
    (F : ∀ base : Heap, K.In base → base.Ns mainGlobals mg → FnOk P w K mg base CX k fa fd ps sp) (hbind : ∀ (s : Shared) (us : List Value), us.length = ps.length → BindsTo s fd ⟨us, []⟩ (ps.zip us)) (hlen : ds.length = ps.length)
    (hsp : ∀ (H : Hp) (xs : List V), OnlyF H → DwAll K H xs ds → sp xs H (fun v H' => Dw K H' v d0) fun _ _ _ => False)
    (hCX : ∀ H e s', CX [] H s₁ (fun _ _ _ => False) e s' → False) :
    codeAny (model P w) callerA (.call (.ref fa) ⟨vals, []⟩) (fun r s' => ∃ u as, r = .ok (.ret u) ∧ ReadsW R cl s'.heap u d0 as ∧ OldK s₁.heap s'.heap ∧ s'.os = s₁.os ∧ AllBare s'.gens) s₁ := by
  obtain ⟨A, ho, ar⟩ := area_all ds vals hwl hpl hwt
  have hO : OnlyF (argH K s₁.heap A) := argH_only ar
  have hok : HOk P w (argH K s₁.heap A) s₁.heap := argH_ok ar
  have hS := dw_all KX ar ds vals hwl hpl ho
  have hV := vals_toV ho
  have hK : ∀ b u, argH K s₁.heap A b = some u → K.lookup b = none := fun b u q => (argH_is ar q).1
  have noA : ∀ {b : Addr} {o : Obj} {es : Array DictEntry} {ep : Nat}, s₁.heap.get? b = some o → o.data = .dict es ep → argH K s₁.heap A b = none := fun {b o es ep} e d => by
    cases q : argH K s₁.heap A b with
    | none => rfl
    | some u =>
      obtain ⟨_, vs, _, _, ⟨e2, _⟩ | ⟨e2, _⟩⟩ := argH_is ar q
      · rw [e2] at e
        cases e
        have d' : Data.seq vs.toArray _ = Data.dict es ep := d
        cases d'
      · rw [e2] at e
        cases e
        have d' : Data.seq vs.toArray _ = Data.dict es ep := d
        cases d'
  generalize argH K s₁.heap A = H at hO hok hS hK noA
  have base_of : ∀ {b : Addr} {o : Obj}, s₁.heap.get? b = some o → H b = none → (hidT s₁.heap H).get? b = some o := fun e n => hidT_get e n
  have nsK : ∀ {b : Addr} {m : Str → Option Value}, s₁.heap.Ns b m → (hidT s₁.heap H).Ns b m := fun {b m} ⟨o, es, ep, e, d, r⟩ => ⟨o, es, ep, base_of e (noA e d), d, r⟩
  have nK : ∀ b o, K.lookup b = some o → H b = none := fun b o e => by
    cases q : H b with
    | none => rfl
    | some u =>
      rw [hK b u q] at e
      cases e
  have hKb : K.In (hidT s₁.heap H) := fun b o e => base_of (KX b o e) (nK b o e)
  have hM : Mod K mg (hidT s₁.heap H) := ⟨hKb, nsK hns, ⟨mb, nsK hb, hbb⟩, let ⟨mc, h1, h2⟩ := hlim; ⟨mc, nsK h1, h2⟩⟩
  have e0 : Env0 P w K mg (hidT s₁.heap H) callerA [] s₁ H := ⟨rfl, hM, fun b o e => of_hidT e, Nat.le_of_eq (hidT_size _ _), trivial, fun b hb => absurd (show b ∈ ([] : List Addr) from hb) (by simp), hok, .of_eq hg⟩
  have hl : vals.length = ps.length := by rw [wellAll_len hwl]; exact hlen
  refine codeAny_mono ((F _ hKb (nsK hns)).run callerA [] s₁ H ⟨vals, []⟩ vals (vals.map toV) _ _ hr e0 (hbind s₁ vals hl) hV (hsp H _ hO hS)) fun r s' x => ?_
  cases r with
  | error e => exact (hCX H e s' x).elim
  | ok fl =>
    cases fl with
    | next => exact False.elim x
    | brk => exact False.elim x
    | cont => exact False.elim x
    | ret u =>
      obtain ⟨v, H', os, bare, un, hok', r', q⟩ := x
      have kept : ∀ b o, s₁.heap.get? b = some o → s'.heap.get? b = some o := fun b o e => by
        cases q2 : H b with
        | none => exact un.keep b o e q2 (by intro z; exact absurd (show b ∈ ([] : List Addr) from z) (by simp)) (by simp)
        | some u2 =>
          rcases hO b with z | ⟨ob, u3, z⟩
          · rw [q2] at z
            cases z
          · have z2 := un.frzs b ob _ z
            obtain ⟨e1, _⟩ := hok b _ z
            obtain ⟨e2, _⟩ := hok' b _ z2
            rw [e] at e1
            cases e1
            exact e2
      have KX' : K.In s'.heap := fun b o e => kept b o (KX b o e)
      obtain ⟨as, hrd⟩ := Dw.reads (R := R) (cl := cl) hok' KX' d0 v u q r'
      exact ⟨u, as, rfl, hrd, OldK.of_keep kept, os, bare⟩
theorem layable_weight {ds : List WData} (h : WData.layableAll ds = true) : ∀ d ∈ ds, d.weight ≤ 1048576 := fun d hd =>
  (PySem.W.layableW_iff.mp (List.all_eq_true.mp h d hd)).2.2
theorem encAll_len : ∀ (cs : List Codec) (a : Codec.denoteAll cs), (Codec.encAll cs a).length = cs.length
  | [], _ => rfl
  | c :: cs, a => by
    show (Codec.encAll cs a.2).length + 1 = cs.length + 1
    rw [encAll_len cs a.2]
theorem walk_spec {r : OpenSpec} {k : Nat} {q : Program} {loose : List Str} {XP : (Str → Option Value) → Heap → Prop} {YP : World → Heap → Prop} {d : DefRec} {K : Params → PySem.W.Frag} {CX : World → CXT} {ps : List Str} {sp : World → Sp}
    (hwell : r.wellSaid = true) (hdf : d.params.defaults = []) (hlen : r.args.length = ps.length) (hr : Room k callerA)
    (hY : ∀ (w : World) (h : Heap), YP w h → (K w.params).In h)
    (F : ∀ (w : World) (mg : Str → Option Value) (fa : Addr) (h : Heap), YP w h → (K w.params).In h → h.Ns mainGlobals mg → mg d.name = some (.ref fa) →
      ∃ fd : FuncData, (∀ (s : Shared) (us : List Value), us.length = ps.length → BindsTo s fd ⟨us, []⟩ (ps.zip us)) ∧
        ∀ base : Heap, (K w.params).In base → base.Ns mainGlobals mg → FnOk r.prog w (K w.params) mg base (CX w) k fa fd ps (sp w))
    (hsp : ∀ (w : World) (H : Hp) (xs : List V) (a : Codec.denoteAll r.args), OnlyF H → Codec.withinAll r.args a = true → Codec.app r.args r.asked a = true → DwAll (K w.params) H xs (Codec.encAll r.args a) →
      sp w xs H (fun v H' => Dw (K w.params) H' v (r.ret.enc (Codec.app r.args r.f a))) fun _ _ _ => False)
    (hCX : ∀ (w : World) (H : Hp) (s : Shared) (e : Value) (s' : Shared), CX w [] H s (fun _ _ _ => False) e s' → False) :
    PySem.W.WalkOS q loose XP YP r d [] (fun f vs => PySem.call f vs) := by
  intro w s_0 s₁ mg mb G Y fa o pm cd doc dV kV ho hd hcd hD hmg hg args vals as hpre hlay hrd hwl hlo
  obtain ⟨a, e1, e2⟩ := PySem.W.os_pre_some hpre
  obtain ⟨e3, hwi⟩ := Codec.encAll_of_decAll r.args args a e1
  subst e3
  have KX := hY w _ Y
  obtain ⟨fd, hb, hF⟩ := F w mg fa _ Y KX G.T.g hmg
  refine PySem.W.enter_call (codeAny_mono (spec_call (R := []) (cl := classAt s_0.heap) (d0 := r.ret.enc (Codec.app r.args r.f a)) KX G.T.g G.T.b G.T.builtins G.T.nolimit hg hwl (pl_encAll _ _) (layable_weight hlay) hr hF hb (by rw [encAll_len]; exact hlen)
    (fun H xs hO hS => hsp w H xs a hO hwi e2 hS) fun H e s' => hCX w H s₁ e s') fun r' s' hq => ?_)
  obtain ⟨u, as', rfl, h1, h2, h3, h4⟩ := hq
  exact ⟨.inl ⟨u, _, as', rfl, fun _ => rfl, h1, (OpenSpec.post_iff hwell hwi _ _).mpr rfl, fun z => Bool.noConfusion (show false = true from z)⟩, h2, h3, h4⟩
theorem walk_specK {r : OpenSpec} {k : Nat} {q : Program} {loose : List Str} {XP : (Str → Option Value) → Heap → Prop} {YP : World → Heap → Prop} {d : DefRec} {K : Params → PySem.W.Frag} {CX : CXT} {ps : List Str} {sp : PySem.W.Frag → Sp}
    (hwell : r.wellSaid = true) (hdf : d.params.defaults = []) (hlen : r.args.length = ps.length) (hr : Room k callerA)
    (hY : ∀ (w : World) (h : Heap), YP w h → (K w.params).In h)
    (F : ∀ (w : World) (mg : Str → Option Value) (fa : Addr) (h : Heap), YP w h → (K w.params).In h → h.Ns mainGlobals mg → mg d.name = some (.ref fa) →
      ∃ fd : FuncData, (∀ (s : Shared) (us : List Value), us.length = ps.length → BindsTo s fd ⟨us, []⟩ (ps.zip us)) ∧
        ∀ base : Heap, (K w.params).In base → base.Ns mainGlobals mg → FnOk r.prog w (K w.params) mg base CX k fa fd ps (sp (K w.params)))
    (hsp : ∀ (K : PySem.W.Frag) (H : Hp) (xs : List V) (a : Codec.denoteAll r.args), OnlyF H → Codec.withinAll r.args a = true → Codec.app r.args r.asked a = true → DwAll K H xs (Codec.encAll r.args a) →
      sp K xs H (fun v H' => Dw K H' v (r.ret.enc (Codec.app r.args r.f a))) fun _ _ _ => False)
    (hCX : ∀ (H : Hp) (s : Shared) (e : Value) (s' : Shared), CX [] H s (fun _ _ _ => False) e s' → False) :
    PySem.W.WalkOS q loose XP YP r d [] (fun f vs => PySem.call f vs) :=
  walk_spec (K := K) (CX := fun _ => CX) (sp := fun w => sp (K w.params)) hwell hdf hlen hr hY F (fun w H xs a h1 h2 h3 h4 => hsp (K w.params) H xs a h1 h2 h3 h4) fun _ H s e s' => hCX H s e s'
end L2
end
end
section
set_option maxRecDepth 100000
set_option maxHeartbeats 2000000
namespace SS
open PySem PySem.Spec PyProof.Rows L2
section
variable (P : Program) (w : World) (K : PySem.W.Frag) (mg : Str → Option Value) (base : Heap)
structure Glb (x : Str) (k : Nat) (ps : List Str) (sp : Sp) : Prop where
  ex : ∃ f fd, FnOk P w K mg base CX0 k f fd ps sp ∧ mg x = some (.ref f) ∧ PySem.W.keepIn K (.ref f) = true ∧ Binds K fd ps []
structure Mth (C : Addr) (m : Str) (k : Nat) (ps : List Str) (sp : Sp) : Prop where
  ex : ∃ f fd, FnOk P w K mg base CX0 k f fd ps sp ∧ Meth K C m f ∧ Binds K fd ps []
  cl : Cls K C
structure Mak (C : Addr) (x : Str) (k : Nat) (ps : List Str) (sp : Sp) : Prop where
  ex : ∃ f fd, FnOk P w K mg base CX0 k f fd ps sp ∧ Mk K C f ∧ Binds K fd ps []
  nm : mg x = some (.ref C)
end
section
variable {X : Cx} {e : Expr} {es : List Expr} {t : TA} {ta : TE} {k j : Nat} {ps : List Str} {sp : Sp} {x m : Str} {p pos apos : Pos} {o : Expr} {C : Addr}
theorem g_call (G : Glb X.prog X.w X.K X.mg X.base x k ps sp) (hr : Room j X.A) (ha : PA X (e :: es) t) (hk : k ≤ j := by decide) (hg : Gl X x := by rfl) (hdb : (x == ("__debug__" : Str)) = false := by decide)
    (he : starEach (e :: es) X.env = (false, eval e X.env) :: starEach es X.env := by rfl) (hpl : (backTo pos (starEach es X.env)).any (·.1) = false := by rfl) :
    PE X (.Call (.Name x p) (e :: es) [] pos) (tCall sp [] E0 t) := by
  obtain ⟨f, fd, F, hm, hkp, hb⟩ := G.ex
  exact pe_call F (hr.mono hk) hg hm hkp hb .nil pass0 ha hdb he hpl
theorem m_call {pl : Sem Bool} (G : Mth X.prog X.w X.K X.mg X.base C m k ps sp) (hr : Room j X.A) (he : PE X o ta) (ha : PA X (e :: es) t) (hk : k ≤ j := by decide)
    (hst : starEach (e :: es) X.env = (false, eval e X.env) :: starEach es X.env := by rfl) (hpl : (backTo pos (starEach es X.env)).any (·.1) = false := by rfl)
    (ht : eval (.Call (.Attribute o m apos) (e :: es) [] pos) X.env = (do
      let ov ← eval o X.env
      standAt apos.atName
      let (f, first) ← holding [ov] (getMethod ov m pl)
      callWith pos f first (backTo pos (starEach (e :: es) X.env)) (backToKw pos (keywordEach [] X.env))) := by rfl) :
    PE X (.Call (.Attribute o m apos) (e :: es) [] pos) (tMeth C m sp [] E0 ta t) := by
  obtain ⟨f, fd, F, hm, hb⟩ := G.ex
  exact pe_meth he G.cl hm F (hr.mono hk) hb .nil pass0 ha hst hpl ht
theorem m_call0 {pl : Sem Bool} (G : Mth X.prog X.w X.K X.mg X.base C m k ps sp) (hr : Room j X.A) (he : PE X o ta) (hk : k ≤ j := by decide)
    (ht : eval (.Call (.Attribute o m apos) [] [] pos) X.env = (do
      let ov ← eval o X.env
      standAt apos.atName
      let (f, first) ← holding [ov] (getMethod ov m pl)
      callWith pos f first (backTo pos (starEach [] X.env)) (backToKw pos (keywordEach [] X.env))) := by rfl) :
    PE X (.Call (.Attribute o m apos) [] [] pos) (tMeth C m sp [] E0 ta tNil) := by
  obtain ⟨f, fd, F, hm, hb⟩ := G.ex
  exact pe_meth0 he G.cl hm F (hr.mono hk) hb .nil pass0 ht
theorem k_make (G : Mak X.prog X.w X.K X.mg X.base C x k ps sp) (hr : Room j X.A) (ha : PA X (e :: es) t) (hk : k + 1 ≤ j := by decide) (hg : Gl X x := by rfl) (hdb : (x == ("__debug__" : Str)) = false := by decide)
    (he : starEach (e :: es) X.env = (false, eval e X.env) :: starEach es X.env := by rfl) (hpl : (backTo pos (starEach es X.env)).any (·.1) = false := by rfl) :
    PE X (.Call (.Name x p) (e :: es) [] pos) (tMake C sp [] E0 t) := by
  obtain ⟨f, fd, F, M, hb⟩ := G.ex
  exact pe_make M F (hr.mono hk) hg G.nm hb .nil pass0 ha hdb he hpl
theorem k_make0 (G : Mak X.prog X.w X.K X.mg X.base C x k ps sp) (hr : Room j X.A) (hk : k + 1 ≤ j := by decide) (hg : Gl X x := by rfl) (hdb : (x == ("__debug__" : Str)) = false := by decide) :
    PE X (.Call (.Name x p) [] [] pos) (tMake C sp [] E0 tNil) := by
  obtain ⟨f, fd, F, M, hb⟩ := G.ex
  exact pe_make0 M F (hr.mono hk) hg G.nm hb .nil pass0 hdb
theorem fldK {K : PySem.W.Frag} {f : Str} (hK : X.K = K) (he : PE X e ta) (hb : attributeBase e f X.env (eval e X.env) = eval e X.env := by rfl) : PE X (.Attribute e f pos) (tFld K ta f) := by
  subst hK
  exact pe_fld he hb
theorem ixLK {K : PySem.W.Frag} (hK : X.K = K) : IxR X (rIxL K) := by subst hK; exact ix_list
theorem ixTK {K : PySem.W.Frag} (hK : X.K = K) : IxR X (rIxT K) := by subst hK; exact ix_tup
theorem inK {K : PySem.W.Frag} (hK : X.K = K) : OpR X (compareOp .In) (rIn K false) := by subst hK; exact op_in_seq
theorem notInK {K : PySem.W.Frag} (hK : X.K = K) : OpR X (compareOp .NotIn) (rIn K true) := by subst hK; exact op_notIn_seq
def IntC (mg : Str → Option Value) (x : Str) (i : Int) : Prop := ∃ t, mg x = some (.int i t)
theorem g_int {i : Int} (h : IntC X.mg x i) (hg : Gl X x := by rfl) (hd : (x == ("__debug__" : Str)) = false := by decide) : PE X (.Name x pos) (tC (.int i)) := by
  obtain ⟨t, h⟩ := h
  exact pe_glob hg h ⟨t, rfl⟩ hd
def TupC (K : PySem.W.Frag) (mg : Str → Option Value) (x : Str) (is : List Int) : Prop := ∃ a, mg x = some (.ref a) ∧ ∀ H, SqT K H a (is.map V.int)
theorem g_ref {a : Addr} (h : X.mg x = some (.ref a)) (hg : Gl X x := by rfl) (hd : (x == ("__debug__" : Str)) = false := by decide) : PE X (.Name x pos) (tC (.ref a)) := pe_glob hg h rfl hd
end
theorem same_upd {H : Hp} {a : Addr} {o : HO} (h : H a = Option.none) : Same H (upd H a o) := fun b u e => by
  rw [upd_ne (ne_of_none e h)]; exact e
theorem Same.upd {H H' : Hp} {a : Addr} {o : HO} (s : Same H H') (h : H a = Option.none) : Same H (L2.upd H' a o) := fun b u e => by
  rw [upd_ne (ne_of_none e h)]; exact s b u e
def top (i : Nat) : Stmt := PySem.Challenge.pw_strandstore_s01_answers.main.body.getD i (.Pass ⟨0, 0, 0, 0⟩)
end SS
end
section
set_option maxRecDepth 100000
set_option maxHeartbeats 2000000
namespace SS
open PySem PySem.Spec PyProof.Rows L2
structure Ad where
  CallNumbers : Addr
  Field : Addr
  Size : Addr
  Polynomial : Addr
  ReadGroup : Addr
  Reader : Addr
  Writer : Addr
structure Txt (K : PySem.W.Frag) (mg : Str → Option Value) (A : Ad) : Prop where
  cl_CallNumbers : Cls K A.CallNumbers
  na_CallNumbers_numbers : NoAttr K A.CallNumbers "numbers"
  na_CallNumbers_taken : NoAttr K A.CallNumbers "taken"
  cl_Field : Cls K A.Field
  na_Field_powers : NoAttr K A.Field "powers"
  na_Field_logs : NoAttr K A.Field "logs"
  cl_Size : Cls K A.Size
  na_Size_k : NoAttr K A.Size "k"
  na_Size_m : NoAttr K A.Size "m"
  na_Size_n : NoAttr K A.Size "n"
  cl_Polynomial : Cls K A.Polynomial
  na_Polynomial_field : NoAttr K A.Polynomial "field"
  na_Polynomial_places : NoAttr K A.Polynomial "places"
  na_Polynomial_divisor_logs : NoAttr K A.Polynomial "divisor_logs"
  cl_ReadGroup : Cls K A.ReadGroup
  na_ReadGroup_field : NoAttr K A.ReadGroup "field"
  na_ReadGroup_k : NoAttr K A.ReadGroup "k"
  na_ReadGroup_loads : NoAttr K A.ReadGroup "loads"
  na_ReadGroup_filled_loads : NoAttr K A.ReadGroup "filled_loads"
  cl_Reader : Cls K A.Reader
  na_Reader_field : NoAttr K A.Reader "field"
  na_Reader_size : NoAttr K A.Reader "size"
  na_Reader_groups : NoAttr K A.Reader "groups"
  cl_Writer : Cls K A.Writer
  na_Writer_field : NoAttr K A.Writer "field"
  na_Writer_size : NoAttr K A.Writer "size"
  na_Writer_polynomial : NoAttr K A.Writer "polynomial"
  na_Writer_data : NoAttr K A.Writer "data"
  b_len : mg "len" = none
  b_range : mg "range" = none
  b_sum : mg "sum" = none
  b_zip : mg "zip" = none
  b_max : mg "max" = none
  b_sorted : mg "sorted" = none
  b_enumerate : mg "enumerate" = none
  b_all : mg "all" = none
  b_min : mg "min" = none
  b_list : mg "list" = none
  c_NUMBERS : IntC mg "NUMBERS" (256)
  c_NONZERO : IntC mg "NONZERO" (255)
  c_MODULUS : IntC mg "MODULUS" (283)
  c_LOAD_LENGTH : IntC mg "LOAD_LENGTH" (12)
  c_MOST_FILLED : IntC mg "MOST_FILLED" (64)
  c_MOST_SPARE : IntC mg "MOST_SPARE" (32)
  c_MOST_BYTES : IntC mg "MOST_BYTES" (16384)
  c_MOST_STRANDS : IntC mg "MOST_STRANDS" (4096)
  c_WRONG_SIZE : IntC mg "WRONG_SIZE" (-22)
  t_LETTERS : TupC K mg "LETTERS" [65, 67, 71, 84]
  u_LETTERS : ∀ a, mg "LETTERS" = some (.ref a) → ∃ o, K.lookup a = some o ∧ o.cls = .type "tuple" ∧ o.dict = none
  c_STRAND_LENGTH : IntC mg "STRAND_LENGTH" (64)
  c_WEIGHT_MODULUS : IntC mg "WEIGHT_MODULUS" (128)
  t_WEIGHT_PLACES : TupC K mg "WEIGHT_PLACES" [1, 2, 4, 8, 16, 32, 64]
  u_WEIGHT_PLACES : ∀ a, mg "WEIGHT_PLACES" = some (.ref a) → ∃ o, K.lookup a = some o ∧ o.cls = .type "tuple" ∧ o.dict = none
  c_ROW_BITS : IntC mg "ROW_BITS" (56)
  c_SHORTEST : IntC mg "SHORTEST" (63)
  c_LONGEST : IntC mg "LONGEST" (65)
  c_BLOCK_LENGTH : IntC mg "BLOCK_LENGTH" (256)
  c_WRONG_LETTERS : IntC mg "WRONG_LETTERS" (-22)
  c_NOT_MENDED : IntC mg "NOT_MENDED" (-74)
  c_ANOTHER_LOAD : IntC mg "ANOTHER_LOAD" (-17)
  c_READ_BEFORE : IntC mg "READ_BEFORE" (0)
  c_READ_NOW : IntC mg "READ_NOW" (1)
  c_NO_BLOCK : IntC mg "NO_BLOCK" (-22)
  c_STRANDS_LACKING : IntC mg "STRANDS_LACKING" (-11)
  c_NO_STRAND : IntC mg "NO_STRAND" (-2)
  c_SK_START : IntC mg "SK_START" (0)
  c_SK_STRAND : IntC mg "SK_STRAND" (1)
  c_SR_START : IntC mg "SR_START" (2)
  c_SR_READ : IntC mg "SR_READ" (3)
  c_SR_LACKS : IntC mg "SR_LACKS" (4)
  c_SR_BYTES : IntC mg "SR_BYTES" (5)
theorem lk_miss {f g : Str} {v : V} {fs : List (Str × V)} {r : Option V} (h : (f == g) = false) (t : List.lookup f fs = r) : List.lookup f ((g, v) :: fs) = r := by
  rw [List.lookup_cons, h]
  exact t
theorem rd_and {c : Prop} [Decidable c] {B D : Prop} (h1 : c → B) (h2 : ¬ c → D) : if decide c = true then B else D := by
  by_cases h : c
  · rw [if_pos (decide_eq_true h)]; exact h1 h
  · rw [if_neg (by simp [h])]; exact h2 h
theorem rd_if {b : Bool} {B D : Prop} (h1 : b = true → B) (h2 : b = false → D) : if b = true then B else D := by
  cases b with
  | true => exact h1 rfl
  | false => exact h2 rfl
theorem sqL_ins {K : PySem.W.Frag} {H : Hp} {l a C dx : Addr} {fs : List (Str × V)} {o : HO} {xs : List V} (h : SqL K H l xs) (hp : H a = some (.ins C dx fs)) : SqL K (upd H a o) l xs := by
  rcases h with (h | ⟨u, h⟩) | h
  · exact .inl (.inl (by rw [upd_ne (ne_of h hp (by intro z; cases z))]; exact h))
  · exact .inl (.inr ⟨u, by rw [upd_ne (ne_of h hp (by intro z; cases z))]; exact h⟩)
  · exact .inr h
theorem sqL_new {K : PySem.W.Frag} {H : Hp} {l a : Addr} {o : HO} {xs : List V} (h : SqL K H l xs) (hp : H a = Option.none) : SqL K (upd H a o) l xs := (same_upd hp).seq h
theorem upd_mid {H : Hp} {a p : Addr} {x y o : HO} : upd (upd (upd H a x) p o) a y = upd (upd H p o) a y := by
  funext b
  unfold upd
  by_cases h : b = a <;> by_cases h2 : b = p <;> simp [h, h2]
theorem none_upd {H : Hp} {a p : Addr} {o : HO} (h : upd H a o p = Option.none) : H p = Option.none ∧ p ≠ a := by
  unfold upd at h
  by_cases c : p = a
  · rw [if_pos c] at h; cases h
  · rw [if_neg c] at h; exact ⟨h, c⟩
theorem cut_nat {xs : List V} {i j : Nat} : cutV xs (some (i : Int)) (some (j : Int)) = (xs.drop i).take (j - i) := by
  unfold cutV
  rw [HT.sIx_nat, HT.sIx_nat]
  by_cases h : i ≤ xs.length
  · rw [Nat.min_eq_left h]
    by_cases h2 : j ≤ xs.length
    · rw [Nat.min_eq_left h2]
    · rw [Nat.min_eq_right (by omega), List.take_of_length_le (by rw [List.length_drop]; omega), List.take_of_length_le (by rw [List.length_drop]; omega)]
  · rw [Nat.min_eq_right (show xs.length ≤ i by omega), List.drop_of_length_le (Nat.le_refl _), List.drop_of_length_le (by omega), List.take_nil, List.take_nil]
theorem cut_lo {xs : List V} {j : Nat} : cutV xs none (some (j : Int)) = xs.take j := by
  unfold cutV
  rw [HT.sIx_nat, HT.sIx_none, List.drop_zero, Nat.sub_zero]
  by_cases h2 : j ≤ xs.length
  · rw [Nat.min_eq_left h2]
  · rw [Nat.min_eq_right (by omega), List.take_of_length_le (Nat.le_refl _), List.take_of_length_le (by omega)]
theorem cut_hi {xs : List V} {i : Nat} : cutV xs (some (i : Int)) none = xs.drop i := by
  unfold cutV
  rw [HT.sIx_nat, HT.sIx_none]
  by_cases h2 : i ≤ xs.length
  · rw [Nat.min_eq_left h2, List.take_of_length_le (by rw [List.length_drop]; omega)]
  · rw [Nat.min_eq_right (by omega), List.drop_of_length_le (Nat.le_refl _), List.drop_of_length_le (by omega), List.take_nil]
def vN (l : List Nat) : List V := l.map fun n : Nat => V.int (n : Int)
theorem vN_len (l : List Nat) : (vN l).length = l.length := List.length_map ..
theorem vN_get {l : List Nat} {i : Nat} {x : Nat} (h : l[i]? = some x) : (vN l)[i]? = some (V.int (x : Int)) := by
  unfold vN; rw [List.getElem?_map, h]; rfl
theorem vN_of {l : List Nat} {i : Nat} {v : V} (h : (vN l)[i]? = some v) : ∃ x, l[i]? = some x ∧ v = V.int (x : Int) := by
  unfold vN at h
  rw [List.getElem?_map] at h
  cases e : l[i]? with
  | none => rw [e] at h; cases h
  | some x => rw [e] at h; exact ⟨x, rfl, (Option.some.inj h).symm⟩
theorem vN_app (a b : List Nat) : vN (a ++ b) = vN a ++ vN b := List.map_append ..
theorem vN_int (l : List Nat) : vN l = (l.map fun n : Nat => (n : Int)).map V.int := by
  unfold vN; rw [List.map_map]; rfl
theorem xorN (a b : Nat) : Builtin.bitXor (a : Int) (b : Int) = ((a ^^^ b : Nat) : Int) := by
  rw [Bits.bitXor_pp (Int.natCast_nonneg _) (Int.natCast_nonneg _), Int.toNat_natCast, Int.toNat_natCast]
theorem qi {Q : VK} {H : Hp} {i j : Int} (h : Q (.int i) H) (e : j = i) : Q (.int j) H := by rw [e]; exact h
theorem qb {Q : VK} {H : Hp} {i j : Bool} (h : Q (.bl i) H) (e : j = i) : Q (.bl j) H := by rw [e]; exact h
theorem ixN_nat {n j : Nat} (h : j < n) : ixN n (j : Int) = some j := by
  unfold ixN
  rw [if_pos (by omega), if_pos (by omega)]; simp
def Ret (H : Hp) (l : List V) (Q : VK) : Prop := ∀ p H', H p = none → Same H H' → H' p = some (.lst l) → Q (.ref p) H'
theorem take_snoc {α : Type} {l : List α} {i : Nat} {x : α} (h : l[i]? = some x) : l.take (i + 1) = l.take i ++ [x] := by
  rw [List.take_add_one, h]; rfl
end SS
end
section
set_option maxRecDepth 100000
set_option maxHeartbeats 2000000
namespace SS
open PySem PySem.Spec PyProof.Rows L2
section
variable {X : Cx}
def rIndexT (K : PySem.W.Frag) : V → List V → Hp → VK → Prop := fun x xs H Q => ∃ (a : Addr) (ns : List Int) (z : Int) (j : Nat), x = V.ref a ∧ xs = [.int z] ∧ SqT K H a (ns.map V.int) ∧ ns[j]? = some z ∧
  (∀ m : Nat, m < j → ¬ ns[m]? = some z) ∧ Q (.int (j : Nat)) H
theorem flat_ints (ns : List Int) : (ns.map V.int).all flatV = true := by
  rw [List.all_eq_true]
  intro v hv
  obtain ⟨i, _, rfl⟩ := List.mem_map.mp hv
  rfl
theorem mt_indexT : MtR X "tuple.index" (rIndexT X.K) := by
  intro pins s σ H x xs v us Q I rx rxs h
  obtain ⟨a, ns, z, j, rfl, rfl, hs, hz, hno, q⟩ := h
  cases rx
  cases rxs with
  | cons ry rt =>
    rename_i uy ut
    cases rt
    obtain ⟨its, rv, ⟨⟨cls, dd, data, sl⟩, ho, hc, n, hd⟩, hlen⟩ := I.tuple hs
    simp only at hc hd
    subst hc hd
    have fys := flat_ints ns
    have hz' : (ns.map V.int)[j]? = some (.int z) := by rw [List.getElem?_map, hz]; rfl
    obtain ⟨u, hu, ru⟩ := rv.get hz'
    obtain ⟨hjl, hje⟩ := List.getElem?_eq_some_iff.mp hu
    have hvl := rv.length
    have hj : j < its.toArray.size := by simpa using hjl
    refine call_meets PySem.F.slot_tuple_index ⟨_, ho, rfl⟩ PySem.F.entry_tuple_index (PySem.F.args_tuple_index_2 _ _)
      (tuple_indexAt a its.toArray n dd sl uy (eqU (.int z)) j hj ?_ ?_) ⟨ho, fun u' hu' => mem_eqAt ry rfl rv fys u' (by simpa using hu'), ?_⟩
    · have e1 : its.toArray[j] = u := by simpa using hje
      rw [e1, eqU_of ru rfl]
      simp [eqV]
    · intro m hm hmj
      have hml : m < its.length := by simpa using hm
      have hmy : m < ns.length := by rw [List.length_map] at hvl; omega
      have hy' : (ns.map V.int)[m]? = some (.int ns[m]) := by rw [List.getElem?_map, List.getElem?_eq_getElem hmy]; rfl
      obtain ⟨u2, hu2, ru2⟩ := rv.get hy'
      obtain ⟨_, hme⟩ := List.getElem?_eq_some_iff.mp hu2
      have e1 : its.toArray[m] = u2 := by simpa using hme
      rw [e1, eqU_of ru2 rfl]
      have := hno m hmj
      rw [List.getElem?_eq_getElem hmy] at this
      simp [eqV]
      intro e
      exact this (by rw [e])
    · exact ⟨.int (j : Nat), H, I.tok _, ⟨_, rfl⟩, q⟩
theorem vals_keys : ∀ (ns : List Int) (vs : List (Key × Value)) (us : List Value), vs.map (·.1) = ns.map Sum.inl → us.length = vs.length → (∀ (j : Nat) (v : Value), us[j]? = some v → ∃ k x, vs[j]? = some (k, x) ∧ keyIs k v = true) → Vals (ns.map V.int) us
  | [], [], [], _, _, _ => .nil
  | n :: ns, (k, x) :: vs, u :: us, e, hl, h => by
    injection e with e1 e2
    have e1 : k = Sum.inl n := e1
    obtain ⟨k', x', hk, hi⟩ := h 0 u rfl
    have hk : (k, x) = (k', x') := Option.some.inj hk
    injection hk with hk1 _
    rw [← hk1, e1] at hi
    exact .cons (relV_key (k := Sum.inl n) hi) (vals_keys ns vs us e2 (by simpa using hl) fun j v hj => by simpa using h (j + 1) v (by simpa using hj))
  | [], _ :: _, _, e, _, _ => by simp at e
  | _ :: _, [], _, e, _, _ => by simp at e
  | [], [], _ :: _, _, hl, _ => by simp at hl
  | _ :: _, _ :: _, [], _, hl, _ => by simp at hl
def rSortedD : List V → Hp → VK → Prop := fun vs H Q => ∃ (a : Addr) (kvs : List (Key × V)) (ns : List Int), vs = [V.ref a] ∧ H a = some (.dK kvs) ∧ kvs.map (·.1) = ns.map Sum.inl ∧
  ∀ (ns' : List Int) (p : Addr), ns'.Perm ns → ns'.Pairwise (· ≤ ·) → H p = none → Q (.ref p) (upd H p (.lst (ns'.map V.int)))
theorem kv_keys {kvs : List (Key × V)} {vs : List (Key × Value)} (h : KV kvs vs) : vs.map (·.1) = kvs.map (·.1) := by
  induction h with
  | nil => rfl
  | cons h t ih => rw [List.map_cons, List.map_cons, ih, h.1]
theorem cr_sortedD (hc : X.calm = true) : CallR X (.builtin "sorted") rSortedD := by
  intro pins s σ H vs us Q I r h
  obtain ⟨a, kvs, ns, rfl, hd, hk, q⟩ := h
  rw [Vals.ref1 r]
  obtain ⟨z, hsy, vs, rel, dd⟩ := dk_of I.hok hd
  have hlen := rel.length
  have hks := kv_keys rel
  rw [hk] at hks
  obtain ⟨ep, dd⟩ := dd.dictAt
  refine sorted_src (PySem.W.kdl_dict (kvs := vs) (ep := ep) (knd := mixKind X.prog X.w) (d := a) hsy) (I.ok.hd hc) dd (by omega) (ns := ns) (fun us' hl hP => (vals_keys ns vs us' hks hl hP).ints) fun out ns' h' p tk e h1 h2 h3 h4 h5 h6 => ?_
  · have hlen' : (ns'.map V.int).length ≤ sizeLine := by
      rw [List.length_map, h2.length_eq]
      have := congrArg List.length hk
      rw [List.length_map, List.length_map] at this
      omega
    exact ⟨.ref _, upd H p (.lst (ns'.map V.int)), I.laid (t' := tk) h4 h5 ⟨hlen', out.toList, e, vals_of_ints h1, h6⟩, rfl, q ns' _ h2 h3 (I.hok.fresh h5)⟩
theorem bmK {K : PySem.W.Frag} {o e : Expr} {es : List Expr} {to : TE} {t : TA} {name : Str} {apos cpos : Pos} {T id : String} {r : V → List V → Hp → VK → Prop} (hK : X.K = K) (pa : PlainAttrs T) (slot : Slot T name id) (hty : typeOf (.builtin id) = pure (.type "method_descriptor")) (hm : MtR X id r) (ho : PE X o to) (ha : PA X (e :: es) t)
    (hbase : attributeBase o name X.env (eval o X.env) = eval o X.env := by rfl)
    (hfew : ((backTo cpos (starEach (e :: es) X.env)).all (fun x => !x.1) && (backToKw cpos (keywordEach [] X.env)).all (fun x => x.1.isSome)
      && decide ((e :: es).length + ([] : List Keyword).length + (if ([] : List Keyword).isEmpty then 0 else 1) < 30)) = true := by rfl)
    (hline : (apos.endLine == cpos.line) = true := by rfl) (hs : starEach (e :: es) X.env = (false, eval e X.env) :: starEach es X.env := by rfl) (hplain : (backTo cpos (starEach es X.env)).any (·.1) = false := by rfl) :
    PE X (.Call (.Attribute o name apos) (e :: es) [] cpos) (tBM K T r to t) := by subst hK; exact pe_bm pa slot hty hm ho ha hbase hfew hline hs hplain
theorem indexTK {K : PySem.W.Frag} (hK : X.K = K) : MtR X "tuple.index" (rIndexT K) := by subst hK; exact mt_indexT
end
end SS
end
section
set_option maxRecDepth 100000
set_option maxHeartbeats 2000000
namespace SS
open PySem PySem.Spec PyProof.Rows L2
theorem vals_rng : ∀ (n lo : Nat) (us : List Value), us.length = n → (∀ (j : Nat) (v : Value), us[j]? = some v → ∃ t, v = .int ((lo : Int) + (j : Nat)) t) → Vals (vN (List.range' lo n)) us
  | 0, lo, us, hl, _ => by
    have : us = [] := List.eq_nil_of_length_eq_zero hl
    subst this
    exact .nil
  | n + 1, lo, [], hl, _ => by simp at hl
  | n + 1, lo, u :: us, hl, h => by
    obtain ⟨t, e⟩ := h 0 u rfl
    subst e
    rw [List.range'_succ]
    refine .cons ⟨t, by simp⟩ (vals_rng n (lo + 1) us (by simpa using hl) fun j v hj => ?_)
    obtain ⟨t, e⟩ := h (j + 1) v (by simpa using hj)
    refine ⟨t, ?_⟩
    rw [e, show ((lo : Int) + ((j + 1 : Nat) : Int)) = (((lo + 1 : Nat) : Int) + (j : Nat)) by omega]
def tListR (ta : TA) : TE := fun σ H Q => ta σ H fun vs H1 => ∃ n : Nat, vs = [.int (n : Nat)] ∧ n ≤ 1000000 ∧ ∀ p, H1 p = none → Q (.ref p) (upd H1 p (.lst (vN (List.range n))))
theorem pe_listrange {X : Cx} {e : Expr} {ta : TA} {p p2 pos pos2 : Pos} (hg : Gl X "list") (hg2 : Gl X "range") (hm : X.mg "list" = none) (hm2 : X.mg "range" = none) (ha : PA X [e] ta) (hc : X.calm = true := by rfl) (hs : starEach [e] X.env = [(false, eval e X.env)] := by rfl)
    (hs2 : starEach [.Call (.Name "range" p2) [e] [] pos2] X.env = [(false, eval (.Call (.Name "range" p2) [e] [] pos2) X.env)] := by rfl) : PE X (.Call (.Name "list" p) [.Call (.Name "range" p2) [e] [] pos2] [] pos) (tListR ta) := by
  intro pins s σ H Q I h
  refine Call_ (ld_blt I hg hm PyProof.Rows.boot_list (PyProof.Rows.callWith_type1 (args_cons ?_ hs2) hs2 rfl))
  refine Call_ (ld_blt I hg2 hm2 PyProof.Rows.boot_range (PyProof.Rows.callWith_type1 (thn (ha pos2 pins s σ H _ I h) fun us s1 ⟨vs, H1, I1, r1, q1⟩ => ?_) hs rfl))
  obtain ⟨n, ex, hn, q⟩ := q1
  subst ex
  cases r1 with
  | cons r rr =>
    cases rr
    obtain ⟨t, rfl⟩ := r
    refine call_range_1 (args_nil ?_)
    have I2 : Inv X pins σ H1 { s1 with heap := s1.heap.push { cls := .type "range", data := .fields #[.int 0 s1.toks, .int n t, .int 1 (s1.toks + 1)] }, toks := s1.toks + 1 + 1 } := I1.kept fun b o e => Heap.get?_push_of_some _ e
    refine call_list_range (s := { s1 with heap := s1.heap.push { cls := .type "range", data := .fields #[.int 0 s1.toks, .int n t, .int 1 (s1.toks + 1)] }, toks := s1.toks + 1 + 1 }) (I1.ok.hd hc) (IsRange.new ..) (small_one (by omega) (by omega) (by omega) (by omega)) (n := n) (by rw [rangeSize_nat]; omega) (by omega) fun h' tk acc c' hk hS' hacc => ?_
    have hlen : (vN (List.range n)).length ≤ sizeLine := by
      rw [vN_len, List.length_range]
      exact Nat.le_trans hn (by decide)
    refine ⟨.ref _, upd H1 _ (.lst (vN (List.range n))), I2.laid (t' := tk) hk (Nat.le_refl _) ⟨hlen, acc.toList, c', ?_, by simpa using hS'⟩, rfl, q _ (I2.hok.fresh (Nat.le_refl _))⟩
    rw [List.range_eq_range']
    refine vals_rng n 0 acc.toList (by rw [Array.length_toList]; exact hacc.1) fun j v hj => ?_
    obtain ⟨t, e⟩ := hacc.2 j v (by rw [← Array.getElem?_toList]; exact hj)
    exact ⟨t, by rw [e]; congr 1; omega⟩
theorem lc_rngP {lo : Int} {n i : Nat} {tt : TT} {te : TE} {vs : List Nat} {σ : L2.St} {H1 : Hp} {Qd : Addr → Hp → Prop} (Pv : Nat → List V → Addr → Hp → Prop)
    (hz : n < sizeLine) (h0 : ∀ D, H1 D = none → Pv 0 [] D (upd H1 D (.lst []))) (hw : ∀ x, wipe ((wipe σ vs).set i (some x)) vs = wipe σ vs)
    (hs : ∀ (m : Nat) acc D H' (Qe : VK) (Qf : Hp → Prop), m < n → H1 D = none → Same H1 H' → acc.length = m → H' D = some (.lst acc) → Pv m acc D H' → (∀ v H4, Same H' H4 → Pv (m + 1) (acc ++ [v]) D (upd H4 D (.lst (acc ++ [v]))) → Qe v H4) →
      tt ((wipe σ vs).set i (some (.int (lo + (m : Nat))))) H' fun c H3 => if c = true then te ((wipe σ vs).set i (some (.int (lo + (m : Nat))))) H3 Qe else Qf H3)
    (hd : ∀ D H' acc, H1 D = none → Same H1 H' → acc.length = n → H' D = some (.lst acc) → Pv n acc D H' → Qd D H') :
    ∀ D, H1 D = none → ∃ W : Nat → Nat → Hp → Prop, (∃ m, W 0 m (upd H1 D (.lst []))) ∧ ∀ m mm H, W m mm H →
      ((Itr lo n).stop m H ∧ Qd D H) ∨ ((Itr lo n).go m H ∧ ∃ Nx : Hp → Prop, (∀ H', Nx H' → ∃ m', m' < mm ∧ W (m + 1) m' H') ∧ ∀ x H', (Itr lo n).yld m H x H' → gName i x (wipe σ vs) H' fun σ2 H2 => wipe σ2 vs = wipe σ vs ∧ tt σ2 H2 fun c H3 =>
        if c = true then te σ2 H3 fun y H4 => ∃ acc, H4 D = some (.lst acc) ∧ acc.length < sizeLine ∧ Nx (upd H4 D (.lst (acc ++ [y]))) else Nx H3) := by
  intro D hD
  refine ⟨fun m mm H => mm = n - m ∧ m ≤ n ∧ Same H1 H ∧ ∃ acc, acc.length = m ∧ H D = some (.lst acc) ∧ Pv m acc D H, ⟨n, by simp, Nat.zero_le _, same_upd hD, [], rfl, upd_same, h0 D hD⟩, ?_⟩
  rintro m mm H ⟨rfl, hi, sm, acc, la, hDm, pv⟩
  by_cases hlt : m < n
  · refine .inr ⟨hlt, fun H' => Same H1 H' ∧ ∃ acc, acc.length = m + 1 ∧ H' D = some (.lst acc) ∧ Pv (m + 1) acc D H', fun H' p' => ⟨n - (m + 1), by omega, rfl, hlt, p'⟩, fun v H' hv => ?_⟩
    obtain ⟨rfl, rfl⟩ := hv
    refine ⟨hw _, ?_⟩
    exact hs m acc D _ _ _ hlt hD sm la hDm pv fun v H4 s4 e => ⟨acc, s4 _ _ hDm, by omega, Same.upd (sm.trans s4) hD, acc ++ [v], by rw [List.length_append, la]; rfl, upd_same, e⟩
  · have e : m = n := by omega
    subst e
    exact .inl ⟨Nat.le_refl _, hd D H acc hD sm la hDm pv⟩
end SS
end
section
set_option maxRecDepth 100000
set_option maxHeartbeats 2000000
namespace SS
open PySem PySem.Spec PyProof.Rows L2
section
variable {K : PySem.W.Frag}
theorem g_pair {i j : Nat} {T : Addr} {x y : V} {σ : L2.St} {H : Hp} {Q : L2.St → Hp → Prop} (h : Q ((σ.set i (some x)).set j (some y)) (upd H T (.tup [x, y]))) :
    gTup K 2 (gCons (gName i) (gCons (gName j) gNil)) (.ref T) σ (upd H T (.tup [x, y])) Q :=
  ⟨T, [x, y], rfl, .inl (.inl upd_same), rfl, x, [y], rfl, y, [], rfl, rfl, h⟩
theorem for_zip {a b : Addr} {xs ys : List V} {n i j : Nat} {tb : TS} {D : Ends} {σ : L2.St} {H : Hp} (Pv : Nat → L2.St → Hp → Prop) (hn : n = min xs.length ys.length) (h0 : Pv 0 σ H) (hl : ∀ m σ H, m ≤ n → Pv m σ H → SqL K H a xs ∧ SqL K H b ys)
    (hs : ∀ m x y T σ H, xs[m]? = some x → ys[m]? = some y → H T = none → Pv m σ H → tb { D with nx := Pv (m + 1), ct := Pv (m + 1), bk := D.nx } ((σ.set i (some x)).set j (some y)) (upd H T (.tup [x, y]))) (hd : ∀ σ H, Pv n σ H → D.nx σ H) :
    ∃ W : Nat → Nat → L2.St → Hp → Prop, (∃ m, W 0 m σ H) ∧ ∀ m mm σ H, W m mm σ H →
      ((Itz K a b).stop m H ∧ D.nx σ H) ∨ ((Itz K a b).go m H ∧ ∃ N : L2.St → Hp → Prop, (∀ σ' H', N σ' H' → ∃ m', m' < mm ∧ W (m + 1) m' σ' H') ∧ ∀ x H', (Itz K a b).yld m H x H' → gTup K 2 (gCons (gName i) (gCons (gName j) gNil)) x σ H' fun σ2 H2 => tb { D with nx := N, ct := N, bk := D.nx } σ2 H2) := by
  refine ⟨fun m mm σ H => mm = n - m ∧ m ≤ n ∧ Pv m σ H, ⟨n, by simp, Nat.zero_le _, h0⟩, ?_⟩
  rintro m mm σ H ⟨rfl, hi, p⟩
  obtain ⟨hx, hy⟩ := hl m σ H hi p
  by_cases hlt : m < n
  · have l1 : m < xs.length := by omega
    have l2 : m < ys.length := by omega
    refine .inr ⟨⟨xs, ys, xs[m], ys[m], hx, hy, List.getElem?_eq_getElem l1, List.getElem?_eq_getElem l2⟩, Pv (m + 1), fun σ' H' p' => ⟨n - (m + 1), by omega, rfl, hlt, p'⟩, fun v H' hv => ?_⟩
    obtain ⟨T, x, y, rfl, hT, rfl, ex, ey⟩ := hv
    exact g_pair (hs m x y T σ H (ex xs hx) (ey ys hy) hT p)
  · have e : m = n := by omega
    subst e
    refine .inl ⟨⟨xs, ys, hx, hy, ?_⟩, hd σ H p⟩
    omega
theorem lc_zip {a b : Addr} {xs ys : List V} {n i j : Nat} {tt : TT} {te : TE} {vs : List Nat} {σ : L2.St} {H1 : Hp} {Qd : Addr → Hp → Prop} (out : Nat → List V) (hn : n = min xs.length ys.length) (hx : SqL K H1 a xs) (hy : SqL K H1 b ys)
    (hz : n < sizeLine) (o0 : out 0 = []) (ol : ∀ m, m ≤ n → (out m).length ≤ m) (hw : ∀ x y, wipe (((wipe σ vs).set i (some x)).set j (some y)) vs = wipe σ vs)
    (hs : ∀ m x y H' (Qe : VK) (Qf : Hp → Prop), xs[m]? = some x → ys[m]? = some y → Same H1 H' → (∀ v H4, Same H' H4 → out (m + 1) = out m ++ [v] → Qe v H4) → (∀ H3, Same H' H3 → out (m + 1) = out m → Qf H3) →
      tt (((wipe σ vs).set i (some x)).set j (some y)) H' fun c H3 => if c = true then te (((wipe σ vs).set i (some x)).set j (some y)) H3 Qe else Qf H3)
    (hd : ∀ D H', H1 D = none → Same H1 H' → H' D = some (.lst (out n)) → Qd D H') :
    ∀ D, H1 D = none → ∃ W : Nat → Nat → Hp → Prop, (∃ m, W 0 m (upd H1 D (.lst []))) ∧ ∀ m mm H, W m mm H →
      ((Itz K a b).stop m H ∧ Qd D H) ∨ ((Itz K a b).go m H ∧ ∃ Nx : Hp → Prop, (∀ H', Nx H' → ∃ m', m' < mm ∧ W (m + 1) m' H') ∧ ∀ x H', (Itz K a b).yld m H x H' → gTup K 2 (gCons (gName i) (gCons (gName j) gNil)) x (wipe σ vs) H' fun σ2 H2 => wipe σ2 vs = wipe σ vs ∧ tt σ2 H2 fun c H3 =>
        if c = true then te σ2 H3 fun y H4 => ∃ acc, H4 D = some (.lst acc) ∧ acc.length < sizeLine ∧ Nx (upd H4 D (.lst (acc ++ [y]))) else Nx H3) := by
  intro D hD
  refine ⟨fun m mm H => mm = n - m ∧ m ≤ n ∧ Same H1 H ∧ H D = some (.lst (out m)), ⟨n, by simp, Nat.zero_le _, same_upd hD, by rw [upd_same, o0]⟩, ?_⟩
  rintro m mm H ⟨rfl, hi, sm, hDm⟩
  by_cases hlt : m < n
  · have l1 : m < xs.length := by omega
    have l2 : m < ys.length := by omega
    refine .inr ⟨⟨xs, ys, xs[m], ys[m], sm.seq hx, sm.seq hy, List.getElem?_eq_getElem l1, List.getElem?_eq_getElem l2⟩, fun H' => Same H1 H' ∧ H' D = some (.lst (out (m + 1))), fun H' p' => ⟨n - (m + 1), by omega, rfl, hlt, p'⟩, fun v H' hv => ?_⟩
    obtain ⟨T, x, y, rfl, hT, rfl, ex, ey⟩ := hv
    refine g_pair (Q := fun σ2 H2 => wipe σ2 vs = wipe σ vs ∧ _) ⟨hw x y, ?_⟩
    have sT : Same H (upd H T (.tup [x, y])) := same_upd hT
    refine hs m x y _ _ _ (ex xs (sm.seq hx)) (ey ys (sm.seq hy)) (sm.trans sT) (fun v H4 s4 e => ⟨out m, (sT.trans s4) _ _ hDm, Nat.lt_of_le_of_lt (ol m hi) (by omega), ?_⟩) fun H3 s3 e => ?_
    · refine ⟨Same.upd (sm.trans (sT.trans s4)) hD, ?_⟩
      rw [upd_same, e]
    · refine ⟨sm.trans (sT.trans s3), ?_⟩
      rw [e]
      exact (sT.trans s3) _ _ hDm
  · have e : m = n := by omega
    subst e
    refine .inl ⟨⟨xs, ys, sm.seq hx, sm.seq hy, by omega⟩, hd D H hD sm hDm⟩
theorem lc_lst {a : Addr} {xs : List V} {i : Nat} {tt : TT} {te : TE} {vs : List Nat} {σ : L2.St} {H1 : Hp} {Qd : Addr → Hp → Prop} (out : Nat → List V) (hx : SqL K H1 a xs)
    (hz : xs.length < sizeLine) (o0 : out 0 = []) (ol : ∀ m, m ≤ xs.length → (out m).length ≤ m) (hw : ∀ x, wipe ((wipe σ vs).set i (some x)) vs = wipe σ vs)
    (hs : ∀ (m : Nat) x H' (Qe : VK) (Qf : Hp → Prop), xs[m]? = some x → Same H1 H' → (∀ v H4, Same H' H4 → out (m + 1) = out m ++ [v] → Qe v H4) → (∀ H3, Same H' H3 → out (m + 1) = out m → Qf H3) →
      tt ((wipe σ vs).set i (some x)) H' fun c H3 => if c = true then te ((wipe σ vs).set i (some x)) H3 Qe else Qf H3)
    (hd : ∀ D H', H1 D = none → Same H1 H' → H' D = some (.lst (out xs.length)) → Qd D H') :
    ∀ D, H1 D = none → ∃ W : Nat → Nat → Hp → Prop, (∃ m, W 0 m (upd H1 D (.lst []))) ∧ ∀ m mm H, W m mm H →
      ((Itl K a).stop m H ∧ Qd D H) ∨ ((Itl K a).go m H ∧ ∃ Nx : Hp → Prop, (∀ H', Nx H' → ∃ m', m' < mm ∧ W (m + 1) m' H') ∧ ∀ x H', (Itl K a).yld m H x H' → gName i x (wipe σ vs) H' fun σ2 H2 => wipe σ2 vs = wipe σ vs ∧ tt σ2 H2 fun c H3 =>
        if c = true then te σ2 H3 fun y H4 => ∃ acc, H4 D = some (.lst acc) ∧ acc.length < sizeLine ∧ Nx (upd H4 D (.lst (acc ++ [y]))) else Nx H3) := by
  intro D hD
  refine ⟨fun m mm H => mm = xs.length - m ∧ m ≤ xs.length ∧ Same H1 H ∧ H D = some (.lst (out m)), ⟨xs.length, by simp, Nat.zero_le _, same_upd hD, by rw [upd_same, o0]⟩, ?_⟩
  rintro m mm H ⟨rfl, hi, sm, hDm⟩
  by_cases hlt : m < xs.length
  · refine .inr ⟨⟨xs, xs[m], sm.seq hx, List.getElem?_eq_getElem hlt⟩, fun H' => Same H1 H' ∧ H' D = some (.lst (out (m + 1))), fun H' p' => ⟨xs.length - (m + 1), by omega, rfl, hlt, p'⟩, fun v H' hv => ?_⟩
    obtain ⟨rfl, ev⟩ := hv
    refine ⟨hw _, ?_⟩
    refine hs m v _ _ _ (ev xs (sm.seq hx)) sm (fun v H4 s4 e => ⟨out m, s4 _ _ hDm, Nat.lt_of_le_of_lt (ol m hi) (by omega), ?_⟩) fun H3 s3 e => ?_
    · refine ⟨Same.upd (sm.trans s4) hD, ?_⟩
      rw [upd_same, e]
    · refine ⟨sm.trans s3, ?_⟩
      rw [e]
      exact s3 _ _ hDm
  · have e : m = xs.length := by omega
    subst e
    exact .inl ⟨⟨xs, sm.seq hx, Nat.le_refl _⟩, hd D H hD sm hDm⟩
end
section
variable {X : Cx} {scope : Scope} {x y : Str} {px py pos : Pos} {kk i j : Nat}
theorem bg_name (hN : X.N.Nodup) (hi : X.N[i]? = some x) (hx : scope.names.lookup x = some .local) :
    ∀ (s : Shared) (H : Hp) (C : Addr) (cl : List (Str × Addr)) (fp : List Addr), PG (X.blk s H scope (compEnvC scope cl C X.env) fp) (.Name x px) (gName i) := fun s H C cl fp =>
  have hl : (compEnvC scope cl C X.env).scope.names.lookup x = some .local := lookup_relabel_local hx
  pg_name (X := X.blk s H scope (compEnvC scope cl C X.env) fp) hN hi (.inl hl) (.inr hl)
theorem bg_pair (hc : X.calm = true) (hN : X.N.Nodup) (hi : X.N[i]? = some x) (hj : X.N[j]? = some y) (hx : scope.names.lookup x = some .local) (hy : scope.names.lookup y = some .local) :
    ∀ (s : Shared) (H : Hp) (C : Addr) (cl : List (Str × Addr)) (fp : List Addr), PG (X.blk s H scope (compEnvC scope cl C X.env) fp) (.Tuple [.Name x px, .Name y py] kk pos) (gTup X.K 2 (gCons (gName i) (gCons (gName j) gNil))) := fun s H C cl fp =>
  pg_tup (X := X.blk s H scope (compEnvC scope cl C X.env) fp) hc (pgs_cons (bg_name hN hi hx s H C cl fp) (pgs_cons (bg_name hN hj hy s H C cl fp) pgs_nil))
end
end SS
end
section
set_option maxRecDepth 100000
set_option maxHeartbeats 2000000
namespace SS
open PySem PySem.Spec PyProof.Rows L2
def Itec (K : PySem.W.Frag) (a : Addr) (c : Int) : It :=
  ⟨fun i H => ∃ (xs : List V) (x : V), SqL K H a xs ∧ xs[i]? = some x, fun i H v H' => ∃ T x, v = .ref T ∧ H T = none ∧ H' = upd H T (.tup [.int (c + (i : Nat)), x]) ∧ ∀ xs, SqL K H a xs → xs[i]? = some x, fun i H => ∃ xs : List V, SqL K H a xs ∧ xs.length ≤ i⟩
def iEnumC (K : PySem.W.Frag) (c : Int) (ta : TA) : TI := fun σ H R => ta σ H fun vs H1 => ∃ a xs, vs = [.ref a] ∧ SqL K H1 a xs ∧ R (Itec K a c) H1
theorem turn_enumC {P : Program} {w : World} {K : PySem.W.Frag} {elts : List Expr} {kk : Nat} {tpos : Pos} (c : Int) (a e it : Addr) :
    Turn P w K (.Tuple elts kk tpos) (Itec K a c) [e, it] e (fun i h => (∃ old, IsEnum h e it (c + (i : Nat)) old) ∧ h.IsListIter it a i ∧ e ≠ it) where
  mem := by simp
  obj := fun i h st b hb => by
    obtain ⟨⟨old, he⟩, ⟨o, ho, hc, hd⟩, _⟩ := st
    have e' : b = e ∨ b = it := by simpa using hb
    rcases e' with z | z
    · rw [z]; exact ⟨_, he, fun v q => nomatch q⟩
    · rw [z]; exact ⟨o, ho, fun v q => by rw [hd] at q; cases q⟩
  keep := fun i h h' st k => let ⟨⟨old, he⟩, hi, hne⟩ := st; ⟨⟨old, k e (by simp) _ he⟩, hi.at fun o q => k it (by simp) o q, hne⟩
  item := by
    intro X hP hw hK hc i pins s σ H E I hf st hg
    subst hP hw hK
    obtain ⟨⟨old, he⟩, hit, hne⟩ := st
    obtain ⟨xs, x, hq, hx⟩ := hg
    obtain ⟨its, rv, p, hz⟩ := I.list hq
    obtain ⟨u, hu, ru⟩ := rv.get hx
    have hel : e < s.heap.objs.size := Heap.lt_size he
    have hil : it < s.heap.objs.size := by obtain ⟨_, q, _⟩ := hit; exact Heap.lt_size q
    refine next_enum_c he hit p.isList (x := u) (by simpa using hu) hne fun h' ho hit' hT hsz hk => ?_
    refine ⟨_, rfl, wpAny_letOwnedTupleGo_enum (s := { s with heap := h', toks := s.toks + 1 }) ho fun h'' he' sb => ?_⟩
    have hT2 : h''.get? s.heap.objs.size = some { cls := .type "tuple", data := .seq #[.int (c + (i : Nat)) s.toks, u] } := (sb.2 _ (Nat.ne_of_gt hel)).trans hT
    have new : ObjOk X.prog X.w (upd H s.heap.objs.size (.tup [.int (c + (i : Nat)), x])) h'' s.heap.objs.size (.tup [.int (c + (i : Nat)), x]) :=
      ⟨by show 2 ≤ sizeLine; decide, [.int (c + (i : Nat)) s.toks, u], .cons ⟨_, rfl⟩ (.cons ru .nil), ⟨_, hT2, rfl, _, rfl⟩⟩
    have I1 : Inv X pins σ (upd H s.heap.objs.size (.tup [.int (c + (i : Nat)), x])) { s with heap := h'', toks := s.toks + 1 } :=
      I.turnedNew (ch := [e, it]) (fun b ob hb q => (sb.2 b (fun z => hb (by simp [z]))).trans (hk b ob (fun z => hb (by simp [z])) (fun z => hb (by simp [z])) q)) hf (Nat.le_refl _) new
    refine ⟨.ref s.heap.objs.size, _, I1, rfl, ⟨_, x, rfl, I.hok.fresh (Nat.le_refl _), rfl, fun ys hy => by rw [I.list_inj hy hq]; exact hx⟩, ⟨⟨u, ?_⟩, hit'.at fun o q => (sb.2 it (Ne.symm hne)).trans q, hne⟩, fun b hb => ?_⟩
    · have e1 : c + ((i + 1 : Nat) : Int) = c + (i : Int) + 1 := by omega
      rw [e1]; exact he'
    · have hb' : b < s.heap.objs.size := by
        have e' : b = e ∨ b = it := by simpa using hb
        rcases e' with z | z
        · rw [z]; exact hel
        · rw [z]; exact hil
      rw [upd_ne (Nat.ne_of_lt hb')]
      exact (hf b hb).1
  done := by
    intro X hP hw hK hc i pins s σ H E I hf st hg
    subst hP hw hK
    obtain ⟨⟨old, he⟩, hit, hne⟩ := st
    obtain ⟨xs, hq, hx⟩ := hg
    obtain ⟨its, rv, p, hz⟩ := I.list hq
    obtain ⟨f0, f1, f2, f3, f4, f5⟩ := hf it (by simp)
    have hl := rv.length
    exact next_enum_c_end (I.ok.hd hc) he hit p.isList (by simp; omega) fun h' eb => ⟨rfl, I.turned (t' := s.toks) (fun b o hb q => eb b o hb q) f0 f1 f3 f4 f5⟩
  self := fun A i s Q E st h => let ⟨⟨_, he⟩, _⟩ := st; wpAny_pyIter_enum he h
theorem pi_enum1 {X : Cx} {e : Expr} {ta : TA} {jj : Nat} {p pos tpos vpos kpos : Pos} {elts : List Expr} {kk : Nat} (hg : Gl X "enumerate") (hm : X.mg "enumerate" = none) (ha : PA X [e] ta) (hs : starEach [e] X.env = [(false, eval e X.env)] := by rfl)
    (hc : eval (.Call (.Name "enumerate" p) [e] [⟨some "start", .Constant (.int 1) jj vpos, kpos⟩] pos) X.env = (do callWith pos (← eval (.Name "enumerate" p) X.env) [] (backTo pos (starEach [e] X.env)) (backToKw pos (keywordEach [⟨some "start", .Constant (.int 1) jj vpos, kpos⟩] X.env))) := by rfl) :
    PI X (.Tuple elts kk tpos) (.Call (.Name "enumerate" p) [e] [⟨some "start", .Constant (.int 1) jj vpos, kpos⟩] pos) (iEnumC X.K 1 ta) := by
  intro pins s σ H R I h
  rw [hc]
  refine wpAny_bind (ld_blt I hg hm boot_enumerate ?_)
  refine callWith_type_kw (by rw [hs]; rfl) rfl ?_
  refine evalArgs_kw2 (e := e) (rest := []) (by rfl) (thn (ha pos pins s σ H _ I h) fun us s1 ⟨vs, H1, I1, r1, q1⟩ => ?_) hs
  refine kwAll_cons (wpAny_Constant_int (kwAll_nil ?_))
  obtain ⟨a, xs, ex, hq, q⟩ := q1
  subst ex
  cases r1 with
  | cons r rr =>
    cases rr
    cases r
    obtain ⟨its, rv, p', hz⟩ := I1.list hq
    refine call_enum_1 (s := { s1 with toks := s1.toks + 1 }) (t := s1.toks) p'.isList fun h' he hit hsz hk => wpAny_pyIter_enum he ?_
    have I2 : Inv X pins σ H1 { s1 with heap := h', toks := s1.toks + 1 } := I1.kept (t' := s1.toks + 1) hk
    refine ⟨s1.heap.objs.size + 1, [s1.heap.objs.size + 1, s1.heap.objs.size], _, _, H1, rfl, I2, turn_enumC 1 a (s1.heap.objs.size + 1) s1.heap.objs.size, ⟨⟨.none, he⟩, hit, Nat.succ_ne_self _⟩, fun b hb => ?_, q⟩
    have e' : b = s1.heap.objs.size + 1 ∨ b = s1.heap.objs.size := by simpa using hb
    have hle : s1.heap.objs.size ≤ b := by
      rcases e' with z | z
      · rw [z]; exact Nat.le_add_right _ _
      · rw [z]; exact Nat.le_refl _
    exact I1.fpOk hle (I1.hok.fresh hle)
theorem lc_enum {K : PySem.W.Frag} {a : Addr} {c : Int} {xs : List V} {i j : Nat} {tt : TT} {te : TE} {vs : List Nat} {σ : L2.St} {H1 : Hp} {Qd : Addr → Hp → Prop} (out : Nat → List V) (hx : SqL K H1 a xs)
    (hz : xs.length < sizeLine) (o0 : out 0 = []) (ol : ∀ m, m ≤ xs.length → (out m).length ≤ m) (hw : ∀ x y, wipe (((wipe σ vs).set i (some x)).set j (some y)) vs = wipe σ vs)
    (hs : ∀ m y H' (Qe : VK) (Qf : Hp → Prop), xs[m]? = some y → Same H1 H' → (∀ v H4, Same H' H4 → out (m + 1) = out m ++ [v] → Qe v H4) → (∀ H3, Same H' H3 → out (m + 1) = out m → Qf H3) →
      tt (((wipe σ vs).set i (some (.int (c + (m : Nat))))).set j (some y)) H' fun b H3 => if b = true then te (((wipe σ vs).set i (some (.int (c + (m : Nat))))).set j (some y)) H3 Qe else Qf H3)
    (hd : ∀ D H', H1 D = none → Same H1 H' → H' D = some (.lst (out xs.length)) → Qd D H') :
    ∀ D, H1 D = none → ∃ W : Nat → Nat → Hp → Prop, (∃ m, W 0 m (upd H1 D (.lst []))) ∧ ∀ m mm H, W m mm H →
      ((Itec K a c).stop m H ∧ Qd D H) ∨ ((Itec K a c).go m H ∧ ∃ Nx : Hp → Prop, (∀ H', Nx H' → ∃ m', m' < mm ∧ W (m + 1) m' H') ∧ ∀ x H', (Itec K a c).yld m H x H' → gTup K 2 (gCons (gName i) (gCons (gName j) gNil)) x (wipe σ vs) H' fun σ2 H2 => wipe σ2 vs = wipe σ vs ∧ tt σ2 H2 fun b H3 =>
        if b = true then te σ2 H3 fun y H4 => ∃ acc, H4 D = some (.lst acc) ∧ acc.length < sizeLine ∧ Nx (upd H4 D (.lst (acc ++ [y]))) else Nx H3) := by
  intro D hD
  refine ⟨fun m mm H => mm = xs.length - m ∧ m ≤ xs.length ∧ Same H1 H ∧ H D = some (.lst (out m)), ⟨xs.length, by simp, Nat.zero_le _, same_upd hD, by rw [upd_same, o0]⟩, ?_⟩
  rintro m mm H ⟨rfl, hi, sm, hDm⟩
  by_cases hlt : m < xs.length
  · refine .inr ⟨⟨xs, xs[m], sm.seq hx, List.getElem?_eq_getElem hlt⟩, fun H' => Same H1 H' ∧ H' D = some (.lst (out (m + 1))), fun H' p' => ⟨xs.length - (m + 1), by omega, rfl, hlt, p'⟩, fun v H' hv => ?_⟩
    obtain ⟨T, y, rfl, hT, rfl, ey⟩ := hv
    refine g_pair (Q := fun σ2 H2 => wipe σ2 vs = wipe σ vs ∧ _) ⟨hw _ y, ?_⟩
    have sT : Same H (upd H T (.tup [.int (c + (m : Nat)), y])) := same_upd hT
    refine hs m y _ _ _ (ey xs (sm.seq hx)) (sm.trans sT) (fun v H4 s4 e => ⟨out m, (sT.trans s4) _ _ hDm, Nat.lt_of_le_of_lt (ol m hi) (by omega), ?_⟩) fun H3 s3 e => ?_
    · refine ⟨Same.upd (sm.trans (sT.trans s4)) hD, ?_⟩
      rw [upd_same, e]
    · refine ⟨sm.trans (sT.trans s3), ?_⟩
      rw [e]
      exact (sT.trans s3) _ _ hDm
  · have e : m = xs.length := by omega
    subst e
    exact .inl ⟨⟨xs, sm.seq hx, Nat.le_refl _⟩, hd D H hD sm hDm⟩
end SS
end
section
set_option maxRecDepth 100000
set_option maxHeartbeats 2000000
namespace SS
open PySem PySem.Spec PyProof.Rows L2
def szF (k m n : Int) : List (Str × V) := [("k", .int k), ("m", .int m), ("n", .int n)]
def SizeAt (A : Ad) (H : Hp) (a : Addr) (k m n : Int) : Prop := ∃ dx, H a = some (.ins A.Size dx (szF k m n))
theorem sz_k (k m n : Int) : (szF k m n).lookup ("k" : Str) = some (.int k) := by rfl
theorem sz_m (k m n : Int) : (szF k m n).lookup ("m" : Str) = some (.int m) := by rfl
theorem sz_n (k m n : Int) : (szF k m n).lookup ("n" : Str) = some (.int n) := by rfl
theorem sz_no (k m n : Int) {x : Str} (h1 : (x == ("k" : Str)) = false) (h2 : (x == ("m" : Str)) = false) (h3 : (x == ("n" : Str)) = false) : (szF k m n).lookup x = none :=
  lk_miss h1 (lk_miss h2 (lk_miss h3 rfl))
def sp_Size_init (A : Ad) : Sp := fun vs H Q _ => ∃ (p dx : Addr) (k m n : Int), vs = [.ref p, .int k, .int m, .int n] ∧ H p = some (.ins A.Size dx []) ∧ Q .non (upd H p (.ins A.Size dx (szF k m n)))
def sp_Size_is_in_range (A : Ad) : Sp := fun vs H Q _ => ∃ a k m n, vs = [.ref a] ∧ SizeAt A H a k m n ∧ Q (.bl (decide ((1 ≤ k ∧ k ≤ 64) ∧ (0 ≤ m ∧ m ≤ 32) ∧ 1 ≤ n ∧ n ≤ 16384))) H
def sp_Size_group_length (A : Ad) : Sp := fun vs H Q _ => ∃ a k m n, vs = [.ref a] ∧ SizeAt A H a k m n ∧ Q (.int (k + m)) H
def grp (k n : Int) : Int := (n + 12 * k - 1) / (12 * k)
def sp_Size_group_count (A : Ad) : Sp := fun vs H Q _ => ∃ a k m n, vs = [.ref a] ∧ SizeAt A H a k m n ∧ (1 ≤ k ∧ k ≤ 64) ∧ Q (.int (grp k n)) H
section
variable {P : Program} {w : World} {K : PySem.W.Frag} {mg : Str → Option Value} {base : Heap} {A : Ad} {f : Addr} {fd : FuncData}
abbrev st_Size_init : Stmt := (inClass (top 15) 0)
theorem sc_Size_init : FnScope ["self", "k", "m", "n"] ["self", "k", "m", "n"] (defScope st_Size_init) := ⟨rfl, rfl, rfl, by decide +kernel, rfl, by decide +kernel, by decide +kernel⟩
abbrev ps_Size_init : List Str := ["self", "k", "m", "n"]
theorem ok_Size_init (F : Fun K "__init__" "Size.__init__" st_Size_init f fd) (T : Txt K mg A) : FnOk P w K mg base CX0 1 f fd ps_Size_init (sp_Size_init A) := by
  refine F.ok sc_Size_init (fun vs H Q E h => ?_) (fun cdv Ar outer s H vs Q E hr h => ?_)
  · obtain ⟨p, dx, k, m, n, rfl, _⟩ := h
    rfl
  · obtain ⟨p, dx, k, m, n, rfl, hp, q⟩ := h
    refine ⟨_, (pss_cons (ps_fld (pv 0) (pv 1) rfl)
      (pss_cons (ps_fld (pv 0) (pv 2) rfl)
      (pss_one (ps_fld (pv 0) (pv 3) rfl)))), ?_⟩
    refine ⟨_, rfl, _, rfl, p, A.Size, dx, _, rfl, hp, T.cl_Size, T.na_Size_k, (by show 0 < 1000; decide), ?_⟩
    refine ⟨_, rfl, _, rfl, p, A.Size, dx, _, rfl, upd_same, T.cl_Size, T.na_Size_m, (by show 1 < 1000; decide), ?_⟩
    refine ⟨_, rfl, _, rfl, p, A.Size, dx, _, rfl, upd_same, T.cl_Size, T.na_Size_n, (by show 2 < 1000; decide), ?_⟩
    rw [upd_upd, upd_upd]
    exact q
abbrev st_Size_group_length : Stmt := (inClass (top 15) 3)
theorem sc_Size_group_length : FnScope ["self"] ["self"] (defScope st_Size_group_length) := ⟨rfl, rfl, rfl, by decide +kernel, rfl, by decide +kernel, by decide +kernel⟩
abbrev ps_Size_group_length : List Str := ["self"]
theorem ok_Size_group_length (F : Fun K "group_length" "Size.group_length" st_Size_group_length f fd) (T : Txt K mg A) : FnOk P w K mg base CX0 1 f fd ps_Size_group_length (sp_Size_group_length A) := by
  refine F.ok sc_Size_group_length (fun vs H Q E h => ?_) (fun cdv Ar outer s H vs Q E hr h => ?_)
  · obtain ⟨a, k, m, n, rfl, _⟩ := h
    rfl
  · obtain ⟨a, k, m, n, rfl, ⟨dx, hp⟩, q⟩ := h
    refine ⟨_, (pss_one (ps_ret (pe_op op_add (pe_fld (pv 0) rfl) (pe_fld (pv 0) rfl)))), ?_⟩
    refine ⟨_, rfl, a, A.Size, dx, _, _, rfl, hp, T.cl_Size, T.na_Size_k, sz_k k m n, ?_⟩
    refine ⟨_, rfl, a, A.Size, dx, _, _, rfl, hp, T.cl_Size, T.na_Size_m, sz_m k m n, ?_⟩
    exact ⟨_, _, rfl, rfl, q⟩
abbrev st_Size_group_count : Stmt := (inClass (top 15) 4)
theorem sc_Size_group_count : FnScope ["self", "group_bytes"] ["self"] (defScope st_Size_group_count) := ⟨rfl, rfl, rfl, by decide +kernel, rfl, by decide +kernel, by decide +kernel⟩
abbrev ps_Size_group_count : List Str := ["self"]
theorem ok_Size_group_count (F : Fun K "group_count" "Size.group_count" st_Size_group_count f fd) (T : Txt K mg A) : FnOk P w K mg base CX0 1 f fd ps_Size_group_count (sp_Size_group_count A) := by
  refine F.ok sc_Size_group_count (fun vs H Q E h => ?_) (fun cdv Ar outer s H vs Q E hr h => ?_)
  · obtain ⟨a, k, m, n, rfl, _⟩ := h
    rfl
  · obtain ⟨a, k, m, n, rfl, ⟨dx, hp⟩, hk, q⟩ := h
    refine ⟨_, (pss_cons (ps_set (i := 1) (sc_Size_group_count).nd rfl (by first | exact Or.inl rfl | exact Or.inr rfl) (pe_op op_mul (g_int T.c_LOAD_LENGTH) (pe_fld (pv 0) rfl)))
      (pss_one (ps_ret (pe_op op_fdiv (pe_op op_sub (pe_op op_add (pe_fld (pv 0) rfl) (pv 1)) pe_int) (pv 1))))), ?_⟩
    refine ⟨_, rfl, a, A.Size, dx, _, _, rfl, hp, T.cl_Size, T.na_Size_k, sz_k k m n, _, _, rfl, rfl, .inl (by decide), ?_⟩
    refine ⟨_, rfl, a, A.Size, dx, _, _, rfl, hp, T.cl_Size, T.na_Size_n, sz_n k m n, _, rfl, _, _, rfl, rfl, _, _, rfl, rfl, _, rfl, _, _, rfl, rfl, ⟨by omega, by omega⟩, ?_⟩
    exact q
abbrev st_Size_is_in_range : Stmt := (inClass (top 15) 2)
theorem sc_Size_is_in_range : FnScope ["self"] ["self"] (defScope st_Size_is_in_range) := ⟨rfl, rfl, rfl, by decide +kernel, rfl, by decide +kernel, by decide +kernel⟩
abbrev ps_Size_is_in_range : List Str := ["self"]
theorem ok_Size_is_in_range (F : Fun K "is_in_range" "Size.is_in_range" st_Size_is_in_range f fd) (T : Txt K mg A) : FnOk P w K mg base CX0 1 f fd ps_Size_is_in_range (sp_Size_is_in_range A) := by
  refine F.ok sc_Size_is_in_range (fun vs H Q E h => ?_) (fun cdv Ar outer s H vs Q E hr h => ?_)
  · obtain ⟨a, k, m, n, rfl, _⟩ := h
    rfl
  · obtain ⟨a, k, m, n, rfl, ⟨dx, hp⟩, q⟩ := h
    refine ⟨_, (pss_one (ps_ret (pe_and (pe_chain op_le op_le pe_int (pe_fld (pv 0) rfl) (g_int T.c_MOST_FILLED)) (pe_and (pe_chain op_le op_le pe_int (pe_fld (pv 0) rfl) (g_int T.c_MOST_SPARE)) (pe_one (pe_chain op_le op_le pe_int (pe_fld (pv 0) rfl) (g_int T.c_MOST_BYTES))))))), ?_⟩
    have qF : ¬ ((1 ≤ k ∧ k ≤ 64) ∧ (0 ≤ m ∧ m ≤ 32) ∧ 1 ≤ n ∧ n ≤ 16384) → Q (.bl false) H := fun c => by
      rw [decide_eq_false c] at q
      exact q
    refine ⟨_, rfl, a, A.Size, dx, _, _, rfl, hp, T.cl_Size, T.na_Size_k, sz_k k m n, _, _, rfl, rfl, _, rfl, rd_and (fun c1 => ⟨_, _, rfl, rfl, _, rfl, rd_and (fun c2 => ?_) (fun c2 => qF (by omega))⟩) (fun c1 => ⟨_, rfl, iteF (qF (by omega))⟩)⟩
    refine ⟨_, rfl, a, A.Size, dx, _, _, rfl, hp, T.cl_Size, T.na_Size_m, sz_m k m n, _, _, rfl, rfl, _, rfl, rd_and (fun c3 => ⟨_, _, rfl, rfl, _, rfl, rd_and (fun c4 => ?_) (fun c4 => qF (by omega))⟩) (fun c3 => ⟨_, rfl, iteF (qF (by omega))⟩)⟩
    refine ⟨_, rfl, a, A.Size, dx, _, _, rfl, hp, T.cl_Size, T.na_Size_n, sz_n k m n, _, _, rfl, rfl, _, rfl, rd_and (fun c5 => ⟨_, _, rfl, rfl, ?_⟩) (fun c5 => qF (by omega))⟩
    rw [show decide ((1 ≤ k ∧ k ≤ 64) ∧ (0 ≤ m ∧ m ≤ 32) ∧ 1 ≤ n ∧ n ≤ 16384) = decide (n ≤ 16384) by simp only [c1, c2, c3, c4, c5, true_and]] at q
    exact q
def sp_Size_strand_count (A : Ad) : Sp := fun vs H Q _ => ∃ a k m n, vs = [.ref a] ∧ SizeAt A H a k m n ∧ (1 ≤ k ∧ k ≤ 64) ∧ (0 ≤ m ∧ m ≤ 32) ∧ Q (.int (grp k n * (k + m))) H
abbrev st_Size_strand_count : Stmt := (inClass (top 15) 5)
theorem sc_Size_strand_count : FnScope ["self"] ["self"] (defScope st_Size_strand_count) := ⟨rfl, rfl, rfl, by decide +kernel, rfl, by decide +kernel, by decide +kernel⟩
abbrev ps_Size_strand_count : List Str := ["self"]
theorem ok_Size_strand_count (F : Fun K "strand_count" "Size.strand_count" st_Size_strand_count f fd) (T : Txt K mg A)
    (M_Size_group_count : Mth P w K mg base A.Size "group_count" 1 ps_Size_group_count (sp_Size_group_count A))
    (M_Size_group_length : Mth P w K mg base A.Size "group_length" 1 ps_Size_group_length (sp_Size_group_length A)) :
    FnOk P w K mg base CX0 2 f fd ps_Size_strand_count (sp_Size_strand_count A) := by
  refine F.ok sc_Size_strand_count (fun vs H Q E h => ?_) (fun cdv Ar outer s H vs Q E hr h => ?_)
  · obtain ⟨a, k, m, n, rfl, _⟩ := h
    rfl
  · obtain ⟨a, k, m, n, rfl, ⟨dx, hp⟩, hk, hm, q⟩ := h
    refine ⟨_, (pss_one (ps_ret (pe_op op_mul (m_call0 M_Size_group_count hr (pv 0)) (m_call0 M_Size_group_length hr (pv 0))))), ?_⟩
    refine ⟨_, rfl, a, dx, _, rfl, hp, sz_no k m n (by decide) (by decide) (by decide), a, k, m, n, rfl, ⟨dx, hp⟩, hk, ?_⟩
    refine ⟨_, rfl, a, dx, _, rfl, hp, sz_no k m n (by decide) (by decide) (by decide), a, k, m, n, rfl, ⟨dx, hp⟩, ?_⟩
    exact ⟨_, _, rfl, rfl, .inr (by omega), q⟩
def toldS (k m n : Int) : Bool := decide (((1 ≤ k ∧ k ≤ 64) ∧ (0 ≤ m ∧ m ≤ 32) ∧ 1 ≤ n ∧ n ≤ 16384) ∧ grp k n * (k + m) ≤ 4096)
def sp_Size_is_as_told (A : Ad) : Sp := fun vs H Q _ => ∃ a k m n, vs = [.ref a] ∧ SizeAt A H a k m n ∧ Q (.bl (toldS k m n)) H
abbrev st_Size_is_as_told : Stmt := (inClass (top 15) 1)
theorem sc_Size_is_as_told : FnScope ["self"] ["self"] (defScope st_Size_is_as_told) := ⟨rfl, rfl, rfl, by decide +kernel, rfl, by decide +kernel, by decide +kernel⟩
abbrev ps_Size_is_as_told : List Str := ["self"]
theorem ok_Size_is_as_told (F : Fun K "is_as_told" "Size.is_as_told" st_Size_is_as_told f fd) (T : Txt K mg A)
    (M_Size_is_in_range : Mth P w K mg base A.Size "is_in_range" 1 ps_Size_is_in_range (sp_Size_is_in_range A))
    (M_Size_strand_count : Mth P w K mg base A.Size "strand_count" 2 ps_Size_strand_count (sp_Size_strand_count A)) :
    FnOk P w K mg base CX0 3 f fd ps_Size_is_as_told (sp_Size_is_as_told A) := by
  refine F.ok sc_Size_is_as_told (fun vs H Q E h => ?_) (fun cdv Ar outer s H vs Q E hr h => ?_)
  · obtain ⟨a, k, m, n, rfl, _⟩ := h
    rfl
  · obtain ⟨a, k, m, n, rfl, ⟨dx, hp⟩, q⟩ := h
    refine ⟨_, (pss_one (ps_ret (pe_and (m_call0 M_Size_is_in_range hr (pv 0)) (pe_one (pe_cmpR op_le (m_call0 M_Size_strand_count hr (pv 0)) (g_int T.c_MOST_STRANDS) (nomark _)))))), ?_⟩
    refine ⟨_, rfl, a, dx, _, rfl, hp, sz_no k m n (by decide) (by decide) (by decide), a, k, m, n, rfl, ⟨dx, hp⟩, _, rfl, rd_and (fun c => ?_) (fun c => ?_)⟩
    · refine ⟨_, rfl, a, dx, _, rfl, hp, sz_no k m n (by decide) (by decide) (by decide), a, k, m, n, rfl, ⟨dx, hp⟩, c.1, c.2.1, _, _, rfl, rfl, ?_⟩
      rw [show toldS k m n = decide (grp k n * (k + m) ≤ 4096) by unfold toldS; simp only [c, true_and, and_self]] at q
      exact q
    · rw [show toldS k m n = false by unfold toldS; simp only [c, false_and, decide_false]] at q
      exact q
def sp_Size_group_of (A : Ad) : Sp := fun vs H Q _ => ∃ a k m n q, vs = [.ref a, .int q] ∧ SizeAt A H a k m n ∧ (1 ≤ k ∧ k ≤ 64) ∧ (0 ≤ m ∧ m ≤ 32) ∧ Q (.int (q / (k + m))) H
abbrev st_Size_group_of : Stmt := (inClass (top 15) 6)
theorem sc_Size_group_of : FnScope ["self", "number"] ["self", "number"] (defScope st_Size_group_of) := ⟨rfl, rfl, rfl, by decide +kernel, rfl, by decide +kernel, by decide +kernel⟩
abbrev ps_Size_group_of : List Str := ["self", "number"]
theorem ok_Size_group_of (F : Fun K "group_of" "Size.group_of" st_Size_group_of f fd) (T : Txt K mg A)
    (M_Size_group_length : Mth P w K mg base A.Size "group_length" 1 ps_Size_group_length (sp_Size_group_length A)) :
    FnOk P w K mg base CX0 2 f fd ps_Size_group_of (sp_Size_group_of A) := by
  refine F.ok sc_Size_group_of (fun vs H Q E h => ?_) (fun cdv Ar outer s H vs Q E hr h => ?_)
  · obtain ⟨a, k, m, n, q, rfl, _⟩ := h
    rfl
  · obtain ⟨a, k, m, n, z, rfl, ⟨dx, hp⟩, hk, hm, q⟩ := h
    refine ⟨_, (pss_one (ps_ret (pe_op op_fdiv (pv 1) (m_call0 M_Size_group_length hr (pv 0))))), ?_⟩
    refine ⟨_, rfl, _, rfl, a, dx, _, rfl, hp, sz_no k m n (by decide) (by decide) (by decide), a, k, m, n, rfl, ⟨dx, hp⟩, ?_⟩
    exact ⟨_, _, rfl, rfl, ⟨by omega, by omega⟩, q⟩
def sp_Size_place_of (A : Ad) : Sp := fun vs H Q _ => ∃ a k m n q, vs = [.ref a, .int q] ∧ SizeAt A H a k m n ∧ (1 ≤ k ∧ k ≤ 64) ∧ (0 ≤ m ∧ m ≤ 32) ∧ Q (.int (q % (k + m))) H
abbrev st_Size_place_of : Stmt := (inClass (top 15) 7)
theorem sc_Size_place_of : FnScope ["self", "number"] ["self", "number"] (defScope st_Size_place_of) := ⟨rfl, rfl, rfl, by decide +kernel, rfl, by decide +kernel, by decide +kernel⟩
abbrev ps_Size_place_of : List Str := ["self", "number"]
theorem ok_Size_place_of (F : Fun K "place_of" "Size.place_of" st_Size_place_of f fd) (T : Txt K mg A)
    (M_Size_group_length : Mth P w K mg base A.Size "group_length" 1 ps_Size_group_length (sp_Size_group_length A)) :
    FnOk P w K mg base CX0 2 f fd ps_Size_place_of (sp_Size_place_of A) := by
  refine F.ok sc_Size_place_of (fun vs H Q E h => ?_) (fun cdv Ar outer s H vs Q E hr h => ?_)
  · obtain ⟨a, k, m, n, q, rfl, _⟩ := h
    rfl
  · obtain ⟨a, k, m, n, z, rfl, ⟨dx, hp⟩, hk, hm, q⟩ := h
    refine ⟨_, (pss_one (ps_ret (pe_op op_mod (pv 1) (m_call0 M_Size_group_length hr (pv 0))))), ?_⟩
    refine ⟨_, rfl, _, rfl, a, dx, _, rfl, hp, sz_no k m n (by decide) (by decide) (by decide), a, k, m, n, rfl, ⟨dx, hp⟩, ?_⟩
    exact ⟨_, _, rfl, rfl, (by omega), q⟩
end
end SS
end
section
set_option maxRecDepth 100000
set_option maxHeartbeats 2000000
namespace SS
open PySem PySem.Spec PyProof.Rows L2
def cnF (l : Addr) (i : Int) : List (Str × V) := [("numbers", .ref l), ("taken", .int i)]
theorem cn_l (l : Addr) (i : Int) : (cnF l i).lookup ("numbers" : Str) = some (.ref l) := by rfl
theorem cn_i (l : Addr) (i : Int) : (cnF l i).lookup ("taken" : Str) = some (.int i) := by rfl
theorem cn_no (l : Addr) (i : Int) {x : Str} (h1 : (x == ("numbers" : Str)) = false) (h2 : (x == ("taken" : Str)) = false) : (cnF l i).lookup x = none := lk_miss h1 (lk_miss h2 rfl)
def sp_CallNumbers_init (A : Ad) : Sp := fun vs H Q _ => ∃ (p dx l : Addr), vs = [.ref p, .ref l] ∧ H p = some (.ins A.CallNumbers dx []) ∧ Q .non (upd H p (.ins A.CallNumbers dx (cnF l 0)))
def sp_CallNumbers_is_taken (K : PySem.W.Frag) (A : Ad) : Sp := fun vs H Q _ => ∃ (a dx l : Addr) (ns : List Int) (i : Nat), vs = [.ref a] ∧ H a = some (.ins A.CallNumbers dx (cnF l i)) ∧ SqL K H l (ns.map V.int) ∧ Q (.bl (decide (i = ns.length))) H
def sp_CallNumbers_take_number (K : PySem.W.Frag) (A : Ad) : Sp := fun vs H Q _ => ∃ (a dx l : Addr) (ns : List Int) (i : Nat) (z : Int), vs = [.ref a] ∧ H a = some (.ins A.CallNumbers dx (cnF l i)) ∧ SqL K H l (ns.map V.int) ∧ ns[i]? = some z ∧ Q (.int z) (upd H a (.ins A.CallNumbers dx (cnF l ((i + 1 : Nat) : Int))))
def sp_CallNumbers_take_row (K : PySem.W.Frag) (A : Ad) : Sp := fun vs H Q _ => ∃ (a dx l : Addr) (ns : List Int) (i n : Nat), vs = [.ref a] ∧ H a = some (.ins A.CallNumbers dx (cnF l i)) ∧ SqL K H l (ns.map V.int) ∧ ns[i]? = some (n : Int) ∧ i + 1 + n ≤ ns.length ∧
  ∀ p, H p = none → Q (.ref p) (upd (upd H p (.lst (((ns.drop (i + 1)).take n).map V.int))) a (.ins A.CallNumbers dx (cnF l ((i + 1 + n : Nat) : Int))))
section
variable {P : Program} {w : World} {K : PySem.W.Frag} {mg : Str → Option Value} {base : Heap} {A : Ad} {f : Addr} {fd : FuncData}
abbrev st_CallNumbers_init : Stmt := (inClass (top 1) 0)
theorem sc_CallNumbers_init : FnScope ["self", "numbers"] ["self", "numbers"] (defScope st_CallNumbers_init) := ⟨rfl, rfl, rfl, by decide +kernel, rfl, by decide +kernel, by decide +kernel⟩
abbrev ps_CallNumbers_init : List Str := ["self", "numbers"]
theorem ok_CallNumbers_init (F : Fun K "__init__" "CallNumbers.__init__" st_CallNumbers_init f fd) (T : Txt K mg A) : FnOk P w K mg base CX0 1 f fd ps_CallNumbers_init (sp_CallNumbers_init A) := by
  refine F.ok sc_CallNumbers_init (fun vs H Q E h => ?_) (fun cdv Ar outer s H vs Q E hr h => ?_)
  · obtain ⟨p, dx, l, rfl, _⟩ := h
    rfl
  · obtain ⟨p, dx, l, rfl, hp, q⟩ := h
    refine ⟨_, (pss_cons (ps_fld (pv 0) (pv 1) rfl)
      (pss_one (ps_fld (pv 0) pe_int rfl))), ?_⟩
    refine ⟨_, rfl, _, rfl, p, A.CallNumbers, dx, _, rfl, hp, T.cl_CallNumbers, T.na_CallNumbers_numbers, (by show 0 < 1000; decide), ?_⟩
    refine ⟨_, rfl, p, A.CallNumbers, dx, _, rfl, upd_same, T.cl_CallNumbers, T.na_CallNumbers_taken, (by show 1 < 1000; decide), ?_⟩
    rw [upd_upd]
    exact q
abbrev st_CallNumbers_is_taken : Stmt := (inClass (top 1) 1)
theorem sc_CallNumbers_is_taken : FnScope ["self"] ["self"] (defScope st_CallNumbers_is_taken) := ⟨rfl, rfl, rfl, by decide +kernel, rfl, by decide +kernel, by decide +kernel⟩
abbrev ps_CallNumbers_is_taken : List Str := ["self"]
theorem ok_CallNumbers_is_taken (F : Fun K "is_taken" "CallNumbers.is_taken" st_CallNumbers_is_taken f fd) (T : Txt K mg A) : FnOk P w K mg base CX0 1 f fd ps_CallNumbers_is_taken (sp_CallNumbers_is_taken K A) := by
  refine F.ok sc_CallNumbers_is_taken (fun vs H Q E h => ?_) (fun cdv Ar outer s H vs Q E hr h => ?_)
  · obtain ⟨a, dx, l, ns, i, rfl, _⟩ := h
    rfl
  · obtain ⟨a, dx, l, ns, i, rfl, hp, hs, q⟩ := h
    refine ⟨_, (pss_one (ps_ret (pe_cmpR op_eq (pe_fld (pv 0) rfl) (pe_callB call_len_seq rfl T.b_len PySem.boot_len (pa_cons (pe_fld (pv 0) rfl) pa_nil)) (nomark _)))), ?_⟩
    refine ⟨_, rfl, a, A.CallNumbers, dx, _, _, rfl, hp, T.cl_CallNumbers, T.na_CallNumbers_taken, cn_i l i, ?_⟩
    refine ⟨_, rfl, a, A.CallNumbers, dx, _, _, rfl, hp, T.cl_CallNumbers, T.na_CallNumbers_numbers, cn_l l i, l, _, rfl, .inl hs, rfl, ?_⟩
    rw [show decide (i = ns.length) = decide (V.int (i : Int) = V.int ((ns.map V.int).length : Int)) by
      rw [List.length_map]
      by_cases c : i = ns.length
      · rw [decide_eq_true c, c, decide_eq_true rfl]
      · rw [decide_eq_false c, decide_eq_false]
        intro e
        injection e with e
        omega] at q
    exact q
abbrev st_CallNumbers_take_number : Stmt := (inClass (top 1) 2)
theorem sc_CallNumbers_take_number : FnScope ["self", "number"] ["self"] (defScope st_CallNumbers_take_number) := ⟨rfl, rfl, rfl, by decide +kernel, rfl, by decide +kernel, by decide +kernel⟩
abbrev ps_CallNumbers_take_number : List Str := ["self"]
theorem ok_CallNumbers_take_number (F : Fun K "take_number" "CallNumbers.take_number" st_CallNumbers_take_number f fd) (T : Txt K mg A) : FnOk P w K mg base CX0 1 f fd ps_CallNumbers_take_number (sp_CallNumbers_take_number K A) := by
  refine F.ok sc_CallNumbers_take_number (fun vs H Q E h => ?_) (fun cdv Ar outer s H vs Q E hr h => ?_)
  · obtain ⟨a, dx, l, ns, i, z, rfl, _⟩ := h
    rfl
  · obtain ⟨a, dx, l, ns, i, z, rfl, hp, hs, hz, q⟩ := h
    refine ⟨_, (pss_cons (ps_set (i := 1) (sc_CallNumbers_take_number).nd rfl (by first | exact Or.inl rfl | exact Or.inr rfl) (pe_ix ix_list (pe_fld (pv 0) rfl) (pe_fld (pv 0) rfl) (fun _ _ => rfl)))
      (pss_cons (ps_fld (pv 0) (pe_op op_add (pe_fld (pv 0) rfl) pe_int) rfl)
      (pss_one (ps_ret (pv 1))))), ?_⟩
    refine ⟨_, rfl, a, A.CallNumbers, dx, _, _, rfl, hp, T.cl_CallNumbers, T.na_CallNumbers_numbers, cn_l l i, ?_⟩
    refine ⟨_, rfl, a, A.CallNumbers, dx, _, _, rfl, hp, T.cl_CallNumbers, T.na_CallNumbers_taken, cn_i l i, l, _, _, V.int z, rfl, rfl, hs, atI_nat (by rw [List.getElem?_map, hz]; rfl), ?_⟩
    refine ⟨_, rfl, a, A.CallNumbers, dx, _, _, rfl, hp, T.cl_CallNumbers, T.na_CallNumbers_taken, cn_i l i, _, _, rfl, rfl, _, rfl, a, A.CallNumbers, dx, _, rfl, hp, T.cl_CallNumbers, T.na_CallNumbers_taken, (by show 2 < 1000; decide), ?_⟩
    refine ⟨_, rfl, ?_⟩
    rw [show cnF l ((i + 1 : Nat) : Int) = cnF l ((i : Int) + 1) by rw [show ((i + 1 : Nat) : Int) = (i : Int) + 1 by omega]] at q
    exact q
abbrev st_CallNumbers_take_row : Stmt := (inClass (top 1) 3)
theorem sc_CallNumbers_take_row : FnScope ["self", "length", "row"] ["self"] (defScope st_CallNumbers_take_row) := ⟨rfl, rfl, rfl, by decide +kernel, rfl, by decide +kernel, by decide +kernel⟩
abbrev ps_CallNumbers_take_row : List Str := ["self"]
theorem ok_CallNumbers_take_row (F : Fun K "take_row" "CallNumbers.take_row" st_CallNumbers_take_row f fd) (T : Txt K mg A)
    (M_CallNumbers_take_number : Mth P w K mg base A.CallNumbers "take_number" 1 ps_CallNumbers_take_number (sp_CallNumbers_take_number K A)) :
    FnOk P w K mg base CX0 2 f fd ps_CallNumbers_take_row (sp_CallNumbers_take_row K A) := by
  refine F.ok sc_CallNumbers_take_row (fun vs H Q E h => ?_) (fun cdv Ar outer s H vs Q E hr h => ?_)
  · obtain ⟨a, dx, l, ns, i, n, rfl, _⟩ := h
    rfl
  · obtain ⟨a, dx, l, ns, i, n, rfl, hp, hs, hz, hn, q⟩ := h
    refine ⟨_, (pss_cons (ps_set (i := 1) (sc_CallNumbers_take_row).nd rfl (by first | exact Or.inl rfl | exact Or.inr rfl) (m_call0 M_CallNumbers_take_number hr (pv 0)))
      (pss_cons (ps_set (i := 2) (sc_CallNumbers_take_row).nd rfl (by first | exact Or.inl rfl | exact Or.inr rfl) (pe_slice sl_list (pe_fld (pv 0) rfl) (po_some (pe_fld (pv 0) rfl)) (po_some (pe_op op_add (pe_fld (pv 0) rfl) (pv 1)))))
      (pss_cons (ps_fld (pv 0) (pe_op op_add (pe_fld (pv 0) rfl) (pv 1)) rfl)
      (pss_one (ps_ret (pv 2)))))), ?_⟩
    refine ⟨_, rfl, a, dx, _, rfl, hp, cn_no l i (by decide) (by decide), a, dx, l, ns, i, (n : Int), rfl, hp, hs, hz, ?_⟩
    refine ⟨_, rfl, a, A.CallNumbers, dx, _, _, rfl, upd_same, T.cl_CallNumbers, T.na_CallNumbers_numbers, cn_l l _, ?_⟩
    refine ⟨_, rfl, a, A.CallNumbers, dx, _, _, rfl, upd_same, T.cl_CallNumbers, T.na_CallNumbers_taken, cn_i l _, _, rfl, ?_⟩
    refine ⟨_, rfl, a, A.CallNumbers, dx, _, _, rfl, upd_same, T.cl_CallNumbers, T.na_CallNumbers_taken, cn_i l _, _, rfl, _, _, rfl, rfl, _, rfl, ?_⟩
    refine ⟨l, _, rfl, sqL_ins hs hp, fun p hn' => ?_⟩
    obtain ⟨pn, pa⟩ := none_upd hn'
    refine ⟨_, rfl, a, A.CallNumbers, dx, _, _, rfl, (by rw [upd_ne (Ne.symm pa)]; exact upd_same), T.cl_CallNumbers, T.na_CallNumbers_taken, cn_i l _, _, rfl, _, _, rfl, rfl, _, rfl, a, A.CallNumbers, dx, _, rfl, (by rw [upd_ne (Ne.symm pa)]; exact upd_same), T.cl_CallNumbers, T.na_CallNumbers_taken, (by show 2 < 1000; decide), ?_⟩
    refine ⟨_, rfl, ?_⟩
    have e : cutV (ns.map V.int) (some ((i + 1 : Nat) : Int)) (some (((i + 1 : Nat) : Int) + (n : Int))) = ((ns.drop (i + 1)).take n).map V.int := by
      rw [show ((i + 1 : Nat) : Int) + (n : Int) = ((i + 1 + n : Nat) : Int) by omega, cut_nat, List.map_take, List.map_drop, show i + 1 + n - (i + 1) = n by omega]
    have q' := q p pn
    rw [← e, ← upd_mid (x := .ins A.CallNumbers dx (cnF l ((i + 1 : Nat) : Int))), show ((i + 1 + n : Nat) : Int) = ((i + 1 : Nat) : Int) + (n : Int) by omega] at q'
    exact q'
end
end SS
end
section
set_option maxRecDepth 100000
set_option maxHeartbeats 2000000
namespace SS
open PySem PySem.Spec PyProof.Rows L2
def fdF (p g : Addr) : List (Str × V) := [("powers", .ref p), ("logs", .ref g)]
theorem fd_p (p g : Addr) : (fdF p g).lookup ("powers" : Str) = some (.ref p) := by rfl
theorem fd_g (p g : Addr) : (fdF p g).lookup ("logs" : Str) = some (.ref g) := by rfl
theorem fd_no (p g : Addr) {x : Str} (h1 : (x == ("powers" : Str)) = false) (h2 : (x == ("logs" : Str)) = false) : (fdF p g).lookup x = none := lk_miss h1 (lk_miss h2 rfl)
def powT (i : Nat) : List Nat := (List.range i).map gE
theorem powT_get {i n : Nat} (h : i < n) : (powT n)[i]? = some (gE i) := by
  unfold powT
  rw [List.getElem?_map, List.getElem?_range h]; rfl
theorem logT_get {a : Nat} (h : a < 256) : (logT 255)[a]? = some (lg a) := by
  unfold lg
  rw [List.getD_eq_getElem?_getD, List.getElem?_eq_getElem (by rw [logT_len]; exact h)]
  rfl
structure FieldAt (A : Ad) (H : Hp) (a : Addr) : Prop where
  ex : ∃ dx p g, H a = some (.ins A.Field dx (fdF p g)) ∧ H p = some (.lst (vN (powT 255))) ∧ H g = some (.lst (vN (logT 255)))
theorem FieldAt.same {A : Ad} {H H' : Hp} {a : Addr} (h : FieldAt A H a) (s : Same H H') : FieldAt A H' a := by
  obtain ⟨dx, p, g, h1, h2, h3⟩ := h.ex
  exact ⟨dx, p, g, s _ _ h1, s _ _ h2, s _ _ h3⟩
def sp_times_x_plus_one : Sp := fun vs H Q _ => ∃ n : Nat, vs = [.int (n : Int)] ∧ n < 256 ∧ Q (.int ((tri n : Nat) : Int)) H
def sp_Field_init (A : Ad) : Sp := fun vs H Q _ => ∃ (a dx : Addr), vs = [.ref a] ∧ H a = some (.ins A.Field dx []) ∧ ∀ H', FieldAt A H' a → (∀ b o, H b = some o → b ≠ a → H' b = some o) → Q .non H'
def sp_Field_power (A : Ad) : Sp := fun vs H Q _ => ∃ (a : Addr) (z : Int), vs = [.ref a, .int z] ∧ FieldAt A H a ∧ Q (.int ((gZ z : Nat) : Int)) H
def sp_Field_multiply (A : Ad) : Sp := fun vs H Q _ => ∃ (a : Addr) (x y : Nat), vs = [.ref a, .int (x : Int), .int (y : Int)] ∧ x < 256 ∧ y < 256 ∧ FieldAt A H a ∧ Q (.int ((Km348.times x y : Nat) : Int)) H
section
variable {P : Program} {w : World} {K : PySem.W.Frag} {mg : Str → Option Value} {base : Heap} {A : Ad} {f : Addr} {fd : FuncData}
abbrev st_times_x_plus_one : Stmt := (top 6)
theorem sc_times_x_plus_one : FnScope ["number", "shifted"] ["number"] (defScope st_times_x_plus_one) := ⟨rfl, rfl, rfl, by decide +kernel, rfl, by decide +kernel, by decide +kernel⟩
abbrev ps_times_x_plus_one : List Str := ["number"]
theorem tri_lo {n : Nat} (h : n < 128) : tri n = (n * 2) ^^^ n := by
  unfold tri Km348.double; rw [if_pos h, Nat.mul_comm]
theorem tri_hi {n : Nat} (h : ¬ n < 128) : tri n = ((n * 2) ^^^ 283) ^^^ n := by
  unfold tri Km348.double; rw [if_neg h, Nat.mul_comm]
theorem ok_times_x_plus_one (F : Fun K "times_x_plus_one" "times_x_plus_one" st_times_x_plus_one f fd) (T : Txt K mg A) : FnOk P w K mg base CX0 1 f fd ps_times_x_plus_one sp_times_x_plus_one := by
  refine F.ok sc_times_x_plus_one (fun vs H Q E h => ?_) (fun cdv Ar outer s H vs Q E hr h => ?_)
  · obtain ⟨n, rfl, _⟩ := h
    rfl
  · obtain ⟨n, rfl, hn, q⟩ := h
    refine ⟨_, (pss_cons (ps_set (i := 1) (sc_times_x_plus_one).nd rfl (by first | exact Or.inl rfl | exact Or.inr rfl) (pe_op op_shl (pv 0) pe_int))
      (pss_cons (ps_if (pt_cmpR op_ge (pv 1) (g_int T.c_NUMBERS) (nomark _)) (pss_one (ps_set (i := 1) (sc_times_x_plus_one).nd rfl (by first | exact Or.inl rfl | exact Or.inr rfl) (pe_op op_xor (pv 1) (g_int T.c_MODULUS)))) pss_nil)
      (pss_one (ps_ret (pe_op op_xor (pv 1) (pv 0)))))), ?_⟩
    refine ⟨_, rfl, _, _, rfl, rfl, ⟨by decide, by decide, by omega⟩, ?_⟩
    have e1 : (n : Int) * 2 ^ (1 : Int).toNat = ((n * 2 : Nat) : Int) := by
      rw [show (1 : Int).toNat = 1 from rfl]; omega
    refine ⟨_, rfl, _, _, rfl, rfl, _, rfl, rd_and (fun c => ?_) (fun c => ?_)⟩
    · refine ⟨_, rfl, _, _, rfl, rfl, ?_⟩
      refine ⟨_, rfl, _, rfl, _, _, rfl, rfl, ?_⟩
      rw [e1] at c
      exact qi q (by rw [e1, show (283 : Int) = ((283 : Nat) : Int) from rfl, xorN, xorN, ← tri_hi (by omega)])
    · refine ⟨_, rfl, _, rfl, _, _, rfl, rfl, ?_⟩
      rw [e1] at c
      exact qi q (by rw [e1, xorN, ← tri_lo (by omega)])
abbrev st_Field_power : Stmt := (inClass (top 7) 1)
theorem sc_Field_power : FnScope ["self", "exponent"] ["self", "exponent"] (defScope st_Field_power) := ⟨rfl, rfl, rfl, by decide +kernel, rfl, by decide +kernel, by decide +kernel⟩
abbrev ps_Field_power : List Str := ["self", "exponent"]
theorem ok_Field_power (F : Fun K "power" "Field.power" st_Field_power f fd) (T : Txt K mg A) : FnOk P w K mg base CX0 1 f fd ps_Field_power (sp_Field_power A) := by
  refine F.ok sc_Field_power (fun vs H Q E h => ?_) (fun cdv Ar outer s H vs Q E hr h => ?_)
  · obtain ⟨a, z, rfl, _⟩ := h
    rfl
  · obtain ⟨a, z, rfl, hf, q⟩ := h
    obtain ⟨dx, p, g, h1, h2, h3⟩ := hf.ex
    refine ⟨_, (pss_one (ps_ret (pe_ix ix_list (pe_fld (pv 0) rfl) (pe_op op_mod (pv 1) (g_int T.c_NONZERO)) (fun _ _ => rfl)))), ?_⟩
    refine ⟨_, rfl, a, A.Field, dx, _, _, rfl, h1, T.cl_Field, T.na_Field_powers, fd_p p g, ?_⟩
    refine ⟨_, rfl, _, _, rfl, rfl, (by decide : (0 : Int) < 255), p, _, _, _, rfl, rfl, SqL.of h2, ?_, q⟩
    exact at_of (j := (z % 255).toNat) (by omega) (vN_get (powT_get (by omega)))
abbrev st_Field_multiply : Stmt := (inClass (top 7) 2)
theorem sc_Field_multiply : FnScope ["self", "left", "right"] ["self", "left", "right"] (defScope st_Field_multiply) := ⟨rfl, rfl, rfl, by decide +kernel, rfl, by decide +kernel, by decide +kernel⟩
abbrev ps_Field_multiply : List Str := ["self", "left", "right"]
theorem ok_Field_multiply (F : Fun K "multiply" "Field.multiply" st_Field_multiply f fd) (T : Txt K mg A)
    (M_Field_power : Mth P w K mg base A.Field "power" 1 ps_Field_power (sp_Field_power A)) :
    FnOk P w K mg base CX0 2 f fd ps_Field_multiply (sp_Field_multiply A) := by
  refine F.ok sc_Field_multiply (fun vs H Q E h => ?_) (fun cdv Ar outer s H vs Q E hr h => ?_)
  · obtain ⟨a, x, y, rfl, _⟩ := h
    rfl
  · obtain ⟨a, x, y, rfl, hx, hy, hf, q⟩ := h
    obtain ⟨dx, p, g, h1, h2, h3⟩ := hf.ex
    refine ⟨_, (pss_cons (ps_if (PW.pt (pw_or (pt_cmpR op_eq (pv 1) pe_int (nomark _)) (pw_or1 (pt_cmpR op_eq (pv 2) pe_int (nomark _))))) (pss_one (ps_ret pe_int)) pss_nil)
      (pss_one (ps_ret (m_call M_Field_power hr (pv 0) (pa_cons (pe_op op_add (pe_ix ix_list (pe_fld (pv 0) rfl) (pv 1) (fun _ _ => rfl)) (pe_ix ix_list (pe_fld (pv 0) rfl) (pv 2) (fun _ _ => rfl))) pa_nil))))), ?_⟩
    refine ⟨_, rfl, rfl, _, rfl, rd_and (fun c => ?_) (fun c => ?_)⟩
    · refine iteT ?_
      injection c with c
      exact qi q (by rw [show x = 0 by omega, zero_times]; rfl)
    · refine ⟨_, rfl, rfl, _, rfl, rd_and (fun c2 => ?_) (fun c2 => ?_)⟩
      · injection c2 with c2
        exact qi q (by rw [show y = 0 by omega, times_zero x hx]; rfl)
      · have x0 : x ≠ 0 := fun e => c (by rw [e]; rfl)
        have y0 : y ≠ 0 := fun e => c2 (by rw [e]; rfl)
        refine ⟨_, rfl, a, dx, _, rfl, h1, fd_no p g (by decide) (by decide), ?_⟩
        refine ⟨_, rfl, a, A.Field, dx, _, _, rfl, h1, T.cl_Field, T.na_Field_logs, fd_g p g, _, rfl, g, _, _, _, rfl, rfl, SqL.of h3, atI_nat (vN_get (logT_get hx)), ?_⟩
        refine ⟨_, rfl, a, A.Field, dx, _, _, rfl, h1, T.cl_Field, T.na_Field_logs, fd_g p g, _, rfl, g, _, _, _, rfl, rfl, SqL.of h3, atI_nat (vN_get (logT_get hy)), _, _, rfl, rfl, ?_⟩
        refine ⟨a, _, rfl, hf, ?_⟩
        exact qi q (by rw [times_lg hx hy x0 y0, ← gZ_nat]; congr 2 <;> omega)
abbrev st_Field_init : Stmt := (inClass (top 7) 0)
theorem sc_Field_init : FnScope ["self", "number", "exponent"] ["self"] (defScope st_Field_init) := ⟨rfl, rfl, rfl, by decide +kernel, rfl, by decide +kernel, by decide +kernel⟩
abbrev ps_Field_init : List Str := ["self"]
theorem ok_Field_init (F : Fun K "__init__" "Field.__init__" st_Field_init f fd) (T : Txt K mg A)
    (G_times_x_plus_one : Glb P w K mg base "times_x_plus_one" 1 ps_times_x_plus_one sp_times_x_plus_one) :
    FnOk P w K mg base CX0 2 f fd ps_Field_init (sp_Field_init A) := by
  refine F.ok sc_Field_init (fun vs H Q E h => ?_) (fun cdv Ar outer s H vs Q E hr h => ?_)
  · obtain ⟨a, dx, rfl, _⟩ := h
    rfl
  · obtain ⟨a, dx, rfl, h1, q⟩ := h
    refine ⟨_, (pss_cons (ps_fld (pv 0) (pe_lst pa_nil) rfl)
      (pss_cons (ps_fld (pv 0) (pe_op op_rep (pe_lst (pa_cons pe_int pa_nil)) (g_int T.c_NUMBERS)) rfl)
      (pss_cons (ps_set (i := 1) (sc_Field_init).nd rfl (by first | exact Or.inl rfl | exact Or.inr rfl) pe_int)
      (pss_one (ps_for PassesOwn.never rfl (pi_range1 rfl T.b_range (pa_cons (g_int T.c_NONZERO) pa_nil)) (pg_name (i := 2) (sc_Field_init).nd rfl (by first | exact Or.inl rfl | exact Or.inr rfl))
        (pss_cons (ps_expr (pe_bm PySem.F.plainAttrs_list PySem.F.slot_list_append PySem.F.type_list_append mt_append (pe_fld (pv 0) rfl) (pa_cons (pv 1) pa_nil)))
      (pss_cons (ps_asg (pv 2) (pg_sub (pe_fld (pv 0) rfl) (pv 1) set_list))
      (pss_one (ps_set (i := 1) (sc_Field_init).nd rfl (by first | exact Or.inl rfl | exact Or.inr rfl) (g_call G_times_x_plus_one hr (pa_cons (pv 1) pa_nil))))))))))), ?_⟩
    refine ⟨Nat.zero_le _, fun p hp => ⟨_, rfl, a, A.Field, dx, _, rfl, (by rw [upd_ne (ne_of_none h1 hp)]; exact h1), T.cl_Field, T.na_Field_powers, (by show 0 < 1000; decide), ?_⟩⟩
    have pa : p ≠ a := fun e => by rw [e, h1] at hp; cases hp
    refine ⟨(by show 1 ≤ sizeLine; decide), fun z hz => ?_⟩
    obtain ⟨hz1, za⟩ := none_upd hz
    obtain ⟨hz2, zp⟩ := none_upd hz1
    refine ⟨z, _, _, rfl, rfl, upd_same, (by decide), (by decide), (by show 1 * 256 ≤ sizeLine; decide), fun g hg => ?_⟩
    obtain ⟨hg1, gz⟩ := none_upd hg
    obtain ⟨hg2, ga⟩ := none_upd hg1
    obtain ⟨hg3, gp⟩ := none_upd hg2
    refine ⟨_, rfl, a, A.Field, dx, _, rfl, (by rw [upd_ne (Ne.symm ga), upd_ne (Ne.symm za)]; exact upd_same), T.cl_Field, T.na_Field_logs, (by show 1 < 1000; decide), ?_⟩
    refine ⟨255, rfl, by decide, by decide, for_range (n := 255) (fun i σ H' => ∃ v : Option V, σ = [some (.ref a), some (.int ((gE i : Nat) : Int)), v] ∧ H' a = some (.ins A.Field dx (fdF p g)) ∧ H' p = some (.lst (vN (powT i))) ∧ H' g = some (.lst (vN (logT i))) ∧ ∀ b o, H b = some o → b ≠ a → H' b = some o)
      ⟨none, rfl, upd_same, ?_, ?_, ?_⟩ ?_ ?_⟩
    · rw [upd_ne pa, upd_ne (Ne.symm gp), upd_ne (Ne.symm zp), upd_ne pa]
      exact upd_same
    · rw [upd_ne ga, upd_same]
      rfl
    · intro b o e hb
      rw [upd_ne hb, upd_ne (ne_of_none e hg3), upd_ne (ne_of_none e hz2), upd_ne hb, upd_ne (ne_of_none e hp)]
      exact e
    · rintro i σ H' hi ⟨v, rfl, e1, e2, e3, e4⟩
      refine ⟨_, rfl, a, A.Field, dx, _, _, rfl, e1, T.cl_Field, T.na_Field_powers, fd_p p g, .inl ⟨rfl, _, SqL.of e2⟩, _, rfl, p, _, _, rfl, rfl, e2, ?_, ?_⟩
      · rw [vN_len]
        show (powT i).length < sizeLine
        unfold powT
        rw [List.length_map, List.length_range]
        exact Nat.lt_trans hi (by decide)
      · have d1 := ne_of e1 e2 (by intro z; cases z)
        have d2 := ne_of e1 e3 (by intro z; cases z)
        refine ⟨_, rfl, _, rfl, a, A.Field, dx, _, _, rfl, (by rw [upd_ne d1]; exact e1), T.cl_Field, T.na_Field_logs, fd_g p g, _, rfl, g, _, _, gE i, rfl, rfl, (by rw [upd_ne gp]; exact e3), ?_, ?_⟩
        · rw [vN_len, logT_len]
          exact ixN_nat (gE_lt i)
        · refine ⟨_, rfl, gE i, rfl, gE_lt i, ?_⟩
          refine ⟨_, rfl, ?_, ?_, ?_, ?_⟩
          · rw [upd_ne d2, upd_ne d1]
            exact e1
          · rw [upd_ne (Ne.symm gp), upd_same]
            have : powT (i + 1) = powT i ++ [gE i] := by unfold powT; rw [List.range_succ, List.map_append]; rfl
            rw [this, vN_app]
            rfl
          · rw [upd_same, logT_succ]
            unfold vN
            rw [List.map_set, show (0 : Int) + (i : Int) = (i : Int) by omega]
          · intro b o e hb
            have n1 : b ≠ p := ne_of_none e hp
            have n2 : b ≠ g := ne_of_none e hg3
            rw [upd_ne n2, upd_ne n1]
            exact e4 b o e hb
    · rintro σ H' ⟨v, rfl, e1, e2, e3, e4⟩
      exact q H' ⟨dx, p, g, e1, e2, e3⟩ e4
end
end SS
end
section
set_option maxRecDepth 100000
set_option maxHeartbeats 2000000
namespace SS
open PySem PySem.Spec PyProof.Rows L2
def sp_bits_of (K : PySem.W.Frag) : Sp := fun vs H Q _ => ∃ (a : Addr) (l : List Nat), vs = [.ref a] ∧ SqL K H a (vN l) ∧ l.length ≤ 1000 ∧ Ret H (vN (Km348.bitsOf l)) Q
def sp_row_weight (K : PySem.W.Frag) : Sp := fun vs H Q _ => ∃ (a : Addr) (l : List Nat), vs = [.ref a] ∧ SqL K H a (vN l) ∧ Bits l ∧ l.length ≤ 1000 ∧ ∀ H', Same H H' → Q (.int ((ws 1 l % 128 : Nat) : Int)) H'
def sp_carrying_row (K : PySem.W.Frag) : Sp := fun vs H Q _ => ∃ (a : Addr) (l : List Nat), vs = [.ref a] ∧ SqL K H a (vN l) ∧ l.length = 57 ∧ Ret H (vN (Km348.place l 1 64)) Q
def sp_right_row (K : PySem.W.Frag) : Sp := fun vs H Q _ => ∃ (a : Addr) (l : List Nat), vs = [.ref a] ∧ SqL K H a (vN l) ∧ l.length = 57 ∧ Bits l ∧ Ret H (vN (Km348.balanced (Km348.place l 1 64))) Q
def sp_strand_letters (K : PySem.W.Frag) : Sp := fun vs H Q _ => ∃ (a : Addr) (q : Nat) (l : List Nat), vs = [.int (q : Int), .ref a] ∧ q < 65536 ∧ SqL K H a (vN l) ∧ H a = some (.lst (vN l)) ∧ l.length = 12 ∧ (∀ x ∈ l, x < 256) ∧ Ret H (vN (Km348.writtenAs (Km348.strand q l))) Q
theorem bitN (b t : Nat) : Builtin.bitAnd ((b : Int) / 2 ^ ((t : Int).toNat)) 1 = ((Km348.bit t b : Nat) : Int) := by
  rw [show (1 : Int) = 2 ^ 1 - 1 from rfl, Bits.bitAnd_mask 1 (by rw [Int.toNat_natCast]; exact Int.ediv_nonneg (Int.natCast_nonneg _) (Int.pow_nonneg (by decide))), Int.toNat_natCast]
  unfold Km348.bit
  rw [show (2 : Int) ^ t = ((2 ^ t : Nat) : Int) by rw [Int.natCast_pow]; rfl]
  omega
theorem inWP (n : Nat) : inV (.int (n : Int)) (([1, 2, 4, 8, 16, 32, 64] : List Int).map V.int) = Km348.isPower n := by
  rw [Bool.eq_iff_iff, isPower_iff]
  unfold inV WP
  simp only [List.map_cons, List.map_nil, List.any_cons, List.any_nil, eqV, Bool.or_false, Bool.or_eq_true, List.mem_cons, List.not_mem_nil, or_false, beq_iff_eq, decide_eq_true_eq]
  omega
def wl : Nat → List Nat → List Nat
  | _, [] => []
  | k, x :: r => if x = 1 then k :: wl (k + 1) r else wl (k + 1) r
theorem wl_snoc : ∀ (k : Nat) (l : List Nat) (x : Nat), wl k (l ++ [x]) = wl k l ++ (if x = 1 then [k + l.length] else [])
  | k, [], x => by
    show (if x = 1 then k :: wl (k + 1) [] else wl (k + 1) []) = [] ++ (if x = 1 then [k + 0] else [])
    rfl
  | k, y :: l, x => by
    show (if y = 1 then k :: wl (k + 1) (l ++ [x]) else wl (k + 1) (l ++ [x])) = (if y = 1 then k :: wl (k + 1) l else wl (k + 1) l) ++ (if x = 1 then [k + (l.length + 1)] else [])
    rw [wl_snoc (k + 1) l x, show k + 1 + l.length = k + (l.length + 1) by omega]
    split <;> rfl
theorem wl_len : ∀ (k : Nat) (l : List Nat), (wl k l).length ≤ l.length
  | _, [] => Nat.le_refl _
  | k, x :: l => by
    have := wl_len (k + 1) l
    unfold wl
    split
    · rw [List.length_cons, List.length_cons]; omega
    · rw [List.length_cons]; omega
theorem wl_sum : ∀ (k : Nat) (l : List Nat), Bits l → ((wl k l).map fun n : Nat => (n : Int)).sum = ((ws k l : Nat) : Int)
  | _, [], _ => rfl
  | k, x :: l, h => by
    have ih := wl_sum (k + 1) l fun y hy => h y (List.mem_cons_of_mem _ hy)
    have hx := h x (List.mem_cons_self ..)
    show ((if x = 1 then k :: wl (k + 1) l else wl (k + 1) l).map fun n : Nat => (n : Int)).sum = ((k * x + ws (k + 1) l : Nat) : Int)
    by_cases c : x = 1
    · rw [if_pos c, List.map_cons, List.sum_cons, ih, c, Nat.mul_one]
      omega
    · rw [if_neg c, ih, show x = 0 by omega, Nat.mul_zero, Nat.zero_add]
section
variable {P : Program} {w : World} {K : PySem.W.Frag} {mg : Str → Option Value} {base : Heap} {A : Ad} {f : Addr} {fd : FuncData}
abbrev st_bits_of : Stmt := (top 26)
theorem sc_bits_of : FnScope ["content", "bits", "byte", "shift"] ["content"] (defScope st_bits_of) := ⟨rfl, rfl, rfl, by decide +kernel, rfl, by decide +kernel, by decide +kernel⟩
abbrev ps_bits_of : List Str := ["content"]
theorem ok_bits_of (F : Fun K "bits_of" "bits_of" st_bits_of f fd) (T : Txt K mg A) : FnOk P w K mg base CX0 1 f fd ps_bits_of (sp_bits_of K) := by
  refine F.ok sc_bits_of (fun vs H Q E h => ?_) (fun cdv Ar outer s H vs Q E hr h => ?_)
  · obtain ⟨a, l, rfl, _⟩ := h
    rfl
  · obtain ⟨a, l, rfl, hs, hl, q⟩ := h
    refine ⟨_, (pss_cons (ps_set (i := 1) (sc_bits_of).nd rfl (by first | exact Or.inl rfl | exact Or.inr rfl) (pe_lst pa_nil))
      (pss_cons (ps_for PassesOwn.never rfl (pi_list (pv 0)) (pg_name (i := 2) (sc_bits_of).nd rfl (by first | exact Or.inl rfl | exact Or.inr rfl))
        (pss_one (ps_for PassesOwn.never rfl (pi_range3 rfl T.b_range (pa_cons pe_int (pa_cons (pe_un un_neg pe_int) (pa_cons (pe_un un_neg pe_int) pa_nil)))) (pg_name (i := 3) (sc_bits_of).nd rfl (by first | exact Or.inl rfl | exact Or.inr rfl))
        (pss_one (ps_expr (pe_bm PySem.F.plainAttrs_list PySem.F.slot_list_append PySem.F.type_list_append mt_append (pv 1) (pa_cons (pe_op op_and (pe_op op_shr (pv 2) (pv 3)) pe_int) pa_nil)))))))
      (pss_one (ps_ret (pv 1))))), ?_⟩
    refine ⟨Nat.zero_le _, fun p hp => ?_⟩
    refine ⟨_, rfl, a, rfl, ⟨_, sqL_new hs hp⟩, for_list (K := K) (a := a) (xs := vN l) (fun i σ H' => ∃ v2 v3 : Option V, σ = [some (.ref a), some (.ref p), v2, v3] ∧ Same H H' ∧ H' p = some (.lst (vN (Km348.bitsOf (l.take i)))))
      ⟨none, none, rfl, same_upd hp, upd_same⟩ (fun i σ H' _ ⟨_, _, _, s5, _⟩ => s5.seq hs) ?_ ?_⟩
    · rintro i y σ H' hi ⟨v2, v3, rfl, s5, e5⟩
      obtain ⟨b, hb, rfl⟩ := vN_of hi
      refine ⟨_, rfl, _, rfl, 7, -1, -1, 8, rfl, RgC.neg (by decide) (by decide) (by decide) (by decide), ?_⟩
      refine for_rangeC (n := 8) (fun j σ H' => ∃ v3 : Option V, σ = [some (.ref a), some (.ref p), some (.int (b : Int)), v3] ∧ Same H H' ∧ H' p = some (.lst (vN (Km348.bitsOf (l.take i) ++ (List.range j).map fun t => Km348.bit (7 - t) b))))
        ⟨v3, rfl, s5, by simpa using e5⟩ ?_ ?_
      · rintro j σ H2 hj ⟨v4, rfl, s6, e6⟩
        refine ⟨_, rfl, .inl ⟨rfl, _, SqL.of e6⟩, ?_⟩
        refine ⟨_, rfl, _, rfl, _, _, rfl, rfl, (by omega), _, _, rfl, rfl, p, _, _, rfl, rfl, e6, ?_, ?_⟩
        · rw [vN_len, List.length_append, bitsOf_len, List.length_map, List.length_range, List.length_take]
          exact Nat.lt_of_le_of_lt (show _ ≤ 9000 by omega) (by decide)
        · refine ⟨_, rfl, Same.upd s6 hp, ?_⟩
          rw [upd_same, show (7 : Int) + (j : Nat) * -1 = ((7 - j : Nat) : Int) by omega]
          dsimp only
          rw [bitN, List.range_succ, List.map_append, ← List.append_assoc]
          exact congrArg (fun z => some (HO.lst z)) (vN_app _ [_]).symm
      · rintro σ H2 ⟨v4, rfl, s6, e6⟩
        refine ⟨_, _, rfl, s6, ?_⟩
        rw [take_snoc hb, bitsOf_snoc]
        exact e6
    · rintro σ H' ⟨v2, v3, rfl, s5, e5⟩
      rw [vN_len, List.take_length] at e5
      exact ⟨_, rfl, q p H' hp s5 e5⟩
abbrev st_carrying_row : Stmt := (top 29)
theorem sc_carrying_row : FnScope ["bits", "row", "taken", "place"] ["bits"] (defScope st_carrying_row) := ⟨rfl, rfl, rfl, by decide +kernel, rfl, by decide +kernel, by decide +kernel⟩
abbrev ps_carrying_row : List Str := ["bits"]
theorem ok_carrying_row (F : Fun K "carrying_row" "carrying_row" st_carrying_row f fd) (T : Txt K mg A) : FnOk P w K mg base CX0 1 f fd ps_carrying_row (sp_carrying_row K) := by
  obtain ⟨wa, hWEIGHT_PLACES, hwp⟩ := T.t_WEIGHT_PLACES
  refine F.ok sc_carrying_row (fun vs H Q E h => ?_) (fun cdv Ar outer s H vs Q E hr h => ?_)
  · obtain ⟨a, l, rfl, _⟩ := h
    rfl
  · obtain ⟨a, l, rfl, hs, hl, q⟩ := h
    refine ⟨_, (pss_cons (ps_set (i := 1) (sc_carrying_row).nd rfl (by first | exact Or.inl rfl | exact Or.inr rfl) (pe_lst pa_nil))
      (pss_cons (ps_set (i := 2) (sc_carrying_row).nd rfl (by first | exact Or.inl rfl | exact Or.inr rfl) pe_int)
      (pss_cons (ps_for PassesOwn.never rfl (pi_range2 rfl T.b_range (pa_cons pe_int (pa_cons (pe_op op_add (g_int T.c_STRAND_LENGTH) pe_int) pa_nil))) (pg_name (i := 3) (sc_carrying_row).nd rfl (by first | exact Or.inl rfl | exact Or.inr rfl))
        (pss_one (ps_if (pt_cmpR op_in_seq (pv 3) (g_ref hWEIGHT_PLACES) rfl) (pss_one (ps_expr (pe_bm PySem.F.plainAttrs_list PySem.F.slot_list_append PySem.F.type_list_append mt_append (pv 1) (pa_cons pe_int pa_nil)))) (pss_cons (ps_expr (pe_bm PySem.F.plainAttrs_list PySem.F.slot_list_append PySem.F.type_list_append mt_append (pv 1) (pa_cons (pe_ix ix_list (pv 0) (pv 2) (fun _ _ => rfl)) pa_nil)))
      (pss_one (ps_set (i := 2) (sc_carrying_row).nd rfl (by first | exact Or.inl rfl | exact Or.inr rfl) (pe_op op_add (pv 2) pe_int)))))))
      (pss_one (ps_ret (pv 1)))))), ?_⟩
    refine ⟨Nat.zero_le _, fun p hp => ?_⟩
    refine ⟨_, _, rfl, rfl, 1, 65, rfl, by decide, ?_⟩
    show ∃ W, _
    refine for_range (lo := 1) (n := 64) (fun m σ H' => ∃ v : Option V, σ = [some (.ref a), some (.ref p), some (.int ((cnt 1 m : Nat) : Int)), v] ∧ Same H H' ∧ H' p = some (.lst (vN (Km348.place l 1 m))))
      ⟨none, rfl, same_upd hp, upd_same⟩ ?_ ?_
    · rintro m σ H' hm ⟨v, rfl, s5, e5⟩
      have hlen : (vN (Km348.place l 1 m)).length < sizeLine := by
        rw [vN_len, place_len]
        exact Nat.lt_trans hm (by decide)
      have em : (1 : Int) + (m : Int) = ((1 + m : Nat) : Int) := by omega
      rw [em]
      refine ⟨_, rfl, wa, _, rfl, .inr (hwp _), rfl, rfl, _, rfl, ?_⟩
      show if inV (V.int ((1 + m : Nat) : Int)) _ = true then _ else _
      rw [inWP]
      refine rd_if (fun c => ?_) (fun c => ?_)
      · refine ⟨_, rfl, .inl ⟨rfl, _, SqL.of e5⟩, p, _, _, rfl, rfl, e5, hlen, ?_⟩
        refine ⟨some (.int ((1 + m : Nat) : Int)), ?_, Same.upd s5 hp, ?_⟩
        · rw [cnt_succ, if_pos c]
          rfl
        · rw [upd_same, place_snoc, if_pos c, vN_app]
          rfl
      · have c' : ¬ Km348.isPower (1 + m) = true := by rw [c]; exact Bool.false_ne_true
        have h57 := cnt_57 hm c'
        have hg : l[cnt 1 m]? = some ((l.drop (cnt 1 m)).headD 0) := by
          rw [List.headD_eq_head?_getD, List.head?_drop, List.getElem?_eq_getElem (by omega)]
          rfl
        refine ⟨_, rfl, .inl ⟨rfl, _, SqL.of e5⟩, _, rfl, _, rfl, a, _, _, _, rfl, rfl, s5.seq hs, atI_nat (vN_get hg), p, _, _, rfl, rfl, e5, hlen, ?_⟩
        refine ⟨_, rfl, _, _, rfl, rfl, ?_⟩
        refine ⟨some (.int ((1 + m : Nat) : Int)), ?_, Same.upd s5 hp, ?_⟩
        · rw [cnt_succ, if_neg c']
          rfl
        · rw [upd_same, place_snoc, if_neg c', vN_app]
          rfl
    · rintro σ H' ⟨v, rfl, s5, e5⟩
      exact ⟨_, rfl, q p H' hp s5 e5⟩
abbrev st_row_weight : Stmt := (top 28)
theorem sc_row_weight : FnScope ["row", "place", "bit"] ["row"] (defScope st_row_weight) := ⟨rfl, rfl, rfl, by decide +kernel, rfl, by decide +kernel, by decide +kernel⟩
abbrev ps_row_weight : List Str := ["row"]
theorem ok_row_weight (F : Fun K "row_weight" "row_weight" st_row_weight f fd) (T : Txt K mg A) : FnOk P w K mg base CX0 1 f fd ps_row_weight (sp_row_weight K) := by
  refine F.ok sc_row_weight (fun vs H Q E h => ?_) (fun cdv Ar outer s H vs Q E hr h => ?_)
  · obtain ⟨a, l, rfl, _⟩ := h
    rfl
  · obtain ⟨a, l, rfl, hs, hb, hl, q⟩ := h
    refine ⟨_, (pss_one (ps_ret (pe_op op_mod (pe_callB (cr_sum rfl) rfl T.b_sum PyProof.Rows.boot_sum (pa_cons (pe_lc rfl (sc_row_weight).nd (pi_enum1 rfl T.b_enumerate (pa_cons (pv 0) pa_nil)) (blkOk_by (own := [("place", 1), ("bit", 2)]) (by kernel_rfl)) (bg_pair rfl (sc_row_weight).nd (i := 1) (j := 2) rfl rfl rfl rfl) (fun _ _ _ _ _ => (pts_one (pt_cmpR op_eq (pv 2) pe_int (nomark _)))) (fun _ _ _ _ _ => (pv 1))) pa_nil)) (g_int T.c_WEIGHT_MODULUS)))), ?_⟩
    refine ⟨_, rfl, a, _, rfl, hs, ?_⟩
    refine lc_enum (K := K) (a := a) (c := 1) (xs := vN l) (i := 1) (j := 2) (fun m => vN (wl 1 (l.take m))) hs (by rw [vN_len]; exact Nat.lt_of_le_of_lt hl (by decide)) rfl (fun m hm => ?_) (by intros; rfl) ?_ ?_
    · rw [vN_len]
      exact Nat.le_trans (wl_len _ _) (by rw [List.length_take]; omega)
    · rintro m y H' Qe Qf hy s5 h1 h2
      obtain ⟨b, hb', rfl⟩ := vN_of hy
      have hm : m < l.length := (List.getElem?_eq_some_iff.mp hb').1
      refine ⟨_, rfl, rfl, _, rfl, rd_and (fun c => ?_) (fun c => ?_)⟩
      · injection c with c
        refine ⟨_, rfl, h1 _ _ (Same.refl _) ?_⟩
        rw [take_snoc hb', wl_snoc, if_pos (by omega), vN_app, List.length_take, Nat.min_eq_left (by omega)]
        rfl
      · refine h2 _ (Same.refl _) ?_
        rw [take_snoc hb', wl_snoc, if_neg (fun e => c (by rw [e]; rfl)), List.append_nil]
    · intro D H' hD s5 e5
      rw [vN_len, List.take_length, vN_int] at e5
      refine ⟨D, _, rfl, SqL.of e5, ?_⟩
      refine ⟨_, _, rfl, rfl, (by decide : (0 : Int) < 128), ?_⟩
      exact qi (q H' s5) (by rw [wl_sum 1 l hb]; omega)
end
end SS
end
section
set_option maxRecDepth 100000
set_option maxHeartbeats 2000000
namespace SS
open PySem PySem.Spec PyProof.Rows L2
theorem bal_zero (w : Nat) (r : List Nat) : bal w 0 r = r := rfl
theorem WP_at {t : Nat} {x : V} (h : (([1, 2, 4, 8, 16, 32, 64] : List Int).map V.int)[t]? = some x) : ∃ p : Nat, WP[t]? = some p ∧ x = .int (p : Int) ∧ 1 ≤ p ∧ p ≤ 64 := by
  match t, h with
  | 0, h => exact ⟨1, rfl, (Option.some.inj h).symm, by decide, by decide⟩
  | 1, h => exact ⟨2, rfl, (Option.some.inj h).symm, by decide, by decide⟩
  | 2, h => exact ⟨4, rfl, (Option.some.inj h).symm, by decide, by decide⟩
  | 3, h => exact ⟨8, rfl, (Option.some.inj h).symm, by decide, by decide⟩
  | 4, h => exact ⟨16, rfl, (Option.some.inj h).symm, by decide, by decide⟩
  | 5, h => exact ⟨32, rfl, (Option.some.inj h).symm, by decide, by decide⟩
  | 6, h => exact ⟨64, rfl, (Option.some.inj h).symm, by decide, by decide⟩
  | t + 7, h => simp at h
theorem andN (a b : Nat) : Builtin.bitAnd (a : Int) (b : Int) = ((a &&& b : Nat) : Int) := by rfl
section
variable {P : Program} {w : World} {K : PySem.W.Frag} {mg : Str → Option Value} {base : Heap} {A : Ad} {f : Addr} {fd : FuncData}
abbrev st_right_row : Stmt := (top 31)
theorem sc_right_row : FnScope ["bits", "row", "lacking", "place"] ["bits"] (defScope st_right_row) := ⟨rfl, rfl, rfl, by decide +kernel, rfl, by decide +kernel, by decide +kernel⟩
abbrev ps_right_row : List Str := ["bits"]
theorem ok_right_row (F : Fun K "right_row" "right_row" st_right_row f fd) (T : Txt K mg A)
    (G_carrying_row : Glb P w K mg base "carrying_row" 1 ps_carrying_row (sp_carrying_row K))
    (G_row_weight : Glb P w K mg base "row_weight" 1 ps_row_weight (sp_row_weight K)) :
    FnOk P w K mg base CX0 2 f fd ps_right_row (sp_right_row K) := by
  obtain ⟨wa, hWEIGHT_PLACES, hwp⟩ := T.t_WEIGHT_PLACES
  refine F.ok sc_right_row (fun vs H Q E h => ?_) (fun cdv Ar outer s H vs Q E hr h => ?_)
  · obtain ⟨a, l, rfl, _⟩ := h
    rfl
  · obtain ⟨a, l, rfl, hs, hl, hb, q⟩ := h
    refine ⟨_, (pss_cons (ps_set (i := 1) (sc_right_row).nd rfl (by first | exact Or.inl rfl | exact Or.inr rfl) (g_call G_carrying_row hr (pa_cons (pv 0) pa_nil)))
      (pss_cons (ps_set (i := 2) (sc_right_row).nd rfl (by first | exact Or.inl rfl | exact Or.inr rfl) (pe_op op_mod (pe_op op_sub (g_int T.c_WEIGHT_MODULUS) (g_call G_row_weight hr (pa_cons (pv 1) pa_nil))) (g_int T.c_WEIGHT_MODULUS)))
      (pss_cons (ps_for PassesOwn.never rfl (pi_tup (g_ref hWEIGHT_PLACES)) (pg_name (i := 3) (sc_right_row).nd rfl (by first | exact Or.inl rfl | exact Or.inr rfl))
        (pss_one (ps_if (pt_cmpR op_ne (pe_op op_and (pv 2) (pv 3)) pe_int (nomark _)) (pss_one (ps_asg pe_int (pg_sub (pv 1) (pe_op op_sub (pv 3) pe_int) set_list))) pss_nil)))
      (pss_one (ps_ret (pv 1)))))), ?_⟩
    refine ⟨_, rfl, a, l, rfl, hs, hl, fun p H1 hp s1 e1 => ?_⟩
    have rb := place_bits 1 64 hb
    have rl := place_len l 1 64
    rw [balanced_eq] at q
    generalize Km348.place l 1 64 = r at e1 rb rl q
    refine ⟨_, rfl, p, r, rfl, SqL.of e1, rb, (by rw [rl]; decide), fun H2 s2 => ?_⟩
    refine ⟨_, _, rfl, rfl, _, _, rfl, rfl, (by decide : (0 : Int) < 128), ?_⟩
    have e2 := s2 _ _ e1
    have ew : ((128 : Int) - ((ws 1 r % 128 : Nat) : Int)) % 128 = (((128 - ws 1 r % 128) % 128 : Nat) : Int) := by omega
    generalize (128 - ws 1 r % 128) % 128 = x at q ew
    dsimp only
    rw [ew]
    refine ⟨wa, rfl, ⟨_, hwp _⟩, for_tup (K := K) (a := wa) (xs := ([1, 2, 4, 8, 16, 32, 64] : List Int).map V.int) (fun t σ H' => ∃ v : Option V, σ = [some (.ref a), some (.ref p), some (.int (x : Int)), v] ∧ Same H H' ∧ H' p = some (.lst (vN (bal x t r))))
      ⟨none, rfl, s1.trans s2, by rw [bal_zero]; exact e2⟩ (fun t σ H' _ _ => hwp H') ?_ ?_⟩
    · rintro t y σ H' ht ⟨v, rfl, s5, e5⟩
      obtain ⟨z, hz, rfl, z1, z2⟩ := WP_at ht
      refine ⟨_, rfl, _, rfl, _, _, rfl, rfl, rfl, _, rfl, ?_⟩
      show if (!decide (V.int (Builtin.bitAnd (x : Int) (z : Int)) = V.int 0)) = true then _ else _
      rw [andN]
      refine rd_if (fun c => ?_) (fun c => ?_)
      · have c' : x &&& z ≠ 0 := fun e => by rw [e] at c; exact absurd c (by decide)
        refine ⟨_, rfl, _, rfl, _, _, rfl, rfl, p, _, _, z - 1, rfl, rfl, e5, ?_, ?_⟩
        · rw [vN_len, bal_len, rl, show (z : Int) - 1 = ((z - 1 : Nat) : Int) by omega]
          exact ixN_nat (by omega)
        · refine ⟨_, rfl, Same.upd s5 hp, ?_⟩
          rw [upd_same, bal_succ r hz]
          unfold put1
          rw [if_pos c']
          unfold vN
          rw [List.map_set]
          rfl
      · have c' : ¬ (x &&& z ≠ 0) := fun e => by
          rw [Bool.not_eq_false'] at c
          have c := of_decide_eq_true c
          injection c with c
          exact e (by omega)
        refine ⟨_, rfl, s5, ?_⟩
        rw [bal_succ r hz]
        unfold put1
        rw [if_neg c']
        exact e5
    · rintro σ H' ⟨v, rfl, s5, e5⟩
      exact ⟨_, rfl, q p H' hp s5 e5⟩
abbrev st_strand_letters : Stmt := (top 32)
theorem sc_strand_letters : FnScope ["number", "load", "bits", "upper_row", "lower_row", "upper", "lower"] ["number", "load"] (defScope st_strand_letters) := ⟨rfl, rfl, rfl, by decide +kernel, rfl, by decide +kernel, by decide +kernel⟩
abbrev ps_strand_letters : List Str := ["number", "load"]
theorem ok_strand_letters (F : Fun K "strand_letters" "strand_letters" st_strand_letters f fd) (T : Txt K mg A)
    (G_bits_of : Glb P w K mg base "bits_of" 1 ps_bits_of (sp_bits_of K))
    (G_right_row : Glb P w K mg base "right_row" 2 ps_right_row (sp_right_row K)) :
    FnOk P w K mg base CX0 3 f fd ps_strand_letters (sp_strand_letters K) := by
  obtain ⟨la, hLETTERS, hlt⟩ := T.t_LETTERS
  refine F.ok sc_strand_letters (fun vs H Q E h => ?_) (fun cdv Ar outer s H vs Q E hr h => ?_)
  · obtain ⟨a, q, l, rfl, _⟩ := h
    rfl
  · obtain ⟨a, z, l, rfl, hz, hs, ha, hl, hb, q⟩ := h
    refine ⟨_, (pss_cons (ps_set (i := 2) (sc_strand_letters).nd rfl (by first | exact Or.inl rfl | exact Or.inr rfl) (g_call G_bits_of hr (pa_cons (pe_op op_cat (pe_lst (pa_cons (pe_op op_mod (pv 0) pe_int) (pa_cons (pe_op op_fdiv (pv 0) pe_int) pa_nil))) (pv 1)) pa_nil)))
      (pss_cons (ps_set (i := 3) (sc_strand_letters).nd rfl (by first | exact Or.inl rfl | exact Or.inr rfl) (g_call G_right_row hr (pa_cons (pe_op op_cat (pe_slice sl_list (pv 2) po_none (po_some (g_int T.c_ROW_BITS))) (pe_lst (pa_cons pe_int pa_nil))) pa_nil)))
      (pss_cons (ps_set (i := 4) (sc_strand_letters).nd rfl (by first | exact Or.inl rfl | exact Or.inr rfl) (g_call G_right_row hr (pa_cons (pe_op op_cat (pe_slice sl_list (pv 2) (po_some (g_int T.c_ROW_BITS)) po_none) (pe_lst (pa_cons pe_int pa_nil))) pa_nil)))
      (pss_one (ps_ret (pe_lc rfl (sc_strand_letters).nd (pi_zip rfl T.b_zip (pa_cons (pv 3) (pa_cons (pv 4) pa_nil))) (blkOk_by (own := [("upper", 5), ("lower", 6)]) (by kernel_rfl)) (bg_pair rfl (sc_strand_letters).nd (i := 5) (j := 6) rfl rfl rfl rfl) (fun _ _ _ _ _ => pts_nil) (fun _ _ _ _ _ => (pe_ix (ixTK (K := K) rfl) (g_ref hLETTERS) (pe_op op_add (pe_op op_mul pe_int (pv 5)) (pv 6)) (fun _ _ => rfl))))))))), ?_⟩
    refine ⟨_, rfl, _, _, rfl, rfl, (by decide : (0 : Int) < 256), _, rfl, _, _, rfl, rfl, ⟨by decide, by decide⟩, (by show 2 ≤ sizeLine; decide), fun p hp => ?_⟩
    refine ⟨_, rfl, p, a, _, _, rfl, rfl, upd_same, (by rw [upd_ne (ne_of_none ha hp)]; exact ha), ?_, fun p2 hp2 => ?_⟩
    · rw [vN_len, hl]
      exact (by decide : 14 ≤ sizeLine)
    obtain ⟨hp2a, pp2⟩ := none_upd hp2
    have eb : [(V.int ((z : Int) % 256)), V.int ((z : Int) / 256)] ++ vN l = vN (Km348.le2 z ++ l) := by
      rw [vN_app]
      unfold Km348.le2
      have e1 : (z : Int) % 256 = ((z % 256 : Nat) : Int) := by omega
      have e2 : (z : Int) / 256 = ((z / 256 % 256 : Nat) : Int) := by omega
      rw [e1, e2]
      rfl
    have s2 : Same H (upd (upd H p (.lst [V.int ((z : Int) % 256), V.int ((z : Int) / 256)])) p2 (.lst ([V.int ((z : Int) % 256), V.int ((z : Int) / 256)] ++ vN l))) := Same.upd (same_upd hp) hp2a
    refine ⟨p2, Km348.le2 z ++ l, rfl, SqL.of (by rw [upd_same, ← eb]), (by rw [List.length_append, hl]; exact (by decide : 14 ≤ 1000)), fun p3 H3 hp3 s3 e3 => ?_⟩
    have blen : (Km348.bitsOf (Km348.le2 z ++ l)).length = 112 := by rw [bitsOf_len, List.length_append, hl]; rfl
    have bbit := bitsOf_bits (Km348.le2 z ++ l)
    have eS : Km348.strand z l = ((Km348.balanced (Km348.place ((Km348.bitsOf (Km348.le2 z ++ l)).take 56) 1 64)).zip (Km348.balanced (Km348.place ((Km348.bitsOf (Km348.le2 z ++ l)).drop 56) 1 64))).map fun x => 2 * x.1 + x.2 := rfl
    generalize Km348.bitsOf (Km348.le2 z ++ l) = bs at e3 blen bbit eS
    have s3' : Same H H3 := s2.trans s3
    have n3 : H p3 = none := s2.free hp3
    have b57 : ∀ t : List Nat, Bits t → Bits (t ++ [0]) := fun t ht x hx => by
      rcases List.mem_append.mp hx with e | e
      · exact ht x e
      · rw [List.mem_singleton.mp e]; exact Nat.zero_le _
    refine ⟨_, rfl, _, rfl, p3, _, rfl, SqL.of e3, fun c1 hc1 => ⟨(by show 1 ≤ sizeLine; decide), fun c2 hc2 => ?_⟩⟩
    obtain ⟨hc2a, c21⟩ := none_upd hc2
    refine ⟨c1, c2, _, _, rfl, rfl, (by rw [upd_ne (Ne.symm c21)]; exact upd_same), upd_same, ?_, fun c3 hc3 => ?_⟩
    · rw [show (56 : Int) = ((56 : Nat) : Int) from rfl, cut_lo, List.length_take, vN_len, blen]
      exact (by decide : 57 ≤ sizeLine)
    have k1 : Same H3 (upd H3 c1 (.lst (cutV (vN bs) none (some 56)))) := same_upd hc1
    have k2 : Same H3 (upd (upd H3 c1 (.lst (cutV (vN bs) none (some 56)))) c2 (.lst [V.int 0])) := Same.upd k1 hc2a
    have hc3a : H3 c3 = none := k2.free hc3
    have e4 : cutV (vN bs) none (some 56) ++ [V.int 0] = vN (bs.take 56 ++ [0]) := by
      rw [show (56 : Int) = ((56 : Nat) : Int) from rfl, cut_lo, vN_app]
      unfold vN
      rw [List.map_take]
      rfl
    refine ⟨c3, bs.take 56 ++ [0], rfl, SqL.of (by rw [upd_same, e4]), (by rw [List.length_append, List.length_take, blen]; rfl), b57 _ (fun x hx => bbit x (List.mem_of_mem_take hx)), fun p4 H4 hp4 s4 e4' => ?_⟩
    have s4' : Same H3 H4 := (Same.upd k2 hc3a).trans s4
    have n4 : H3 p4 = none := (Same.upd k2 hc3a).free hp4
    refine ⟨_, rfl, _, rfl, p3, _, rfl, SqL.of (s4' _ _ e3), fun d1 hd1 => ⟨(by show 1 ≤ sizeLine; decide), fun d2 hd2 => ?_⟩⟩
    obtain ⟨hd2a, d21⟩ := none_upd hd2
    refine ⟨d1, d2, _, _, rfl, rfl, (by rw [upd_ne (Ne.symm d21)]; exact upd_same), upd_same, ?_, fun d3 hd3 => ?_⟩
    · rw [show (56 : Int) = ((56 : Nat) : Int) from rfl, cut_hi, List.length_drop, vN_len, blen]
      exact (by decide : 57 ≤ sizeLine)
    have j1 : Same H4 (upd H4 d1 (.lst (cutV (vN bs) (some 56) none))) := same_upd hd1
    have j2 : Same H4 (upd (upd H4 d1 (.lst (cutV (vN bs) (some 56) none))) d2 (.lst [V.int 0])) := Same.upd j1 hd2a
    have hd3a : H4 d3 = none := j2.free hd3
    have e5 : cutV (vN bs) (some 56) none ++ [V.int 0] = vN (bs.drop 56 ++ [0]) := by
      rw [show (56 : Int) = ((56 : Nat) : Int) from rfl, cut_hi, vN_app]
      unfold vN
      rw [List.map_drop]
      rfl
    refine ⟨d3, bs.drop 56 ++ [0], rfl, SqL.of (by rw [upd_same, e5]), (by rw [List.length_append, List.length_drop, blen]; rfl), b57 _ (fun x hx => bbit x (List.mem_of_mem_drop hx)), fun p5 H5 hp5 s5 e5' => ?_⟩
    have s5' : Same H4 H5 := (Same.upd j2 hd3a).trans s5
    have e4'' := s5' _ _ e4'
    rw [place_zero] at e4'' e5'
    have sH5 : Same H H5 := s3'.trans (s4'.trans s5')
    have bu : Bits (Km348.balanced (Km348.place (bs.take 56) 1 64)) ∧ (Km348.balanced (Km348.place (bs.take 56) 1 64)).length = 64 := by
      rw [balanced_eq]
      exact ⟨bal_bits (place_bits 1 64 fun x hx => bbit x (List.mem_of_mem_take hx)), by rw [bal_len, place_len]⟩
    have bw : Bits (Km348.balanced (Km348.place (bs.drop 56) 1 64)) ∧ (Km348.balanced (Km348.place (bs.drop 56) 1 64)).length = 64 := by
      rw [balanced_eq]
      exact ⟨bal_bits (place_bits 1 64 fun x hx => bbit x (List.mem_of_mem_drop hx)), by rw [bal_len, place_len]⟩
    have eW : Km348.writtenAs (Km348.strand z l) = ((Km348.balanced (Km348.place (bs.take 56) 1 64)).zip (Km348.balanced (Km348.place (bs.drop 56) 1 64))).map fun x => Km348.LETTER.getD (2 * x.1 + x.2) 0 := by
      unfold Km348.writtenAs
      rw [eS, List.map_map]
      rfl
    rw [eW] at q
    generalize Km348.balanced (Km348.place (bs.take 56) 1 64) = U at *
    generalize Km348.balanced (Km348.place (bs.drop 56) 1 64) = W at *
    obtain ⟨bu, lu⟩ := bu
    obtain ⟨bw, lw⟩ := bw
    refine ⟨_, rfl, _, rfl, p4, p5, _, _, rfl, SqL.of e4'', SqL.of e5', ?_⟩
    refine lc_zip (K := K) (a := p4) (b := p5) (xs := vN U) (ys := vN W) (n := 64) (i := 5) (j := 6) (fun m => vN (((U.zip W).take m).map fun x => Km348.LETTER.getD (2 * x.1 + x.2) 0)) (by rw [vN_len, vN_len, lu, lw]; rfl) (SqL.of e4'') (SqL.of e5') (by decide) rfl (fun m hm => ?_) (by intros; rfl) ?_ ?_
    · rw [vN_len, List.length_map, List.length_take]
      omega
    · rintro m x y H' Qe Qf hx hy s6 h1 h2
      obtain ⟨u, hu, rfl⟩ := vN_of hx
      obtain ⟨v, hv, rfl⟩ := vN_of hy
      have u1 := bu u (List.mem_of_getElem? hu)
      have v1 := bw v (List.mem_of_getElem? hv)
      refine ⟨_, rfl, _, _, rfl, rfl, .inl (by decide), _, rfl, _, _, rfl, rfl, la, _, _, .int ((Km348.LETTER.getD (2 * u + v) 0 : Nat) : Int), rfl, rfl, hlt _, ?_, h1 _ _ (Same.refl _) ?_⟩
      · have : ∀ u v : Nat, u ≤ 1 → v ≤ 1 → atI (([65, 67, 71, 84] : List Int).map V.int) (2 * (u : Int) + (v : Int)) = some (.int ((Km348.LETTER.getD (2 * u + v) 0 : Nat) : Int)) := fun u v hu hv => by
          match u, v, hu, hv with
          | 0, 0, _, _ => rfl
          | 0, 1, _, _ => rfl
          | 1, 0, _, _ => rfl
          | 1, 1, _, _ => rfl
        exact this u v u1 v1
      · have hz : (U.zip W)[m]? = some (u, v) := List.getElem?_zip_eq_some.mpr ⟨hu, hv⟩
        rw [take_snoc hz, List.map_append, vN_app]
        rfl
    · intro D H' hD s6 e6
      rw [List.take_of_length_le (by rw [List.length_zip, lu, lw]; exact Nat.le_refl _)] at e6
      exact q D H' (sH5.free hD) (sH5.trans s6) e6
end
end SS
end
section
set_option maxRecDepth 100000
set_option maxHeartbeats 2000000
namespace SS
open PySem PySem.Spec PyProof.Rows L2
def RetS (H : Hp) (o : Option (List Nat)) (Q : VK) : Prop := (∀ p H' l, o = some l → Same H H' → H' p = some (.lst (vN l)) → Q (.ref p) H') ∧ (∀ H', o = none → Same H H' → Q .non H')
def isL (x : Nat) : Bool := decide (x ∈ Km348.LETTER)
def sp_bytes_of (K : PySem.W.Frag) : Sp := fun vs H Q _ => ∃ (a : Addr) (l : List Nat), vs = [.ref a] ∧ SqL K H a (vN l) ∧ Bits l ∧ l.length = 112 ∧ Ret H (vN (Km348.bytesOf 14 l)) Q
def sp_carried_bits (K : PySem.W.Frag) : Sp := fun vs H Q _ => ∃ (a : Addr) (l : List Nat), vs = [.ref a] ∧ SqL K H a (vN l) ∧ l.length ≤ 1000 ∧ Ret H (vN (Km348.taken l)) Q
def sp_are_letters (K : PySem.W.Frag) : Sp := fun vs H Q _ => ∃ (a : Addr) (l : List Nat), vs = [.ref a] ∧ SqL K H a (vN l) ∧ l.length ≤ 1000000 ∧ ∀ H', Same H H' → Q (.bl (l.all isL)) H'
def sp_upper_row_of (K : PySem.W.Frag) : Sp := fun vs H Q _ => ∃ (a : Addr) (l s : List Nat), vs = [.ref a] ∧ SqL K H a (vN l) ∧ l.length ≤ 1000 ∧ Km348.readAs l = some s ∧ Ret H (vN (Km348.upper s)) Q
def sp_lower_row_of (K : PySem.W.Frag) : Sp := fun vs H Q _ => ∃ (a : Addr) (l s : List Nat), vs = [.ref a] ∧ SqL K H a (vN l) ∧ l.length ≤ 1000 ∧ Km348.readAs l = some s ∧ Ret H (vN (Km348.lower s)) Q
def sp_strand_content (K : PySem.W.Frag) : Sp := fun vs H Q _ => ∃ (a b : Addr) (u l : List Nat), vs = [.ref a, .ref b] ∧ SqL K H a (vN u) ∧ SqL K H b (vN l) ∧ Bits u ∧ Bits l ∧ u.length = 64 ∧ l.length = 64 ∧ RetS H (content u l) Q
def sp_number_in (K : PySem.W.Frag) : Sp := fun vs H Q _ => ∃ (a : Addr) (l : List Nat), vs = [.ref a] ∧ SqL K H a (vN l) ∧ l.length = 14 ∧ Q (.int ((l.getD 0 0 + 256 * l.getD 1 0 : Nat) : Int)) H
def sp_load_in (K : PySem.W.Frag) : Sp := fun vs H Q _ => ∃ (a : Addr) (l : List Nat), vs = [.ref a] ∧ SqL K H a (vN l) ∧ Ret H (vN (l.drop 2)) Q
theorem inLT (n : Nat) : inV (.int (n : Int)) (([65, 67, 71, 84] : List Int).map V.int) = isL n := by
  rw [Bool.eq_iff_iff]
  unfold inV isL Km348.LETTER
  simp only [List.map_cons, List.map_nil, List.any_cons, List.any_nil, eqV, Bool.or_false, Bool.or_eq_true, List.mem_cons, List.not_mem_nil, or_false, beq_iff_eq, decide_eq_true_eq]
  omega
theorem letter_ix {n x : Nat} (hn : n < 4) (h : Km348.LETTER[n]? = some x) : ([65, 67, 71, 84] : List Int)[n]? = some (x : Int) ∧ ∀ m : Nat, m < n → ¬ ([65, 67, 71, 84] : List Int)[m]? = some (x : Int) := by
  match n, hn, h with
  | 0, _, h =>
    have h : 65 = x := Option.some.inj h
    subst h
    exact ⟨rfl, fun m hm => by omega⟩
  | 1, _, h =>
    have h : 67 = x := Option.some.inj h
    subst h
    refine ⟨rfl, fun m hm => ?_⟩
    match m, hm with
    | 0, _ => decide
  | 2, _, h =>
    have h : 71 = x := Option.some.inj h
    subst h
    refine ⟨rfl, fun m hm => ?_⟩
    match m, hm with
    | 0, _ => decide
    | 1, _ => decide
  | 3, _, h =>
    have h : 84 = x := Option.some.inj h
    subst h
    refine ⟨rfl, fun m hm => ?_⟩
    match m, hm with
    | 0, _ => decide
    | 1, _ => decide
    | 2, _ => decide
section
variable {P : Program} {w : World} {K : PySem.W.Frag} {mg : Str → Option Value} {base : Heap} {A : Ad} {f : Addr} {fd : FuncData}
abbrev st_carried_bits : Stmt := (top 30)
theorem sc_carried_bits : FnScope ["row", "place", "bit"] ["row"] (defScope st_carried_bits) := ⟨rfl, rfl, rfl, by decide +kernel, rfl, by decide +kernel, by decide +kernel⟩
abbrev ps_carried_bits : List Str := ["row"]
theorem ok_carried_bits (F : Fun K "carried_bits" "carried_bits" st_carried_bits f fd) (T : Txt K mg A) : FnOk P w K mg base CX0 1 f fd ps_carried_bits (sp_carried_bits K) := by
  obtain ⟨wa, hWEIGHT_PLACES, hwp⟩ := T.t_WEIGHT_PLACES
  refine F.ok sc_carried_bits (fun vs H Q E h => ?_) (fun cdv Ar outer s H vs Q E hr h => ?_)
  · obtain ⟨a, l, rfl, _⟩ := h
    rfl
  · obtain ⟨a, l, rfl, hs, hl, q⟩ := h
    refine ⟨_, (pss_one (ps_ret (pe_lc rfl (sc_carried_bits).nd (pi_enum1 rfl T.b_enumerate (pa_cons (pv 0) pa_nil)) (blkOk_by (own := [("place", 1), ("bit", 2)]) (by kernel_rfl)) (bg_pair rfl (sc_carried_bits).nd (i := 1) (j := 2) rfl rfl rfl rfl) (fun _ _ _ _ _ => (pts_one (pt_cmpR (notInK (K := K) rfl) (pv 1) (g_ref hWEIGHT_PLACES) rfl))) (fun _ _ _ _ _ => (pv 2))))), ?_⟩
    refine ⟨_, rfl, a, _, rfl, hs, ?_⟩
    refine lc_enum (K := K) (a := a) (c := 1) (xs := vN l) (i := 1) (j := 2) (fun m => vN (tk 1 (l.take m))) hs (by rw [vN_len]; exact Nat.lt_of_le_of_lt hl (by decide)) rfl (fun m hm => ?_) (by intros; rfl) ?_ ?_
    · rw [vN_len]
      exact Nat.le_trans (tk_len _ _) (by rw [List.length_take]; omega)
    · rintro m y H' Qe Qf hy s5 h1 h2
      obtain ⟨b, hb', rfl⟩ := vN_of hy
      have hm : m < l.length := (List.getElem?_eq_some_iff.mp hb').1
      have em : (1 : Int) + (m : Int) = ((1 + m : Nat) : Int) := by omega
      rw [em]
      refine ⟨_, rfl, wa, _, rfl, .inr (hwp _), rfl, rfl, _, rfl, ?_⟩
      show if (!inV (V.int ((1 + m : Nat) : Int)) _) = true then _ else _
      rw [inWP]
      refine rd_if (fun c => ?_) (fun c => ?_)
      · refine ⟨_, rfl, h1 _ _ (Same.refl _) ?_⟩
        rw [take_snoc hb', tk_snoc, List.length_take, Nat.min_eq_left (by omega), if_neg (by simpa using c), vN_app]
        rfl
      · refine h2 _ (Same.refl _) ?_
        rw [take_snoc hb', tk_snoc, List.length_take, Nat.min_eq_left (by omega), if_pos (by simpa using c), List.append_nil]
    · intro D H' hD s5 e5
      rw [vN_len, List.take_length, ← taken_eq] at e5
      exact q D H' hD s5 e5
abbrev st_are_letters : Stmt := (top 33)
theorem sc_are_letters : FnScope ["numbers", "number"] ["numbers"] (defScope st_are_letters) := ⟨rfl, rfl, rfl, by decide +kernel, rfl, by decide +kernel, by decide +kernel⟩
abbrev ps_are_letters : List Str := ["numbers"]
theorem ok_are_letters (F : Fun K "are_letters" "are_letters" st_are_letters f fd) (T : Txt K mg A) : FnOk P w K mg base CX0 1 f fd ps_are_letters (sp_are_letters K) := by
  obtain ⟨la, hLETTERS, hlt⟩ := T.t_LETTERS
  refine F.ok sc_are_letters (fun vs H Q E h => ?_) (fun cdv Ar outer s H vs Q E hr h => ?_)
  · obtain ⟨a, l, rfl, _⟩ := h
    rfl
  · obtain ⟨a, l, rfl, hs, hl, q⟩ := h
    refine ⟨_, (pss_one (ps_ret (pe_callB (cr_all rfl) rfl T.b_all PyProof.Rows.boot_all (pa_cons (pe_lc rfl (sc_are_letters).nd (pi_list (pv 0)) (blkOk_by (own := [("number", 1)]) (by kernel_rfl)) (bg_name (sc_are_letters).nd (i := 1) rfl rfl) (fun _ _ _ _ _ => pts_nil) (fun _ _ _ _ _ => (pe_cmpR (inK (K := K) rfl) (pv 1) (g_ref hLETTERS) rfl))) pa_nil)))), ?_⟩
    refine ⟨_, rfl, a, rfl, ⟨_, hs⟩, ?_⟩
    refine lc_lst (K := K) (a := a) (xs := vN l) (i := 1) (fun m => ((l.take m).map isL).map V.bl) hs (by rw [vN_len]; exact Nat.lt_of_le_of_lt hl (by decide)) rfl (fun m hm => ?_) (by intros; rfl) ?_ ?_
    · rw [List.length_map, List.length_map, List.length_take]
      omega
    · rintro m y H' Qe Qf hy s5 h1 h2
      obtain ⟨b, hb', rfl⟩ := vN_of hy
      refine ⟨_, rfl, la, _, rfl, .inr (hlt _), rfl, rfl, ?_⟩
      show Qe (.bl (inV (V.int (b : Int)) _)) _
      rw [inLT]
      refine h1 _ _ (Same.refl _) ?_
      rw [take_snoc hb', List.map_append, List.map_append]
      rfl
    · intro D H' hD s5 e5
      rw [vN_len, List.take_length] at e5
      refine ⟨D, _, rfl, SqL.of e5, ?_⟩
      exact qb (q H' s5) (by rw [List.all_map]; rfl)
abbrev st_upper_row_of : Stmt := (top 34)
theorem sc_upper_row_of : FnScope ["letters", "letter"] ["letters"] (defScope st_upper_row_of) := ⟨rfl, rfl, rfl, by decide +kernel, rfl, by decide +kernel, by decide +kernel⟩
abbrev ps_upper_row_of : List Str := ["letters"]
theorem ok_upper_row_of (F : Fun K "upper_row_of" "upper_row_of" st_upper_row_of f fd) (T : Txt K mg A) : FnOk P w K mg base CX0 1 f fd ps_upper_row_of (sp_upper_row_of K) := by
  obtain ⟨la, hLETTERS, hlt⟩ := T.t_LETTERS
  refine F.ok sc_upper_row_of (fun vs H Q E h => ?_) (fun cdv Ar outer s H vs Q E hr h => ?_)
  · obtain ⟨a, l, s, rfl, _⟩ := h
    rfl
  · obtain ⟨a, l, z, rfl, hs, hl, hz, q⟩ := h
    obtain ⟨zl, zg⟩ := readAs_get hz
    refine ⟨_, (pss_one (ps_ret (pe_lc rfl (sc_upper_row_of).nd (pi_list (pv 0)) (blkOk_by (own := [("letter", 1)]) (by kernel_rfl)) (bg_name (sc_upper_row_of).nd (i := 1) rfl rfl) (fun _ _ _ _ _ => pts_nil) (fun _ _ _ _ _ => (pe_op op_fdiv (bmK (K := K) rfl PySem.F.plainAttrs_tuple PySem.F.slot_tuple_index PySem.F.type_tuple_index (indexTK (K := K) rfl) (g_ref hLETTERS) (pa_cons (pv 1) pa_nil)) pe_int))))), ?_⟩
    refine ⟨_, rfl, a, rfl, ⟨_, hs⟩, ?_⟩
    refine lc_lst (K := K) (a := a) (xs := vN l) (i := 1) (fun m => vN ((z.take m).map (Km348.bit 1))) hs (by rw [vN_len]; exact Nat.lt_of_le_of_lt hl (by decide)) rfl (fun m hm => ?_) (by intros; rfl) ?_ ?_
    · rw [vN_len, List.length_map, List.length_take]
      omega
    · rintro m y H' Qe Qf hy s5 h1 h2
      obtain ⟨b, hb', rfl⟩ := vN_of hy
      obtain ⟨n, hn, n4, hL⟩ := zg m b hb'
      obtain ⟨e1, e2⟩ := letter_ix n4 hL
      refine ⟨?_, _, rfl, la, _, _, n, rfl, rfl, hlt _, e1, e2, _, _, rfl, rfl, ⟨by decide, by decide⟩, h1 _ _ (Same.refl _) ?_⟩
      · exact .inr (.inl ⟨rfl, T.u_LETTERS la hLETTERS⟩)
      · rw [take_snoc hn, List.map_append, vN_app]
        show _ ++ [V.int ((n / 2 ^ 1 % 2 : Nat) : Int)] = _
        rw [show ((n / 2 ^ 1 % 2 : Nat) : Int) = (n : Int) / 2 by omega]
    · intro D H' hD s5 e5
      rw [vN_len, ← zl, List.take_length] at e5
      exact q D H' hD s5 e5
abbrev st_lower_row_of : Stmt := (top 35)
theorem sc_lower_row_of : FnScope ["letters", "letter"] ["letters"] (defScope st_lower_row_of) := ⟨rfl, rfl, rfl, by decide +kernel, rfl, by decide +kernel, by decide +kernel⟩
abbrev ps_lower_row_of : List Str := ["letters"]
theorem ok_lower_row_of (F : Fun K "lower_row_of" "lower_row_of" st_lower_row_of f fd) (T : Txt K mg A) : FnOk P w K mg base CX0 1 f fd ps_lower_row_of (sp_lower_row_of K) := by
  obtain ⟨la, hLETTERS, hlt⟩ := T.t_LETTERS
  refine F.ok sc_lower_row_of (fun vs H Q E h => ?_) (fun cdv Ar outer s H vs Q E hr h => ?_)
  · obtain ⟨a, l, s, rfl, _⟩ := h
    rfl
  · obtain ⟨a, l, z, rfl, hs, hl, hz, q⟩ := h
    obtain ⟨zl, zg⟩ := readAs_get hz
    refine ⟨_, (pss_one (ps_ret (pe_lc rfl (sc_lower_row_of).nd (pi_list (pv 0)) (blkOk_by (own := [("letter", 1)]) (by kernel_rfl)) (bg_name (sc_lower_row_of).nd (i := 1) rfl rfl) (fun _ _ _ _ _ => pts_nil) (fun _ _ _ _ _ => (pe_op op_mod (bmK (K := K) rfl PySem.F.plainAttrs_tuple PySem.F.slot_tuple_index PySem.F.type_tuple_index (indexTK (K := K) rfl) (g_ref hLETTERS) (pa_cons (pv 1) pa_nil)) pe_int))))), ?_⟩
    refine ⟨_, rfl, a, rfl, ⟨_, hs⟩, ?_⟩
    refine lc_lst (K := K) (a := a) (xs := vN l) (i := 1) (fun m => vN ((z.take m).map (Km348.bit 0))) hs (by rw [vN_len]; exact Nat.lt_of_le_of_lt hl (by decide)) rfl (fun m hm => ?_) (by intros; rfl) ?_ ?_
    · rw [vN_len, List.length_map, List.length_take]
      omega
    · rintro m y H' Qe Qf hy s5 h1 h2
      obtain ⟨b, hb', rfl⟩ := vN_of hy
      obtain ⟨n, hn, n4, hL⟩ := zg m b hb'
      obtain ⟨e1, e2⟩ := letter_ix n4 hL
      refine ⟨?_, _, rfl, la, _, _, n, rfl, rfl, hlt _, e1, e2, _, _, rfl, rfl, (by decide : (0 : Int) < 2), h1 _ _ (Same.refl _) ?_⟩
      · exact .inr (.inl ⟨rfl, T.u_LETTERS la hLETTERS⟩)
      · rw [take_snoc hn, List.map_append, vN_app]
        show _ ++ [V.int ((n / 2 ^ 0 % 2 : Nat) : Int)] = _
        rw [Nat.pow_zero, Nat.div_one, show ((n % 2 : Nat) : Int) = (n : Int) % 2 by omega]
    · intro D H' hD s5 e5
      rw [vN_len, ← zl, List.take_length] at e5
      exact q D H' hD s5 e5
abbrev st_bytes_of : Stmt := (top 27)
theorem sc_bytes_of : FnScope ["bits", "content", "first", "byte", "bit"] ["bits"] (defScope st_bytes_of) := ⟨rfl, rfl, rfl, by decide +kernel, rfl, by decide +kernel, by decide +kernel⟩
abbrev ps_bytes_of : List Str := ["bits"]
theorem ok_bytes_of (F : Fun K "bytes_of" "bytes_of" st_bytes_of f fd) (T : Txt K mg A) : FnOk P w K mg base CX0 1 f fd ps_bytes_of (sp_bytes_of K) := by
  refine F.ok sc_bytes_of (fun vs H Q E h => ?_) (fun cdv Ar outer s H vs Q E hr h => ?_)
  · obtain ⟨a, l, rfl, _⟩ := h
    rfl
  · obtain ⟨a, l, rfl, hs, hb, hl, q⟩ := h
    rw [bytesOf_eq] at q
    refine ⟨_, (pss_cons (ps_set (i := 1) (sc_bytes_of).nd rfl (by first | exact Or.inl rfl | exact Or.inr rfl) (pe_lst pa_nil))
      (pss_cons (ps_for PassesOwn.never rfl (pi_range3 rfl T.b_range (pa_cons pe_int (pa_cons (pe_callB call_len_seq rfl T.b_len PySem.boot_len (pa_cons (pv 0) pa_nil)) (pa_cons pe_int pa_nil)))) (pg_name (i := 2) (sc_bytes_of).nd rfl (by first | exact Or.inl rfl | exact Or.inr rfl))
        (pss_cons (ps_set (i := 3) (sc_bytes_of).nd rfl (by first | exact Or.inl rfl | exact Or.inr rfl) pe_int)
      (pss_cons (ps_for PassesOwn.never rfl (pi_list (pe_slice sl_list (pv 0) (po_some (pv 2)) (po_some (pe_op op_add (pv 2) pe_int)))) (pg_name (i := 4) (sc_bytes_of).nd rfl (by first | exact Or.inl rfl | exact Or.inr rfl))
        (pss_one (ps_set (i := 3) (sc_bytes_of).nd rfl (by first | exact Or.inl rfl | exact Or.inr rfl) (pe_op op_add (pe_op op_mul pe_int (pv 3)) (pv 4)))))
      (pss_one (ps_expr (pe_bm PySem.F.plainAttrs_list PySem.F.slot_list_append PySem.F.type_list_append mt_append (pv 1) (pa_cons (pv 3) pa_nil)))))))
      (pss_one (ps_ret (pv 1))))), ?_⟩
    refine ⟨Nat.zero_le _, fun p hp => ?_⟩
    refine ⟨_, rfl, a, _, rfl, .inl (sqL_new hs hp), 0, 112, 8, 14, (by rw [vN_len, hl]; rfl), ⟨by decide, by decide, by decide, by decide⟩, ?_⟩
    refine for_rangeC (n := 14) (fun i σ H' => ∃ v2 v3 v4 : Option V, σ = [some (.ref a), some (.ref p), v2, v3, v4] ∧ Same H H' ∧ H' p = some (.lst (vN ((List.range i).map fun i => Km348.byteOf ((l.drop (8 * i)).take 8)))))
      ⟨none, none, none, rfl, same_upd hp, upd_same⟩ ?_ ?_
    · rintro i σ H' hi ⟨v2, v3, v4, rfl, s5, e5⟩
      have ei : (0 : Int) + (i : Nat) * 8 = ((8 * i : Nat) : Int) := by omega
      rw [ei]
      refine ⟨_, rfl, _, rfl, _, rfl, _, rfl, _, _, rfl, rfl, _, rfl, a, _, rfl, s5.seq hs, fun c hc => ?_⟩
      have ec : cutV (vN l) (some ((8 * i : Nat) : Int)) (some (((8 * i : Nat) : Int) + 8)) = vN ((l.drop (8 * i)).take 8) := by
        rw [show ((8 * i : Nat) : Int) + 8 = ((8 * i + 8 : Nat) : Int) by omega, cut_nat, show 8 * i + 8 - 8 * i = 8 by omega]
        unfold vN
        rw [List.map_take, List.map_drop]
      rw [ec]
      have s6 : Same H' (upd H' c (.lst (vN ((l.drop (8 * i)).take 8)))) := same_upd hc
      refine ⟨c, rfl, ⟨_, SqL.of upd_same⟩, for_list (K := K) (a := c) (xs := vN ((l.drop (8 * i)).take 8)) (fun j σ H2 => ∃ v4 : Option V, σ = [some (.ref a), some (.ref p), some (.int ((8 * i : Nat) : Int)), some (.int ((Km348.byteOf (((l.drop (8 * i)).take 8).take j) : Nat) : Int)), v4] ∧ Same (upd H' c (.lst (vN ((l.drop (8 * i)).take 8)))) H2)
        ⟨v4, rfl, Same.refl _⟩ (fun j σ H2 _ ⟨_, _, s7⟩ => SqL.of (s7 _ _ upd_same)) ?_ ?_⟩
      · rintro j y σ H2 hj ⟨v4, rfl, s7⟩
        obtain ⟨b, hb', rfl⟩ := vN_of hj
        refine ⟨_, rfl, _, _, rfl, rfl, .inl (by decide), _, rfl, _, _, rfl, rfl, some (.int (b : Int)), ?_, s7⟩
        rw [take_snoc hb', byteOf_snoc]
        rw [show ((2 * Km348.byteOf (((l.drop (8 * i)).take 8).take j) + b : Nat) : Int) = 2 * ((Km348.byteOf (((l.drop (8 * i)).take 8).take j) : Nat) : Int) + (b : Int) by omega]
        rfl
      · rintro σ H2 ⟨v4, rfl, s7⟩
        rw [vN_len, List.take_length]
        have e7 := s7 _ _ (s6 _ _ e5)
        refine ⟨_, rfl, .inl ⟨rfl, _, SqL.of e7⟩, _, rfl, p, _, _, rfl, rfl, e7, ?_, ?_⟩
        · rw [vN_len, List.length_map, List.length_range]
          exact Nat.lt_trans hi (by decide)
        · refine ⟨_, _, _, rfl, Same.upd (s5.trans (s6.trans s7)) hp, ?_⟩
          rw [upd_same, List.range_succ, List.map_append]
          exact congrArg (fun z => some (HO.lst z)) (vN_app _ [_]).symm
    · rintro σ H' ⟨v2, v3, v4, rfl, s5, e5⟩
      exact ⟨_, rfl, q p H' hp s5 e5⟩
abbrev st_number_in : Stmt := (top 37)
theorem sc_number_in : FnScope ["content"] ["content"] (defScope st_number_in) := ⟨rfl, rfl, rfl, by decide +kernel, rfl, by decide +kernel, by decide +kernel⟩
abbrev ps_number_in : List Str := ["content"]
theorem ok_number_in (F : Fun K "number_in" "number_in" st_number_in f fd) (T : Txt K mg A) : FnOk P w K mg base CX0 1 f fd ps_number_in (sp_number_in K) := by
  refine F.ok sc_number_in (fun vs H Q E h => ?_) (fun cdv Ar outer s H vs Q E hr h => ?_)
  · obtain ⟨a, l, rfl, _⟩ := h
    rfl
  · obtain ⟨a, l, rfl, hs, hl, q⟩ := h
    refine ⟨_, (pss_one (ps_ret (pe_op op_add (pe_ix ix_list (pv 0) pe_int (fun _ _ => rfl)) (pe_op op_mul pe_int (pe_ix ix_list (pv 0) pe_int (fun _ _ => rfl)))))), ?_⟩
    have g0 : l[0]? = some (l.getD 0 0) := by rw [List.getD_eq_getElem?_getD, List.getElem?_eq_getElem (by omega)]; rfl
    have g1 : l[1]? = some (l.getD 1 0) := by rw [List.getD_eq_getElem?_getD, List.getElem?_eq_getElem (by omega)]; rfl
    refine ⟨_, rfl, a, _, _, _, rfl, rfl, hs, at_of (j := 0) rfl (vN_get g0), _, rfl, a, _, _, _, rfl, rfl, hs, at_of (j := 1) rfl (vN_get g1), _, _, rfl, rfl, .inl (by decide), _, _, rfl, rfl, ?_⟩
    exact qi q (by omega)
abbrev st_load_in : Stmt := (top 38)
theorem sc_load_in : FnScope ["content"] ["content"] (defScope st_load_in) := ⟨rfl, rfl, rfl, by decide +kernel, rfl, by decide +kernel, by decide +kernel⟩
abbrev ps_load_in : List Str := ["content"]
theorem ok_load_in (F : Fun K "load_in" "load_in" st_load_in f fd) (T : Txt K mg A) : FnOk P w K mg base CX0 1 f fd ps_load_in (sp_load_in K) := by
  refine F.ok sc_load_in (fun vs H Q E h => ?_) (fun cdv Ar outer s H vs Q E hr h => ?_)
  · obtain ⟨a, l, rfl, _⟩ := h
    rfl
  · obtain ⟨a, l, rfl, hs, q⟩ := h
    refine ⟨_, (pss_one (ps_ret (pe_slice sl_list (pv 0) (po_some pe_int) po_none))), ?_⟩
    refine ⟨_, rfl, _, rfl, a, _, rfl, hs, fun p hp => q p _ hp (same_upd hp) ?_⟩
    rw [upd_same, show (2 : Int) = ((2 : Nat) : Int) from rfl, cut_hi]
    unfold vN
    rw [List.map_drop]
end
end SS
end
section
set_option maxRecDepth 100000
set_option maxHeartbeats 2000000
namespace SS
open PySem PySem.Spec PyProof.Rows L2
def pyF (f pl d : Addr) : List (Str × V) := [("field", .ref f), ("places", .ref pl), ("divisor_logs", .ref d)]
theorem py_f (f pl d : Addr) : (pyF f pl d).lookup ("field" : Str) = some (.ref f) := by rfl
theorem py_p (f pl d : Addr) : (pyF f pl d).lookup ("places" : Str) = some (.ref pl) := by rfl
theorem py_d (f pl d : Addr) : (pyF f pl d).lookup ("divisor_logs" : Str) = some (.ref d) := by rfl
theorem py_no (f pl d : Addr) {x : Str} (h1 : (x == ("field" : Str)) = false) (h2 : (x == ("places" : Str)) = false) (h3 : (x == ("divisor_logs" : Str)) = false) : (pyF f pl d).lookup x = none := lk_miss h1 (lk_miss h2 (lk_miss h3 rfl))
structure PolyAt (A : Ad) (H : Hp) (a : Addr) (ps : List Nat) : Prop where
  ex : ∃ dx f pl d, H a = some (.ins A.Polynomial dx (pyF f pl d)) ∧ FieldAt A H f ∧ H pl = some (.lst (vN ps)) ∧ H d = some (.lst ((ps.map fun x => dl ps x).map V.int))
  lt : ∀ y ∈ ps, y < 256
  nd : ps.Nodup
  len : ps.length ≤ 1000
theorem PolyAt.same {A : Ad} {H H' : Hp} {a : Addr} {ps : List Nat} (h : PolyAt A H a ps) (s : Same H H') : PolyAt A H' a ps := by
  obtain ⟨dx, f, pl, d, h1, h2, h3, h4⟩ := h.ex
  exact ⟨⟨dx, f, pl, d, s _ _ h1, h2.same s, s _ _ h3, s _ _ h4⟩, h.lt, h.nd, h.len⟩
def sp_Polynomial_distance_log (A : Ad) : Sp := fun vs H Q _ => ∃ (a dx f pl : Addr) (fs : List (Str × V)) (ps : List Nat) (t : Nat), vs = [.ref a, .int (t : Int)] ∧ H a = some (.ins A.Polynomial dx fs) ∧ fs.lookup ("field" : Str) = some (.ref f) ∧ fs.lookup ("places" : Str) = some (.ref pl) ∧
  FieldAt A H f ∧ H pl = some (.lst (vN ps)) ∧ (∀ y ∈ ps, y < 256) ∧ t < 256 ∧ ps.length ≤ 1000 ∧ ∀ H', Same H H' → Q (.int (dl ps t)) H'
def sp_Polynomial_init (A : Ad) : Sp := fun vs H Q _ => ∃ (a dx f pl : Addr) (ps : List Nat), vs = [.ref a, .ref f, .ref pl] ∧ H a = some (.ins A.Polynomial dx []) ∧ FieldAt A H f ∧ H pl = some (.lst (vN ps)) ∧ (∀ y ∈ ps, y < 256) ∧ ps.Nodup ∧ ps.length ≤ 1000 ∧
  ∀ H', PolyAt A H' a ps → (∀ b o, H b = some o → b ≠ a → H' b = some o) → Q .non H'
def sp_Polynomial_weights_at (A : Ad) : Sp := fun vs H Q _ => ∃ (a : Addr) (ps : List Nat) (t : Nat), vs = [.ref a, .int (t : Int)] ∧ PolyAt A H a ps ∧ t < 256 ∧ t ∉ ps ∧ Ret H (vN (ps.map (coef ps t))) Q
def sp_Polynomial_load_at (A : Ad) : Sp := fun vs H Q _ => ∃ (a lo : Addr) (las : List Addr) (l : List (Nat × List Nat)) (t : Nat), vs = [.ref a, .int (t : Int), .ref lo] ∧ PolyAt A H a (l.map (·.1)) ∧ t < 256 ∧ t ∉ l.map (·.1) ∧ H lo = some (.lst (las.map V.ref)) ∧ las.length = l.length ∧
  (∀ (i : Nat) (la : Addr) (x : Nat × List Nat), las[i]? = some la → l[i]? = some x → H la = some (.lst (vN x.2))) ∧ (∀ x ∈ l, x.2.length = 12 ∧ ∀ b ∈ x.2, b < 256) ∧ Ret H (vN ((List.range 12).map (interp l t))) Q
section
variable {P : Program} {w : World} {K : PySem.W.Frag} {mg : Str → Option Value} {base : Heap} {A : Ad} {f : Addr} {fd : FuncData}
abbrev st_Polynomial_distance_log : Stmt := (inClass (top 17) 1)
theorem sc_Polynomial_distance_log : FnScope ["self", "point", "logs", "place"] ["self", "point"] (defScope st_Polynomial_distance_log) := ⟨rfl, rfl, rfl, by decide +kernel, rfl, by decide +kernel, by decide +kernel⟩
abbrev ps_Polynomial_distance_log : List Str := ["self", "point"]
theorem ok_Polynomial_distance_log (F : Fun K "distance_log" "Polynomial.distance_log" st_Polynomial_distance_log f fd) (T : Txt K mg A) : FnOk P w K mg base CX0 1 f fd ps_Polynomial_distance_log (sp_Polynomial_distance_log A) := by
  refine F.ok sc_Polynomial_distance_log (fun vs H Q E h => ?_) (fun cdv Ar outer s H vs Q E hr h => ?_)
  · obtain ⟨a, dx, f, pl, fs, ps, t, rfl, _⟩ := h
    rfl
  · obtain ⟨a, dx, f, pl, fs, ps, t, rfl, ha, lf, lp, hf, hp, hlt, ht, hl, q⟩ := h
    obtain ⟨dx2, pw, g, h1, h2, h3⟩ := hf.ex
    refine ⟨_, (pss_cons (ps_set (i := 2) (sc_Polynomial_distance_log).nd rfl (by first | exact Or.inl rfl | exact Or.inr rfl) (pe_fld (pe_fld (pv 0) rfl) rfl))
      (pss_one (ps_ret (pe_callB (cr_sum rfl) rfl T.b_sum PyProof.Rows.boot_sum (pa_cons (pe_lc rfl (sc_Polynomial_distance_log).nd (pi_list (pe_fld (pv 0) rfl)) (blkOk_by (own := [("place", 3)]) (by kernel_rfl)) (bg_name (sc_Polynomial_distance_log).nd (i := 3) rfl rfl) (fun _ _ _ _ _ => (pts_one (pt_cmpR op_ne (pv 3) (pv 1) (nomark _)))) (fun _ _ _ _ _ => (pe_ix (ixLK (K := K) rfl) (pv 2) (pe_op op_xor (pv 1) (pv 3)) (fun _ _ => rfl)))) pa_nil))))), ?_⟩
    refine ⟨_, rfl, a, A.Polynomial, dx, fs, _, rfl, ha, T.cl_Polynomial, T.na_Polynomial_field, lf, f, A.Field, dx2, _, _, rfl, h1, T.cl_Field, T.na_Field_logs, fd_g pw g, ?_⟩
    refine ⟨_, rfl, a, A.Polynomial, dx, fs, _, rfl, ha, T.cl_Polynomial, T.na_Polynomial_places, lp, pl, rfl, ⟨_, SqL.of hp⟩, ?_⟩
    refine lc_lst (K := K) (a := pl) (xs := vN ps) (i := 3) (fun m => (((ps.take m).filter fun y => decide (y ≠ t)).map fun y => (lg (t ^^^ y) : Int)).map V.int) (SqL.of hp) (by rw [vN_len]; exact Nat.lt_of_le_of_lt hl (by decide)) rfl (fun m hm => ?_) (by intros; rfl) ?_ ?_
    · rw [List.length_map, List.length_map]
      exact Nat.le_trans (List.length_filter_le ..) (by rw [List.length_take]; omega)
    · rintro m x H' Qe Qf hx s5 k1 k2
      obtain ⟨y, hy, rfl⟩ := vN_of hx
      have y256 := hlt y (List.mem_of_getElem? hy)
      refine ⟨_, rfl, _, rfl, rfl, _, rfl, ?_⟩
      refine rd_if (fun c => ?_) (fun c => ?_)
      · have c' : y ≠ t := fun e => by rw [e] at c; simp at c
        refine ⟨_, rfl, _, rfl, _, rfl, _, _, rfl, rfl, g, _, _, _, rfl, rfl, SqL.of (s5 _ _ h3), (by rw [xorN]; exact atI_nat (vN_get (logT_get (xor_lt ht y256)))), k1 _ _ (Same.refl _) ?_⟩
        rw [take_snoc hy, List.filter_append, List.map_append, List.map_append, List.filter_cons, if_pos (by simp [c'])]
        rfl
      · have c' : y = t := by
          rw [Bool.not_eq_false'] at c
          have c := of_decide_eq_true c
          injection c with c
          omega
        refine k2 _ (Same.refl _) ?_
        rw [take_snoc hy, List.filter_append, List.filter_cons, if_neg (by simp [c']), List.filter_nil, List.append_nil]
    · intro D H' hD s5 e5
      rw [vN_len, List.take_length] at e5
      exact ⟨D, _, rfl, SqL.of e5, q H' s5⟩
abbrev st_Polynomial_init : Stmt := (inClass (top 17) 0)
theorem sc_Polynomial_init : FnScope ["self", "field", "places", "place"] ["self", "field", "places"] (defScope st_Polynomial_init) := ⟨rfl, rfl, rfl, by decide +kernel, rfl, by decide +kernel, by decide +kernel⟩
abbrev ps_Polynomial_init : List Str := ["self", "field", "places"]
theorem ok_Polynomial_init (F : Fun K "__init__" "Polynomial.__init__" st_Polynomial_init f fd) (T : Txt K mg A)
    (M_Polynomial_distance_log : Mth P w K mg base A.Polynomial "distance_log" 1 ps_Polynomial_distance_log (sp_Polynomial_distance_log A)) :
    FnOk P w K mg base CX0 2 f fd ps_Polynomial_init (sp_Polynomial_init A) := by
  refine F.ok sc_Polynomial_init (fun vs H Q E h => ?_) (fun cdv Ar outer s H vs Q E hr h => ?_)
  · obtain ⟨a, dx, f, pl, ps, rfl, _⟩ := h
    rfl
  · obtain ⟨a, dx, f, pl, ps, rfl, ha, hf, hp, hlt, hnd, hl, q⟩ := h
    refine ⟨_, (pss_cons (ps_fld (pv 0) (pv 1) rfl)
      (pss_cons (ps_fld (pv 0) (pv 2) rfl)
      (pss_one (ps_fld (pv 0) (pe_lc rfl (sc_Polynomial_init).nd (pi_list (pe_fld (pv 0) rfl)) (blkOk_by (own := [("place", 3)]) (by kernel_rfl)) (bg_name (sc_Polynomial_init).nd (i := 3) rfl rfl) (fun _ _ _ _ _ => pts_nil) (fun _ _ _ _ _ => (m_call M_Polynomial_distance_log hr (pv 0) (pa_cons (pv 3) pa_nil)))) rfl)))), ?_⟩
    refine ⟨_, rfl, _, rfl, a, A.Polynomial, dx, _, rfl, ha, T.cl_Polynomial, T.na_Polynomial_field, (by show 0 < 1000; decide), ?_⟩
    refine ⟨_, rfl, _, rfl, a, A.Polynomial, dx, _, rfl, upd_same, T.cl_Polynomial, T.na_Polynomial_places, (by show 1 < 1000; decide), ?_⟩
    rw [upd_upd]
    have pa : pl ≠ a := ne_of hp ha (by intro z; cases z)
    generalize hH1 : upd H a _ = H1
    have ea : H1 a = some (.ins A.Polynomial dx [("field", .ref f), ("places", .ref pl)]) := by rw [← hH1]; exact upd_same
    have kp : ∀ b o, H b = some o → b ≠ a → H1 b = some o := fun b o e hb => by rw [← hH1, upd_ne hb]; exact e
    have ep : H1 pl = some (.lst (vN ps)) := kp _ _ hp pa
    have ef : FieldAt A H1 f := by
      obtain ⟨dx2, pw, g, h1, h2, h3⟩ := hf.ex
      exact ⟨dx2, pw, g, kp _ _ h1 (ne_of h1 ha (by intro z; injection z with z1 z2 z3; exact absurd (congrArg List.length z3) (by show ¬ (2 = 0); decide))), kp _ _ h2 (ne_of h2 ha (by intro z; cases z)), kp _ _ h3 (ne_of h3 ha (by intro z; cases z))⟩
    clear hH1
    refine ⟨_, rfl, a, A.Polynomial, dx, _, _, rfl, ea, T.cl_Polynomial, T.na_Polynomial_places, rfl, pl, rfl, ⟨_, SqL.of ep⟩, ?_⟩
    refine lc_lst (K := K) (a := pl) (xs := vN ps) (i := 3) (fun m => ((ps.take m).map fun x => dl ps x).map V.int) (SqL.of ep) (by rw [vN_len]; exact Nat.lt_of_le_of_lt hl (by decide)) rfl (fun m hm => ?_) (by intros; rfl) ?_ ?_
    · rw [List.length_map, List.length_map, List.length_take]
      omega
    · rintro m x H' Qe Qf hx s5 k1 k2
      obtain ⟨y, hy, rfl⟩ := vN_of hx
      refine ⟨_, rfl, a, dx, _, rfl, s5 _ _ ea, rfl, _, rfl, a, dx, f, pl, _, ps, y, rfl, s5 _ _ ea, rfl, rfl, ef.same s5, s5 _ _ ep, hlt, hlt y (List.mem_of_getElem? hy), hl, fun H4 s4 => k1 _ _ s4 ?_⟩
      rw [take_snoc hy, List.map_append, List.map_append]
      rfl
    · intro D H' hD s5 e5
      rw [vN_len, List.take_length] at e5
      refine ⟨_, rfl, a, A.Polynomial, dx, _, rfl, s5 _ _ ea, T.cl_Polynomial, T.na_Polynomial_divisor_logs, (by show 2 < 1000; decide), ?_⟩
      have da : D ≠ a := fun e => by rw [e, ea] at hD; cases hD
      refine q _ ⟨⟨dx, f, pl, D, upd_same, ?_, by rw [upd_ne pa]; exact s5 _ _ ep, by rw [upd_ne da]; exact e5⟩, hlt, hnd, hl⟩ fun b o e hb => ?_
      · obtain ⟨dx2, pw, g, h1, h2, h3⟩ := (ef.same s5).ex
        have ea' := s5 _ _ ea
        exact ⟨dx2, pw, g, by rw [upd_ne (ne_of h1 ea' (by intro z; injection z with z1 z2 z3; injection (List.cons.inj z3).1 with e; exact absurd e (by decide)))]; exact h1, by rw [upd_ne (ne_of h2 ea' (by intro z; cases z))]; exact h2, by rw [upd_ne (ne_of h3 ea' (by intro z; cases z))]; exact h3⟩
      · rw [upd_ne hb]
        exact s5 _ _ (kp b o e hb)
abbrev st_Polynomial_weights_at : Stmt := (inClass (top 17) 2)
theorem sc_Polynomial_weights_at : FnScope ["self", "target", "logs", "whole_log", "weights", "place", "divisor_log"] ["self", "target"] (defScope st_Polynomial_weights_at) := ⟨rfl, rfl, rfl, by decide +kernel, rfl, by decide +kernel, by decide +kernel⟩
abbrev ps_Polynomial_weights_at : List Str := ["self", "target"]
theorem ok_Polynomial_weights_at (F : Fun K "weights_at" "Polynomial.weights_at" st_Polynomial_weights_at f fd) (T : Txt K mg A)
    (M_Polynomial_distance_log : Mth P w K mg base A.Polynomial "distance_log" 1 ps_Polynomial_distance_log (sp_Polynomial_distance_log A))
    (M_Field_power : Mth P w K mg base A.Field "power" 1 ps_Field_power (sp_Field_power A)) :
    FnOk P w K mg base CX0 2 f fd ps_Polynomial_weights_at (sp_Polynomial_weights_at A) := by
  refine F.ok sc_Polynomial_weights_at (fun vs H Q E h => ?_) (fun cdv Ar outer s H vs Q E hr h => ?_)
  · obtain ⟨a, ps, t, rfl, _⟩ := h
    rfl
  · obtain ⟨a, ps, t, rfl, hP, ht, hn, q⟩ := h
    obtain ⟨dx, fa, pl, d, ha, hf, hp, hd⟩ := hP.ex
    obtain ⟨dx2, pw, g, h1, h2, h3⟩ := hf.ex
    refine ⟨_, (pss_cons (ps_set (i := 2) (sc_Polynomial_weights_at).nd rfl (by first | exact Or.inl rfl | exact Or.inr rfl) (pe_fld (pe_fld (pv 0) rfl) rfl))
      (pss_cons (ps_set (i := 3) (sc_Polynomial_weights_at).nd rfl (by first | exact Or.inl rfl | exact Or.inr rfl) (m_call M_Polynomial_distance_log hr (pv 0) (pa_cons (pv 1) pa_nil)))
      (pss_cons (ps_set (i := 4) (sc_Polynomial_weights_at).nd rfl (by first | exact Or.inl rfl | exact Or.inr rfl) (pe_lst pa_nil))
      (pss_cons (ps_for PassesOwn.never rfl (pi_zip rfl T.b_zip (pa_cons (pe_fld (pv 0) rfl) (pa_cons (pe_fld (pv 0) rfl) pa_nil))) (pg_tup rfl (pgs_cons (pg_name (i := 5) (sc_Polynomial_weights_at).nd rfl (by first | exact Or.inl rfl | exact Or.inr rfl)) (pgs_cons (pg_name (i := 6) (sc_Polynomial_weights_at).nd rfl (by first | exact Or.inl rfl | exact Or.inr rfl)) pgs_nil)))
        (pss_one (ps_expr (pe_bm PySem.F.plainAttrs_list PySem.F.slot_list_append PySem.F.type_list_append mt_append (pv 4) (pa_cons (m_call M_Field_power hr (pe_fld (pv 0) rfl) (pa_cons (pe_op op_sub (pe_op op_sub (pv 3) (pe_ix ix_list (pv 2) (pe_op op_xor (pv 1) (pv 5)) (fun _ _ => rfl))) (pv 6)) pa_nil)) pa_nil)))))
      (pss_one (ps_ret (pv 4))))))), ?_⟩
    refine ⟨_, rfl, a, A.Polynomial, dx, _, _, rfl, ha, T.cl_Polynomial, T.na_Polynomial_field, py_f fa pl d, fa, A.Field, dx2, _, _, rfl, h1, T.cl_Field, T.na_Field_logs, fd_g pw g, ?_⟩
    refine ⟨_, rfl, a, dx, _, rfl, ha, py_no fa pl d (by decide) (by decide) (by decide), _, rfl, a, dx, fa, pl, _, ps, t, rfl, ha, py_f fa pl d, py_p fa pl d, hf, hp, hP.lt, ht, hP.len, fun H1 s1 => ?_⟩
    refine ⟨Nat.zero_le _, fun r hr0 => ?_⟩
    have s2 : Same H (upd H1 r (.lst [])) := s1.trans (same_upd hr0)
    refine ⟨_, rfl, a, A.Polynomial, dx, _, _, rfl, s2 _ _ ha, T.cl_Polynomial, T.na_Polynomial_places, py_p fa pl d, _, rfl, a, A.Polynomial, dx, _, _, rfl, s2 _ _ ha, T.cl_Polynomial, T.na_Polynomial_divisor_logs, py_d fa pl d, pl, d, _, _, rfl, SqL.of (s2 _ _ hp), SqL.of (s2 _ _ hd), ?_⟩
    have rn : H r = none := s1.free hr0
    refine for_zip (K := K) (a := pl) (b := d) (xs := vN ps) (ys := (ps.map fun x => dl ps x).map V.int) (n := ps.length) (i := 5) (j := 6) (fun m σ H' => ∃ v5 v6 : Option V, σ = [some (.ref a), some (.int (t : Int)), some (.ref g), some (.int (dl ps t)), some (.ref r), v5, v6] ∧ Same H H' ∧ H' r = some (.lst (vN ((ps.take m).map (coef ps t)))))
      (by rw [vN_len, List.length_map, List.length_map, Nat.min_self]) ⟨none, none, rfl, s2, upd_same⟩ (fun m σ H' _ ⟨_, _, _, s5, _⟩ => ⟨SqL.of (s5 _ _ hp), SqL.of (s5 _ _ hd)⟩) ?_ ?_
    · rintro m x y T0 σ H' hx hy hT0 ⟨v5, v6, rfl, s5, e5⟩
      obtain ⟨p, hp', rfl⟩ := vN_of hx
      have ey : y = .int (dl ps p) := by
        rw [List.getElem?_map, List.getElem?_map, hp'] at hy
        exact (Option.some.inj hy).symm
      subst ey
      have pm := List.mem_of_getElem? hp'
      have p256 := hP.lt p pm
      have sT : Same H (upd H' T0 (.tup [.int (p : Int), .int (dl ps p)])) := s5.trans (same_upd hT0)
      have r0 := same_upd (o := .tup [.int (p : Int), .int (dl ps p)]) hT0 _ _ e5
      refine ⟨_, rfl, .inl ⟨rfl, _, SqL.of r0⟩, ?_⟩
      refine ⟨_, rfl, a, A.Polynomial, dx, _, _, rfl, sT _ _ ha, T.cl_Polynomial, T.na_Polynomial_field, py_f fa pl d, fa, dx2, _, rfl, sT _ _ h1, fd_no pw g (by decide) (by decide), ?_⟩
      refine ⟨_, rfl, _, rfl, _, rfl, _, rfl, _, _, rfl, rfl, g, _, _, _, rfl, rfl, SqL.of (sT _ _ h3), (by rw [xorN]; exact atI_nat (vN_get (logT_get (xor_lt ht p256)))), _, _, rfl, rfl, _, rfl, _, _, rfl, rfl, ?_⟩
      refine ⟨fa, _, rfl, hf.same sT, r, _, _, rfl, rfl, r0, ?_, ?_⟩
      · rw [vN_len, List.length_map, List.length_take]
        exact Nat.lt_of_le_of_lt (Nat.le_trans (Nat.min_le_right _ _) hP.len) (by decide)
      · refine ⟨_, _, rfl, Same.upd sT rn, ?_⟩
        rw [upd_same, take_snoc hp', List.map_append, vN_app, ← coef_dl ht hP.lt hP.nd hn pm]
        rfl
    · rintro σ H' ⟨v5, v6, rfl, s5, e5⟩
      rw [List.take_length] at e5
      exact ⟨_, rfl, q r H' rn s5 e5⟩
abbrev st_Polynomial_load_at : Stmt := (inClass (top 17) 3)
theorem sc_Polynomial_load_at : FnScope ["self", "target", "loads", "total", "weight", "load", "part", "byte"] ["self", "target", "loads"] (defScope st_Polynomial_load_at) := ⟨rfl, rfl, rfl, by decide +kernel, rfl, by decide +kernel, by decide +kernel⟩
abbrev ps_Polynomial_load_at : List Str := ["self", "target", "loads"]
theorem ok_Polynomial_load_at (F : Fun K "load_at" "Polynomial.load_at" st_Polynomial_load_at f fd) (T : Txt K mg A)
    (M_Polynomial_weights_at : Mth P w K mg base A.Polynomial "weights_at" 2 ps_Polynomial_weights_at (sp_Polynomial_weights_at A))
    (M_Field_multiply : Mth P w K mg base A.Field "multiply" 2 ps_Field_multiply (sp_Field_multiply A)) :
    FnOk P w K mg base CX0 3 f fd ps_Polynomial_load_at (sp_Polynomial_load_at A) := by
  refine F.ok sc_Polynomial_load_at (fun vs H Q E h => ?_) (fun cdv Ar outer s H vs Q E hr h => ?_)
  · obtain ⟨a, lo, las, l, t, rfl, _⟩ := h
    rfl
  · obtain ⟨a, lo, las, l, t, rfl, hP, ht, hn, hlo, hll, hla, hb, q⟩ := h
    obtain ⟨dx, fa, pl, d, ha, hf, hp, hd⟩ := hP.ex
    obtain ⟨dx2, pw, g, h1, h2, h3⟩ := hf.ex
    refine ⟨_, (pss_cons (ps_set (i := 3) (sc_Polynomial_load_at).nd rfl (by first | exact Or.inl rfl | exact Or.inr rfl) (pe_op op_rep (pe_lst (pa_cons pe_int pa_nil)) (g_int T.c_LOAD_LENGTH)))
      (pss_cons (ps_for PassesOwn.never rfl (pi_zip rfl T.b_zip (pa_cons (m_call M_Polynomial_weights_at hr (pv 0) (pa_cons (pv 1) pa_nil)) (pa_cons (pv 2) pa_nil))) (pg_tup rfl (pgs_cons (pg_name (i := 4) (sc_Polynomial_load_at).nd rfl (by first | exact Or.inl rfl | exact Or.inr rfl)) (pgs_cons (pg_name (i := 5) (sc_Polynomial_load_at).nd rfl (by first | exact Or.inl rfl | exact Or.inr rfl)) pgs_nil)))
        (pss_one (ps_setLc rfl (sc_Polynomial_load_at).nd (i := 3) rfl rfl (sw_true rfl rfl rfl rfl) (pi_zip rfl T.b_zip (pa_cons (pv 3) (pa_cons (pv 5) pa_nil))) (blkOk_by (own := [("part", 6), ("byte", 7)]) (by kernel_rfl)) (bg_pair rfl (sc_Polynomial_load_at).nd (i := 6) (j := 7) rfl rfl rfl rfl) (fun _ _ _ _ _ => pts_nil) (fun _ _ _ _ _ => (pe_op op_xor (pv 6) (m_call M_Field_multiply hr (fldK (K := K) rfl (pv 0)) (pa_cons (pv 4) (pa_cons (pv 7) pa_nil))))))))
      (pss_one (ps_ret (pv 3))))), ?_⟩
    refine ⟨(by show 1 ≤ sizeLine; decide), fun z hz => ⟨z, _, _, rfl, rfl, upd_same, (by decide), (by decide), (by show 1 * 12 ≤ sizeLine; decide), fun t0 ht0 => ?_⟩⟩
    have sz : Same H (upd H z (.lst [V.int 0])) := same_upd hz
    have n0 : H t0 = none := sz.free ht0
    have s0 : Same H (upd (upd H z (.lst [V.int 0])) t0 (.lst (List.replicate (12 : Int).toNat [V.int 0]).flatten)) := Same.upd sz n0
    refine ⟨_, rfl, a, dx, _, rfl, s0 _ _ ha, py_no fa pl d (by decide) (by decide) (by decide), _, rfl, a, _, t, rfl, hP.same s0, ht, hn, fun wa H1 hwa s1 ew => ?_⟩
    have s1' : Same H H1 := s0.trans s1
    have et0 : H1 t0 = some (.lst (vN (tot l t 0))) := by
      rw [tot_zero]
      exact s1 _ _ upd_same
    refine ⟨_, rfl, wa, lo, _, _, rfl, SqL.of ew, SqL.of (s1' _ _ hlo), ?_⟩
    refine for_zip (K := K) (a := wa) (b := lo) (xs := vN ((l.map (·.1)).map (coef (l.map (·.1)) t))) (ys := las.map V.ref) (n := l.length) (i := 4) (j := 5) (fun m σ H' => ∃ (tm : Addr) (v4 v5 : Option V), σ = [some (.ref a), some (.int (t : Int)), some (.ref lo), some (.ref tm), v4, v5, none, none] ∧ Same H H' ∧ H tm = none ∧ H' wa = some (.lst (vN ((l.map (·.1)).map (coef (l.map (·.1)) t)))) ∧ H' tm = some (.lst (vN (tot l t m))))
      (by rw [vN_len, List.length_map, List.length_map, List.length_map, hll, Nat.min_self]) ⟨t0, none, none, rfl, s1', n0, ew, et0⟩ (fun m σ H' _ ⟨_, _, _, _, s5, _, e5, _⟩ => ⟨SqL.of e5, SqL.of (s5 _ _ hlo)⟩) ?_ ?_
    · rintro m x y T0 σ H' hx hy hT0 ⟨tm, v4, v5, rfl, s5, ntm, e5, e6⟩
      obtain ⟨c, hc, rfl⟩ := vN_of hx
      obtain ⟨la, hla', rfl⟩ : ∃ la, las[m]? = some la ∧ y = V.ref la := by
        rw [List.getElem?_map] at hy
        cases e : las[m]? with
        | none => rw [e] at hy; cases hy
        | some la => rw [e] at hy; exact ⟨la, rfl, (Option.some.inj hy).symm⟩
      have hm : m < l.length := by rw [← hll]; exact (List.getElem?_eq_some_iff.mp hla').1
      obtain ⟨xl, hxl⟩ : ∃ xl, l[m]? = some xl := ⟨_, List.getElem?_eq_getElem hm⟩
      have ec : c = coef (l.map (·.1)) t xl.1 := by
        rw [List.getElem?_map, List.getElem?_map, hxl] at hc
        exact (Option.some.inj hc).symm
      have xm := List.mem_of_getElem? hxl
      obtain ⟨x12, xb⟩ := hb xl xm
      have xp : xl.1 ∈ l.map (·.1) := List.mem_map.mpr ⟨xl, xm, rfl⟩
      have c256 : c < 256 := by rw [ec]; exact coef_lt ht hP.lt hP.nd hn xp
      have sT' : Same H' (upd H' T0 (.tup [.int (c : Int), .ref la])) := same_upd hT0
      have sT : Same H (upd H' T0 (.tup [.int (c : Int), .ref la])) := s5.trans sT'
      have ela := hla m la xl hla' hxl
      have et := sT' _ _ e6
      refine ⟨_, rfl, _, rfl, tm, la, _, _, rfl, SqL.of et, SqL.of (sT _ _ ela), ?_⟩
      refine lc_zip (K := K) (a := tm) (b := la) (xs := vN (tot l t m)) (ys := vN xl.2) (n := 12) (i := 6) (j := 7) (fun n => vN ((((tot l t m).zip xl.2).take n).map fun z => z.1 ^^^ Km348.times (coef (l.map (·.1)) t xl.1) z.2)) (by rw [vN_len, vN_len, tot_len, x12]; rfl) (SqL.of et) (SqL.of (sT _ _ ela)) (by decide) rfl (fun n hn => ?_) (by intros; rfl) ?_ ?_
      · rw [vN_len, List.length_map, List.length_take]
        omega
      · rintro n x y H2 Qe Qf hx2 hy2 s6 k1 k2
        obtain ⟨u, hu, rfl⟩ := vN_of hx2
        obtain ⟨v, hv, rfl⟩ := vN_of hy2
        have u256 := tot_lt (fun x hx => (hb x hx).2) m u (List.mem_of_getElem? hu)
        have v256 := xb v (List.mem_of_getElem? hv)
        have s7 : Same H H2 := sT.trans s6
        refine ⟨_, rfl, _, rfl, a, A.Polynomial, dx, _, _, rfl, s7 _ _ ha, T.cl_Polynomial, T.na_Polynomial_field, py_f fa pl d, fa, dx2, _, rfl, s7 _ _ h1, fd_no pw g (by decide) (by decide), ?_⟩
        refine ⟨_, rfl, _, rfl, fa, c, v, rfl, c256, v256, hf.same s7, _, _, rfl, rfl, k1 _ _ (Same.refl _) ?_⟩
        have hz : ((tot l t m).zip xl.2)[n]? = some (u, v) := List.getElem?_zip_eq_some.mpr ⟨hu, hv⟩
        rw [take_snoc hz, List.map_append, vN_app]
        dsimp only
        rw [xorN, ec]
        rfl
      · intro D H2 hD s6 e8
        rw [List.take_of_length_le (by rw [List.length_zip, tot_len, x12]; decide), ← tot_succ hxl x12 xb (by rw [← ec]; exact c256)] at e8
        exact ⟨D, _, _, rfl, sT.trans s6, sT.free hD, s6 _ _ (sT' _ _ e5), e8⟩
    · rintro σ H' ⟨tm, v4, v5, rfl, s5, ntm, e5, e6⟩
      rw [tot_all] at e6
      exact ⟨_, rfl, q tm H' ntm s5 e6⟩
end
end SS
end
section
set_option maxRecDepth 100000
set_option maxHeartbeats 2000000
namespace SS
open PySem PySem.Spec PyProof.Rows L2
def kd : HO → Nat
  | .dK _ => 4
  | .frz _ _ => 5
  | .ins _ _ fs => if (fs.lookup ("taken" : Str)).isSome = true then 1 else if (fs.lookup ("polynomial" : Str)).isSome = true then 2 else if (fs.lookup ("groups" : Str)).isSome = true then 3 else if (fs.lookup ("loads" : Str)).isSome = true then 4 else 0
  | _ => 0
def Kp (n : Nat) (H H' : Hp) : Prop := ∀ b o, H b = some o → kd o ≠ n → H' b = some o
theorem Kp.same {n : Nat} {H H' : Hp} (s : Same H H') : Kp n H H' := fun b o e _ => s b o e
theorem Kp.refl {n : Nat} {H : Hp} : Kp n H H := fun b o e _ => e
theorem Kp.trans {n : Nat} {H H1 H2 : Hp} (a : Kp n H H1) (b : Kp n H1 H2) : Kp n H H2 := fun c o e h => b c o (a c o e h) h
theorem Kp.upd {n : Nat} {H H' : Hp} {a : Addr} {o o' : HO} (s : Kp n H H') (e : H a = some o) (h : kd o = n) : Kp n H (L2.upd H' a o') := fun b u eb hb => by
  by_cases c : b = a
  · rw [c, e] at eb
    cases eb
    exact absurd h hb
  · rw [upd_ne c]; exact s b u eb hb
theorem Kp.new {n : Nat} {H H' : Hp} {a : Addr} {o : HO} (s : Kp n H H') (e : H a = none) : Kp n H (L2.upd H' a o) := fun b u eb hb => by
  rw [upd_ne (ne_of_none eb e)]; exact s b u eb hb
theorem Kp.unlock {H : Hp} {a : Addr} {od : Obj} {u : HO} : Kp 5 (L2.upd H a (.frz od u)) H := fun b o eb hb => by
  by_cases c : b = a
  · rw [c, upd_same] at eb
    cases eb
    exact absurd rfl hb
  · rw [upd_ne c] at eb; exact eb
theorem Kp.relock {H : Hp} {a : Addr} {od od' : Obj} {u u' : HO} (e : H a = some (.frz od u)) : Kp 5 H (L2.upd H a (.frz od' u')) := Kp.upd Kp.refl e rfl
theorem Kp.lst {n : Nat} {H H' : Hp} {a : Addr} {l : List V} (s : Kp n H H') (hn : n ≠ 0) (e : H a = some (.lst l)) : H' a = some (.lst l) := s _ _ e (fun z => hn z.symm)
theorem Kp.frz {n : Nat} {H H' : Hp} {a : Addr} {o : Obj} {u : HO} (s : Kp n H H') (hn : n ≠ 5) (e : H a = some (.frz o u)) : H' a = some (.frz o u) := s _ _ e (fun z => hn z.symm)
theorem FieldAt.kp {A : Ad} {n : Nat} {H H' : Hp} {a : Addr} (h : FieldAt A H a) (s : Kp n H H') (hn : n ≠ 0) : FieldAt A H' a := by
  obtain ⟨dx, p, g, h1, h2, h3⟩ := h.ex
  exact ⟨dx, p, g, s _ _ h1 (fun z => hn z.symm), s.lst hn h2, s.lst hn h3⟩
theorem PolyAt.kp {A : Ad} {n : Nat} {H H' : Hp} {a : Addr} {ps : List Nat} (h : PolyAt A H a ps) (s : Kp n H H') (hn : n ≠ 0) : PolyAt A H' a ps := by
  obtain ⟨dx, f, pl, d, h1, h2, h3, h4⟩ := h.ex
  exact ⟨⟨dx, f, pl, d, s _ _ h1 (fun z => hn z.symm), h2.kp s hn, s.lst hn h3, s.lst hn h4⟩, h.lt, h.nd, h.len⟩
theorem SizeAt.kp {A : Ad} {n : Nat} {H H' : Hp} {a : Addr} {k m l : Int} (h : SizeAt A H a k m l) (s : Kp n H H') (hn : n ≠ 0) : SizeAt A H' a k m l := by
  obtain ⟨dx, h⟩ := h
  exact ⟨dx, s _ _ h (fun z => hn z.symm)⟩
theorem kd_cn {C dx : Addr} (l : Addr) (i : Int) : kd (.ins C dx (cnF l i)) = 1 := by rfl
end SS
end
section
set_option maxRecDepth 100000
set_option maxHeartbeats 2000000
namespace SS
open PySem PySem.Spec PyProof.Rows L2
def grF (f : Addr) (k : Int) (d : Addr) (fl : V) : List (Str × V) := [("field", .ref f), ("k", .int k), ("loads", .ref d), ("filled_loads", fl)]
theorem gr_f (f : Addr) (k : Int) (d : Addr) (fl : V) : (grF f k d fl).lookup ("field" : Str) = some (.ref f) := by rfl
theorem gr_k (f : Addr) (k : Int) (d : Addr) (fl : V) : (grF f k d fl).lookup ("k" : Str) = some (.int k) := by rfl
theorem gr_d (f : Addr) (k : Int) (d : Addr) (fl : V) : (grF f k d fl).lookup ("loads" : Str) = some (.ref d) := by rfl
theorem gr_l (f : Addr) (k : Int) (d : Addr) (fl : V) : (grF f k d fl).lookup ("filled_loads" : Str) = some fl := by rfl
theorem gr_no (f : Addr) (k : Int) (d : Addr) (fl : V) {x : Str} (h1 : (x == ("field" : Str)) = false) (h2 : (x == ("k" : Str)) = false) (h3 : (x == ("loads" : Str)) = false) (h4 : (x == ("filled_loads" : Str)) = false) : (grF f k d fl).lookup x = none := lk_miss h1 (lk_miss h2 (lk_miss h3 (lk_miss h4 rfl)))
theorem kd_gr {C dx : Addr} (f : Addr) (k : Int) (d : Addr) (fl : V) : kd (.ins C dx (grF f k d fl)) = 4 := by rfl
def LdAt (H : Hp) (kv : Key × V) (x : Nat × List Nat) : Prop := kv.1 = Sum.inl ((x.1 : Nat) : Int) ∧ ∃ la, kv.2 = .ref la ∧ H la = some (.lst (vN x.2))
def FlOk (H : Hp) (fl : V) (k : Nat) (S : Ld) : Prop := fl = .non ∨ ∃ (a : Addr) (as : List Addr), fl = .ref a ∧ H a = some (.lst (as.map V.ref)) ∧ as.length = k ∧ ∀ (i : Nat) (la : Addr), as[i]? = some la → H la = some (.lst (vN (Km348.loadAt (S.take k) i)))
structure SOk (S : Ld) : Prop where
  srt : Srt S
  ok : ∀ x ∈ S, x.1 < 256 ∧ x.2.length = 12 ∧ ∀ b ∈ x.2, b < 256
  len : S.length ≤ 1000
structure GroupAt (A : Ad) (H : Hp) (g d : Addr) (k : Nat) (S : Ld) : Prop where
  ex : ∃ dx f fl kvs ld, H g = some (.ins A.ReadGroup dx (grF f k d fl)) ∧ FieldAt A H f ∧ H d = some (.dK kvs) ∧ Paired (LdAt H) kvs ld ∧ ld.Perm S ∧ FlOk H fl k S
  ok : SOk S
theorem LdAt.kp {n : Nat} {H H' : Hp} {kv : Key × V} {x : Nat × List Nat} (s : Kp n H H') (hn : n ≠ 0) (h : LdAt H kv x) : LdAt H' kv x := by
  obtain ⟨h1, la, h2, h3⟩ := h
  exact ⟨h1, la, h2, s.lst hn h3⟩
theorem FlOk.kp {n : Nat} {H H' : Hp} {fl : V} {k : Nat} {S : Ld} (s : Kp n H H') (hn : n ≠ 0) (h : FlOk H fl k S) : FlOk H' fl k S := by
  rcases h with h | ⟨a, as, h1, h2, h3, h4⟩
  · exact .inl h
  · exact .inr ⟨a, as, h1, s.lst hn h2, h3, fun i la e => s.lst hn (h4 i la e)⟩
theorem GroupAt.kp {A : Ad} {n : Nat} {H H' : Hp} {g d : Addr} {k : Nat} {S : Ld} (h : GroupAt A H g d k S) (s : Kp n H H') (hn : n ≠ 0) (e1 : ∀ o, H g = some o → H' g = some o) (e2 : ∀ o, H d = some o → H' d = some o) : GroupAt A H' g d k S := by
  obtain ⟨dx, f, fl, kvs, ld, h1, h2, h3, h4, h5, h6⟩ := h.ex
  exact ⟨⟨dx, f, fl, kvs, ld, e1 _ h1, h2.kp s hn, e2 _ h3, Paired.mapP h4 fun _ _ z => z.kp s hn, h5, h6.kp s hn⟩, h.ok⟩
theorem ld_find {H : Hp} {p : Nat} : ∀ {kvs : List (Key × V)} {ld : Ld}, Paired (LdAt H) kvs ld → (∀ x, ld.find? (at_ p) = some x → ∃ la, valV kvs (Sum.inl ((p : Nat) : Int)) = some (.ref la) ∧ H la = some (.lst (vN x.2))) ∧ (ld.find? (at_ p) = none → valV kvs (Sum.inl ((p : Nat) : Int)) = none)
  | _, _, .nil => ⟨fun x h => (nomatch h), fun _ => rfl⟩
  | (kk, v) :: kvs, x :: ld, .cons h t => by
    obtain ⟨h1, la, h2, h3⟩ := h
    have h1 : kk = Sum.inl ((x.1 : Nat) : Int) := h1
    have h2 : v = .ref la := h2
    subst h1 h2
    obtain ⟨i1, i2⟩ := ld_find (p := p) t
    by_cases c : x.1 = p
    · have e1 : (x :: ld).find? (at_ p) = some x := by rw [List.find?_cons, show at_ p x = true by unfold at_; rw [c]; exact beq_self_eq_true _]
      rw [e1]
      refine ⟨fun y hy => ⟨la, ?_, ?_⟩, fun hy => (nomatch hy)⟩
      · rw [← c]; exact valV_pos rfl
      · rw [← Option.some.inj hy]; exact h3
    · have e1 : (x :: ld).find? (at_ p) = ld.find? (at_ p) := by rw [List.find?_cons, show at_ p x = false by unfold at_; exact beq_eq_false_iff_ne.mpr c]
      have e2 : valV ((Sum.inl ((x.1 : Nat) : Int), V.ref la) :: kvs) (Sum.inl ((p : Nat) : Int)) = valV kvs (Sum.inl ((p : Nat) : Int)) := valV_neg fun z => by
        have z : ((x.1 : Nat) : Int) = ((p : Nat) : Int) := Sum.inl.inj z
        exact c (by omega)
      rw [e1, e2]
      exact ⟨i1, i2⟩
theorem ld_keys {H : Hp} : ∀ {kvs : List (Key × V)} {ld : Ld}, Paired (LdAt H) kvs ld → kvs.map (·.1) = (ld.map fun x => ((x.1 : Nat) : Int)).map Sum.inl
  | _, _, .nil => rfl
  | _, _, .cons h t => by rw [List.map_cons, List.map_cons, List.map_cons, ld_keys t, h.1]
def sp_ReadGroup_init (A : Ad) : Sp := fun vs H Q _ => ∃ (p dx f : Addr) (k : Int), vs = [.ref p, .ref f, .int k] ∧ H p = some (.ins A.ReadGroup dx []) ∧
  ∀ d H', H d = none → (∀ b o, H b = some o → b ≠ p → H' b = some o) → H' p = some (.ins A.ReadGroup dx (grF f k d .non)) → H' d = some (.dK []) → Q .non H'
def sp_ReadGroup_lacking_count (A : Ad) : Sp := fun vs H Q _ => ∃ (g d : Addr) (k : Nat) (S : Ld), vs = [.ref g] ∧ GroupAt A H g d k S ∧ Q (.int ((k - S.length : Nat) : Int)) H
def sp_ReadGroup_load_read_at (A : Ad) : Sp := fun vs H Q _ => ∃ (g d : Addr) (k : Nat) (S : Ld) (p : Nat), vs = [.ref g, .int (p : Nat)] ∧ GroupAt A H g d k S ∧ (∀ x la, S.find? (at_ p) = some x → H la = some (.lst (vN x.2)) → Q (.ref la) H) ∧ (S.find? (at_ p) = none → Q .non H)
def sp_ReadGroup_keep_load (A : Ad) : Sp := fun vs H Q _ => ∃ (g d la : Addr) (k : Nat) (S S' : Ld) (p : Nat) (l : List Nat), vs = [.ref g, .int (p : Nat), .ref la] ∧ GroupAt A H g d k S ∧ H la = some (.lst (vN l)) ∧ S.find? (at_ p) = none ∧ S'.Perm (S ++ [(p, l)]) ∧ SOk S' ∧
  ∀ H', GroupAt A H' g d k S' → (∀ b o, H b = some o → b ≠ g → b ≠ d → H' b = some o) → Q .non H'
def sp_ReadGroup_worked_out_loads (A : Ad) : Sp := fun vs H Q _ => ∃ (g d : Addr) (k : Nat) (S : Ld), vs = [.ref g] ∧ GroupAt A H g d k S ∧ k ≤ 64 ∧
  ∀ (a : Addr) (as : List Addr) (H' : Hp), Same H H' → H' a = some (.lst (as.map V.ref)) → as.length = k → (∀ (i : Nat) (la : Addr), as[i]? = some la → H' la = some (.lst (vN (Km348.loadAt (S.take k) i)))) → Q (.ref a) H'
def sp_ReadGroup_filled_load (A : Ad) : Sp := fun vs H Q _ => ∃ (g d : Addr) (k : Nat) (S : Ld) (i : Nat), vs = [.ref g, .int (i : Nat)] ∧ GroupAt A H g d k S ∧ k ≤ 64 ∧ i < k ∧
  ∀ (la : Addr) (H' : Hp), GroupAt A H' g d k S → (∀ b o, H b = some o → b ≠ g → H' b = some o) → H' la = some (.lst (vN (Km348.loadAt (S.take k) i))) → Q (.ref la) H'
section
variable {P : Program} {w : World} {K : PySem.W.Frag} {mg : Str → Option Value} {base : Heap} {A : Ad} {f : Addr} {fd : FuncData}
abbrev st_ReadGroup_init : Stmt := (inClass (top 19) 0)
theorem sc_ReadGroup_init : FnScope ["self", "field", "k"] ["self", "field", "k"] (defScope st_ReadGroup_init) := ⟨rfl, rfl, rfl, by decide +kernel, rfl, by decide +kernel, by decide +kernel⟩
abbrev ps_ReadGroup_init : List Str := ["self", "field", "k"]
theorem ok_ReadGroup_init (F : Fun K "__init__" "ReadGroup.__init__" st_ReadGroup_init f fd) (T : Txt K mg A) : FnOk P w K mg base CX0 1 f fd ps_ReadGroup_init (sp_ReadGroup_init A) := by
  refine F.ok sc_ReadGroup_init (fun vs H Q E h => ?_) (fun cdv Ar outer s H vs Q E hr h => ?_)
  · obtain ⟨p, dx, f, k, rfl, _⟩ := h
    rfl
  · obtain ⟨p, dx, f, k, rfl, hp, q⟩ := h
    refine ⟨_, (pss_cons (ps_fld (pv 0) (pv 1) rfl)
      (pss_cons (ps_fld (pv 0) (pv 2) rfl)
      (pss_cons (ps_fld (pv 0) pe_dnewK rfl)
      (pss_one (ps_fld (pv 0) pe_non rfl))))), ?_⟩
    refine ⟨_, rfl, _, rfl, p, A.ReadGroup, dx, _, rfl, hp, T.cl_ReadGroup, T.na_ReadGroup_field, (by show 0 < 1000; decide), ?_⟩
    refine ⟨_, rfl, _, rfl, p, A.ReadGroup, dx, _, rfl, upd_same, T.cl_ReadGroup, T.na_ReadGroup_k, (by show 1 < 1000; decide), ?_⟩
    rw [upd_upd]
    intro d hd
    obtain ⟨hd1, dp⟩ := none_upd hd
    refine ⟨_, rfl, p, A.ReadGroup, dx, _, rfl, (by rw [upd_ne (Ne.symm dp)]; exact upd_same), T.cl_ReadGroup, T.na_ReadGroup_loads, (by show 2 < 1000; decide), ?_⟩
    refine ⟨_, rfl, p, A.ReadGroup, dx, _, rfl, upd_same, T.cl_ReadGroup, T.na_ReadGroup_filled_loads, (by show 3 < 1000; decide), ?_⟩
    rw [upd_upd]
    refine q d _ hd1 (fun b o e hb => ?_) upd_same (by rw [upd_ne dp, upd_same])
    rw [upd_ne hb, upd_ne (ne_of_none e hd1), upd_ne hb]
    exact e
abbrev st_ReadGroup_lacking_count : Stmt := (inClass (top 19) 1)
theorem sc_ReadGroup_lacking_count : FnScope ["self"] ["self"] (defScope st_ReadGroup_lacking_count) := ⟨rfl, rfl, rfl, by decide +kernel, rfl, by decide +kernel, by decide +kernel⟩
abbrev ps_ReadGroup_lacking_count : List Str := ["self"]
theorem ok_ReadGroup_lacking_count (F : Fun K "lacking_count" "ReadGroup.lacking_count" st_ReadGroup_lacking_count f fd) (T : Txt K mg A) : FnOk P w K mg base CX0 1 f fd ps_ReadGroup_lacking_count (sp_ReadGroup_lacking_count A) := by
  refine F.ok sc_ReadGroup_lacking_count (fun vs H Q E h => ?_) (fun cdv Ar outer s H vs Q E hr h => ?_)
  · obtain ⟨g, d, k, S, rfl, _⟩ := h
    rfl
  · obtain ⟨g, d, k, S, rfl, G, q⟩ := h
    obtain ⟨dx, fa, fl, kvs, ld, h1, h2, h3, h4, h5, h6⟩ := G.ex
    refine ⟨_, (pss_one (ps_ret (pe_callB (call_max2 rfl) rfl T.b_max PyProof.Rows.boot_max (pa_cons pe_int (pa_cons (pe_op op_sub (pe_fld (pv 0) rfl) (pe_callB call_lenD rfl T.b_len PySem.boot_len (pa_cons (pe_fld (pv 0) rfl) pa_nil))) pa_nil))))), ?_⟩
    refine ⟨_, rfl, g, A.ReadGroup, dx, _, _, rfl, h1, T.cl_ReadGroup, T.na_ReadGroup_k, gr_k fa k d fl, ?_⟩
    refine ⟨_, rfl, g, A.ReadGroup, dx, _, _, rfl, h1, T.cl_ReadGroup, T.na_ReadGroup_loads, gr_d fa k d fl, d, kvs, rfl, h3, _, _, rfl, rfl, _, _, rfl, ?_⟩
    refine qi q ?_
    have e : kvs.length = S.length := by rw [Paired.length h4, h5.length_eq]
    rw [e]
    split <;> omega
abbrev st_ReadGroup_load_read_at : Stmt := (inClass (top 19) 2)
theorem sc_ReadGroup_load_read_at : FnScope ["self", "place"] ["self", "place"] (defScope st_ReadGroup_load_read_at) := ⟨rfl, rfl, rfl, by decide +kernel, rfl, by decide +kernel, by decide +kernel⟩
abbrev ps_ReadGroup_load_read_at : List Str := ["self", "place"]
theorem ok_ReadGroup_load_read_at (F : Fun K "load_read_at" "ReadGroup.load_read_at" st_ReadGroup_load_read_at f fd) (T : Txt K mg A) : FnOk P w K mg base CX0 1 f fd ps_ReadGroup_load_read_at (sp_ReadGroup_load_read_at A) := by
  refine F.ok sc_ReadGroup_load_read_at (fun vs H Q E h => ?_) (fun cdv Ar outer s H vs Q E hr h => ?_)
  · obtain ⟨g, d, k, S, p, rfl, _⟩ := h
    rfl
  · obtain ⟨g, d, k, S, p, rfl, G, q1, q2⟩ := h
    obtain ⟨dx, fa, fl, kvs, ld, h1, h2, h3, h4, h5, h6⟩ := G.ex
    refine ⟨_, (pss_one (ps_ret (pe_dget1 (hu_of hr) (pe_fld (pv 0) rfl) (pv 1) ⟨rfl, rfl, rfl, rfl⟩))), ?_⟩
    refine ⟨_, rfl, g, A.ReadGroup, dx, _, _, rfl, h1, T.cl_ReadGroup, T.na_ReadGroup_loads, gr_d fa k d fl, d, rfl, .inl ⟨kvs, .inl h3⟩, _, rfl, _, DGet.k (k := Sum.inl ((p : Nat) : Int)) h3, ?_⟩
    obtain ⟨i1, i2⟩ := ld_find (p := p) h4
    rw [find_perm h5 G.ok.srt.nd] at i1 i2
    cases e : S.find? (at_ p) with
    | none => rw [i2 e]; exact q2 e
    | some x =>
      obtain ⟨la, e1, e2⟩ := i1 x e
      rw [e1]
      exact q1 x la e e2
abbrev st_ReadGroup_keep_load : Stmt := (inClass (top 19) 3)
theorem sc_ReadGroup_keep_load : FnScope ["self", "place", "load"] ["self", "place", "load"] (defScope st_ReadGroup_keep_load) := ⟨rfl, rfl, rfl, by decide +kernel, rfl, by decide +kernel, by decide +kernel⟩
abbrev ps_ReadGroup_keep_load : List Str := ["self", "place", "load"]
theorem ok_ReadGroup_keep_load (F : Fun K "keep_load" "ReadGroup.keep_load" st_ReadGroup_keep_load f fd) (T : Txt K mg A) : FnOk P w K mg base CX0 1 f fd ps_ReadGroup_keep_load (sp_ReadGroup_keep_load A) := by
  refine F.ok sc_ReadGroup_keep_load (fun vs H Q E h => ?_) (fun cdv Ar outer s H vs Q E hr h => ?_)
  · obtain ⟨g, d, la, k, S, S', p, l, rfl, _⟩ := h
    rfl
  · obtain ⟨g, d, la, k, S, S', p, l, rfl, G, hla, hno, hS', ok', q⟩ := h
    obtain ⟨dx, fa, fl, kvs, ld, h1, h2, h3, h4, h5, h6⟩ := G.ex
    refine ⟨_, (pss_cons (ps_dput (hu_of hr) (pe_fld (pv 0) rfl) (pv 1) (pv 2) rfl)
      (pss_one (ps_fld (pv 0) pe_non rfl))), ?_⟩
    have hl : kvs.length < sizeLine := by
      rw [Paired.length h4, h5.length_eq]
      exact Nat.lt_of_le_of_lt G.ok.len (by decide)
    refine ⟨_, rfl, _, rfl, g, A.ReadGroup, dx, _, _, rfl, h1, T.cl_ReadGroup, T.na_ReadGroup_loads, gr_d fa k d fl, _, rfl, d, _, rfl, DPut.k (k := Sum.inl ((p : Nat) : Int)) h3 hl, ?_⟩
    have gd : g ≠ d := ne_of h1 h3 (by intro z; cases z)
    refine ⟨_, rfl, g, A.ReadGroup, dx, _, rfl, (by rw [upd_ne gd]; exact h1), T.cl_ReadGroup, T.na_ReadGroup_filled_loads, (by show 4 < 1000; decide), ?_⟩
    have kp : ∀ b o, H b = some o → b ≠ g → b ≠ d → (upd (upd H d (.dK (putK kvs (Sum.inl ((p : Nat) : Int)) (.ref la)))) g (.ins A.ReadGroup dx (putF "filled_loads" .non (grF fa k d fl)))) b = some o := fun b o e c1 c2 => by
      rw [upd_ne c1, upd_ne c2]; exact e
    have Kk : Kp 4 H (upd (upd H d (.dK (putK kvs (Sum.inl ((p : Nat) : Int)) (.ref la)))) g (.ins A.ReadGroup dx (putF "filled_loads" .non (grF fa k d fl)))) := Kp.upd (Kp.upd Kp.refl h3 rfl) h1 (kd_gr fa k d fl)
    refine q _ ⟨⟨dx, fa, .non, putK kvs (Sum.inl ((p : Nat) : Int)) (.ref la), ld ++ [(p, l)], upd_same, h2.kp Kk (by decide), by rw [upd_ne (Ne.symm gd), upd_same], ?_, ?_, .inl rfl⟩, ok'⟩ kp
    · have hv : valV kvs (Sum.inl ((p : Nat) : Int)) = none := (ld_find (p := p) h4).2 (by rw [find_perm h5 G.ok.srt.nd]; exact hno)
      have ep : putK kvs (Sum.inl ((p : Nat) : Int)) (.ref la) = kvs ++ [(Sum.inl ((p : Nat) : Int), .ref la)] := by
        unfold putK
        rw [valV_any, hv, if_neg (by exact Bool.false_ne_true)]
      rw [ep] at Kk ⊢
      exact Paired.snoc (Paired.mapP h4 fun _ _ z => z.kp Kk (by decide)) ⟨rfl, la, rfl, Kk.lst (by decide) hla⟩
    · exact (h5.append_right _).trans hS'.symm
theorem ns_cast (l : List Nat) : (l.map fun n : Nat => (n : Int)).map V.int = vN l := by unfold vN; rw [List.map_map]; rfl
theorem pw_cast {l : List Nat} (h : l.Pairwise (· < ·)) : (l.map fun n : Nat => (n : Int)).Pairwise (· ≤ ·) := by
  rw [List.pairwise_map]
  exact h.imp fun h => by omega
def adr : V → Addr
  | .ref a => a
  | _ => 0
abbrev st_ReadGroup_worked_out_loads : Stmt := (inClass (top 19) 5)
theorem sc_ReadGroup_worked_out_loads : FnScope ["self", "places", "loads", "polynomial", "filled", "place"] ["self"] (defScope st_ReadGroup_worked_out_loads) := ⟨rfl, rfl, rfl, by decide +kernel, rfl, by decide +kernel, by decide +kernel⟩
abbrev ps_ReadGroup_worked_out_loads : List Str := ["self"]
theorem ok_ReadGroup_worked_out_loads (F : Fun K "worked_out_loads" "ReadGroup.worked_out_loads" st_ReadGroup_worked_out_loads f fd) (T : Txt K mg A)
    (K_Polynomial : Mak P w K mg base A.Polynomial "Polynomial" 2 ps_Polynomial_init (sp_Polynomial_init A))
    (M_Polynomial_load_at : Mth P w K mg base A.Polynomial "load_at" 3 ps_Polynomial_load_at (sp_Polynomial_load_at A)) :
    FnOk P w K mg base CX0 4 f fd ps_ReadGroup_worked_out_loads (sp_ReadGroup_worked_out_loads A) := by
  refine F.ok sc_ReadGroup_worked_out_loads (fun vs H Q E h => ?_) (fun cdv Ar outer s H vs Q E hr h => ?_)
  · obtain ⟨g, d, k, S, rfl, _⟩ := h
    rfl
  · obtain ⟨g, d, k, S, rfl, G, hk, q⟩ := h
    obtain ⟨dx, fa, fl, kvs, ld, h1, h2, h3, h4, h5, h6⟩ := G.ex
    have fnd : ∀ p, (∀ x, S.find? (at_ p) = some x → ∃ la, valV kvs (Sum.inl ((p : Nat) : Int)) = some (.ref la) ∧ H la = some (.lst (vN x.2))) ∧ (S.find? (at_ p) = none → valV kvs (Sum.inl ((p : Nat) : Int)) = none) := fun p => by
      have := ld_find (p := p) h4
      rw [find_perm h5 G.ok.srt.nd] at this
      exact this
    refine ⟨_, (pss_cons (ps_set (i := 1) (sc_ReadGroup_worked_out_loads).nd rfl (by first | exact Or.inl rfl | exact Or.inr rfl) (pe_slice sl_list (pe_callB (cr_sortedD rfl) rfl T.b_sorted PyProof.Rows.boot_sorted (pa_cons (pe_fld (pv 0) rfl) pa_nil)) po_none (po_some (pe_fld (pv 0) rfl))))
      (pss_cons (ps_setLc rfl (sc_ReadGroup_worked_out_loads).nd (i := 2) rfl rfl (sw_true rfl rfl rfl rfl) (pi_list (pv 1)) (blkOk_by (own := [("place", 5)]) (by kernel_rfl)) (bg_name (sc_ReadGroup_worked_out_loads).nd (i := 5) rfl rfl) (fun _ _ _ _ _ => pts_nil) (fun _ _ _ _ _ => (pe_dget (hu_of hr) (fldK (K := K) rfl (pv 0)) (pv 5) (fun _ _ => rfl))))
      (pss_cons (ps_set (i := 3) (sc_ReadGroup_worked_out_loads).nd rfl (by first | exact Or.inl rfl | exact Or.inr rfl) (k_make K_Polynomial hr (pa_cons (pe_fld (pv 0) rfl) (pa_cons (pv 1) pa_nil))))
      (pss_cons (ps_set (i := 4) (sc_ReadGroup_worked_out_loads).nd rfl (by first | exact Or.inl rfl | exact Or.inr rfl) (pe_lst pa_nil))
      (pss_cons (ps_for PassesOwn.never rfl (pi_range1 rfl T.b_range (pa_cons (pe_fld (pv 0) rfl) pa_nil)) (pg_name (i := 5) (sc_ReadGroup_worked_out_loads).nd rfl (by first | exact Or.inl rfl | exact Or.inr rfl))
        (pss_one (ps_if (pt_cmp (pc_din (hu_of hr) (pv 5) (pe_fld (pv 0) rfl))) (pss_one (ps_expr (pe_bm PySem.F.plainAttrs_list PySem.F.slot_list_append PySem.F.type_list_append mt_append (pv 4) (pa_cons (pe_dget (hu_of hr) (pe_fld (pv 0) rfl) (pv 5) (fun _ _ => rfl)) pa_nil)))) (pss_one (ps_expr (pe_bm PySem.F.plainAttrs_list PySem.F.slot_list_append PySem.F.type_list_append mt_append (pv 4) (pa_cons (m_call M_Polynomial_load_at hr (pv 3) (pa_cons (pv 5) (pa_cons (pv 2) pa_nil))) pa_nil)))))))
      (pss_one (ps_ret (pv 4)))))))), ?_⟩
    refine ⟨_, rfl, g, A.ReadGroup, dx, _, _, rfl, h1, T.cl_ReadGroup, T.na_ReadGroup_loads, gr_d fa k d fl, d, kvs, _, rfl, h3, ld_keys h4, fun ns' p0 np ns hp0 => ?_⟩
    have en : ns' = (S.map (·.1)).map fun n : Nat => (n : Int) := by
      refine PySem.W.ksm_same (np.trans ?_) ns (pw_cast G.ok.srt)
      rw [List.map_map]
      exact h5.map _
    subst en
    rw [ns_cast]
    have s0 := same_upd (o := .lst (vN (S.map (·.1)))) hp0
    refine ⟨_, rfl, g, A.ReadGroup, dx, _, _, rfl, s0 _ _ h1, T.cl_ReadGroup, T.na_ReadGroup_k, gr_k fa k d fl, _, rfl, p0, _, rfl, SqL.of upd_same, fun p1 hp1 => ?_⟩
    rw [cut_lo, show (vN (S.map (·.1))).take k = vN ((S.take k).map (·.1)) by unfold vN; rw [List.map_take, List.map_take]]
    have s1 := Same.upd (o := .lst (vN ((S.take k).map (·.1)))) s0 (s0.free hp1)
    have e1 : (upd (upd H p0 (.lst (vN (S.map (·.1))))) p1 (.lst (vN ((S.take k).map (·.1))))) p1 = some (.lst (vN ((S.take k).map (·.1)))) := upd_same
    generalize upd (upd H p0 (.lst (vN (S.map (·.1))))) p1 (.lst (vN ((S.take k).map (·.1)))) = H1 at s1 e1
    refine ⟨_, rfl, p1, rfl, ⟨_, SqL.of e1⟩, ?_⟩
    have fx : ∀ x ∈ S.take k, ∃ la, valV kvs (Sum.inl ((x.1 : Nat) : Int)) = some (.ref la) ∧ H la = some (.lst (vN x.2)) := fun x hx => (fnd x.1).1 x (mem_find G.ok.srt.nd (List.mem_of_mem_take hx) rfl)
    refine lc_lst (K := K) (a := p1) (xs := vN ((S.take k).map (·.1))) (i := 5) (fun m => (((S.take k).take m).map fun x => adr ((valV kvs (Sum.inl ((x.1 : Nat) : Int))).getD .non)).map V.ref) (SqL.of e1) (by rw [vN_len, List.length_map, List.length_take]; exact Nat.lt_of_le_of_lt (Nat.min_le_right _ _) (Nat.lt_of_le_of_lt G.ok.len (by decide))) rfl (fun m hm => ?_) (by intros; rfl) ?_ ?_
    · rw [List.length_map, List.length_map, List.length_take]
      omega
    · rintro m y H' Qe Qf hy s5 k1 k2
      obtain ⟨b, hb', rfl⟩ := vN_of hy
      rw [List.getElem?_map] at hb'
      obtain ⟨x, hx, rfl⟩ := Option.map_eq_some_iff.mp hb'
      obtain ⟨la, v1, v2⟩ := fx x (List.mem_of_getElem? hx)
      have h3' := s5 _ _ (s1 _ _ h3)
      refine ⟨_, rfl, g, A.ReadGroup, dx, _, _, rfl, s5 _ _ (s1 _ _ h1), T.cl_ReadGroup, T.na_ReadGroup_loads, gr_d fa k d fl, _, rfl, d, .ref la, rfl, ?_, k1 _ _ (Same.refl _) ?_⟩
      · rw [← v1]; exact DGet.k (k := Sum.inl ((x.1 : Nat) : Int)) h3'
      · rw [take_snoc hx, List.map_append, List.map_append, List.map_cons, v1]
        rfl
    · intro p2 H2 hp2 s2 e2
      rw [vN_len, List.length_map, List.take_length] at e2
      have s2' := s1.trans s2
      refine ⟨_, rfl, g, A.ReadGroup, dx, _, _, rfl, s2' _ _ h1, T.cl_ReadGroup, T.na_ReadGroup_field, gr_f fa k d fl, _, rfl, ?_⟩
      intro x xd nx nxd nex
      have s3 : Same H2 (upd (upd H2 xd (.own x)) x (.ins A.Polynomial xd [])) := Same.upd (same_upd nxd) nx
      have okT : ∀ y ∈ S.take k, y.1 < 256 ∧ y.2.length = 12 ∧ ∀ b ∈ y.2, b < 256 := fun y hy => G.ok.ok y (List.mem_of_mem_take hy)
      have ndT : ((S.take k).map (·.1)).Nodup := by
        rw [List.map_take]
        exact (List.take_sublist _ _).nodup G.ok.srt.nd
      refine ⟨x, xd, fa, p1, (S.take k).map (·.1), rfl, upd_same, (h2.same s2').same s3, s3 _ _ (s2 _ _ e1), ?_, ndT, ?_, fun H3 PA kb => ⟨rfl, ?_⟩⟩
      · intro y hy
        obtain ⟨z, hz, rfl⟩ := List.mem_map.mp hy
        exact (okT z hz).1
      · rw [List.length_map, List.length_take]
        exact Nat.le_trans (Nat.min_le_right _ _) G.ok.len
      have s4 : Same H2 H3 := Same.made nx nxd kb
      have s4' := s2'.trans s4
      obtain ⟨dxp, fp, plp, dp, hx, hx2, hx3, hx4⟩ := PA.ex
      refine ⟨Nat.zero_le _, fun fo hfo => ?_⟩
      have s5 := same_upd (o := .lst []) hfo
      refine ⟨_, rfl, g, A.ReadGroup, dx, _, _, rfl, s5 _ _ (s4' _ _ h1), T.cl_ReadGroup, T.na_ReadGroup_k, gr_k fa k d fl, (k : Int), rfl, by omega, by omega, ?_⟩
      rw [Int.toNat_natCast]
      refine for_range (n := k) (fun m σ H' => ∃ (v : Option V) (as : List Addr), σ = [some (.ref g), some (.ref p1), some (.ref p2), some (.ref x), some (.ref fo), v] ∧ Same H3 H' ∧ H' fo = some (.lst (as.map V.ref)) ∧ as.length = m ∧ ∀ (i : Nat) (la : Addr), as[i]? = some la → la ≠ fo ∧ H' la = some (.lst (vN (Km348.loadAt (S.take k) i))))
        ⟨none, [], rfl, s5, upd_same, rfl, fun i la h => by simp at h⟩ ?_ ?_
      · rintro m σ H' hm ⟨v, as, rfl, s6, e6, l6, c6⟩
        have sA := s4'.trans s6
        have h1' := sA _ _ h1
        have h3' := sA _ _ h3
        have em : (0 : Int) + (m : Nat) = ((m : Nat) : Int) := by omega
        rw [em]
        have grow : ∀ (la : Addr) (H2' : Hp), Same H' H2' → la ≠ fo → H2' la = some (.lst (vN (Km348.loadAt (S.take k) m))) → ∃ (v : Option V) (as' : List Addr), [some (V.ref g), some (V.ref p1), some (V.ref p2), some (V.ref x), some (V.ref fo), some (V.int ((m : Nat) : Int))] = [some (V.ref g), some (V.ref p1), some (V.ref p2), some (V.ref x), some (V.ref fo), v] ∧ Same H3 (upd H2' fo (.lst (as.map V.ref ++ [V.ref la]))) ∧ (upd H2' fo (.lst (as.map V.ref ++ [V.ref la]))) fo = some (.lst (as'.map V.ref)) ∧ as'.length = m + 1 ∧ ∀ (i : Nat) (lb : Addr), as'[i]? = some lb → lb ≠ fo ∧ (upd H2' fo (.lst (as.map V.ref ++ [V.ref la]))) lb = some (.lst (vN (Km348.loadAt (S.take k) i))) := fun la H2' s7 n7 e7 => by
          refine ⟨_, as ++ [la], rfl, Same.upd (s6.trans s7) hfo, by rw [upd_same, List.map_append]; rfl, by rw [List.length_append, l6]; rfl, fun i lb hi => ?_⟩
          by_cases c : i < as.length
          · rw [List.getElem?_append_left c] at hi
            obtain ⟨a1, a2⟩ := c6 i lb hi
            exact ⟨a1, by rw [upd_ne a1]; exact s7 _ _ a2⟩
          · rw [List.getElem?_append_right (by omega)] at hi
            have ei : i = m := by
              have := (List.getElem?_eq_some_iff.mp hi).1
              simp at this
              omega
            subst ei
            rw [l6, Nat.sub_self] at hi
            have hi : la = lb := Option.some.inj hi
            rw [← hi]
            exact ⟨n7, by rw [upd_ne n7]; exact e7⟩
        refine ⟨_, rfl, _, rfl, g, A.ReadGroup, dx, _, _, rfl, h1', T.cl_ReadGroup, T.na_ReadGroup_loads, gr_d fa k d fl, d, _, rfl, DGet.k (k := Sum.inl ((m : Nat) : Int)) h3', _, rfl, ?_⟩
        have lz : (as.map V.ref).length < sizeLine := by
          rw [List.length_map, l6]
          exact Nat.lt_of_le_of_lt (show m ≤ 1000 by omega) (by decide)
        cases e : S.find? (at_ m) with
        | some y =>
          obtain ⟨la, v1, v2⟩ := (fnd m).1 y e
          rw [v1]
          refine iteT ?_
          refine ⟨_, rfl, .inl ⟨rfl, _, SqL.of e6⟩, _, rfl, g, A.ReadGroup, dx, _, _, rfl, h1', T.cl_ReadGroup, T.na_ReadGroup_loads, gr_d fa k d fl, _, rfl, d, .ref la, rfl, (by rw [← v1]; exact DGet.k (k := Sum.inl ((m : Nat) : Int)) h3'), fo, _, _, rfl, rfl, e6, lz, ?_⟩
          exact grow la H' (Same.refl _) (fun z => by rw [z, s4'.free hfo] at v2; cases v2) (by rw [fill_some G.ok.srt hm e]; exact sA _ _ v2)
        | none =>
          rw [(fnd m).2 e]
          refine iteF ?_
          refine ⟨_, rfl, .inl ⟨rfl, _, SqL.of e6⟩, _, rfl, x, dxp, _, rfl, s6 _ _ hx, py_no fp plp dp (by decide) (by decide) (by decide), _, rfl, _, rfl, x, p2, (S.take k).map (fun x => adr ((valV kvs (Sum.inl ((x.1 : Nat) : Int))).getD .non)), S.take k, m, rfl, PA.same s6, (by omega), fill_not e, (s6 _ _ (s4 _ _ e2)), (by rw [List.length_map]), ?_, fun y hy => (okT y hy).2, fun pn Hn hpn sn en => ?_⟩
          · intro i la y hi hy
            rw [List.getElem?_map, hy] at hi
            obtain ⟨lb, v1, v2⟩ := fx y (List.mem_of_getElem? hy)
            have hi : some (adr ((valV kvs (Sum.inl ((y.1 : Nat) : Int))).getD .non)) = some la := hi
            rw [v1] at hi
            have hi : lb = la := Option.some.inj hi
            rw [← hi]
            exact sA _ _ v2
          · refine ⟨fo, _, _, rfl, rfl, sn _ _ e6, lz, ?_⟩
            exact grow pn Hn sn (fun z => by rw [z, e6] at hpn; cases hpn) (by rw [loadAt_none (fill_not e)]; exact en)
      · rintro σ H' ⟨v, as, rfl, s6, e6, l6, c6⟩
        exact ⟨_, rfl, q fo as H' (s4'.trans s6) e6 l6 fun i la hi => (c6 i la hi).2⟩
abbrev st_ReadGroup_filled_load : Stmt := (inClass (top 19) 4)
theorem sc_ReadGroup_filled_load : FnScope ["self", "place"] ["self", "place"] (defScope st_ReadGroup_filled_load) := ⟨rfl, rfl, rfl, by decide +kernel, rfl, by decide +kernel, by decide +kernel⟩
abbrev ps_ReadGroup_filled_load : List Str := ["self", "place"]
theorem ok_ReadGroup_filled_load (F : Fun K "filled_load" "ReadGroup.filled_load" st_ReadGroup_filled_load f fd) (T : Txt K mg A)
    (M_ReadGroup_worked_out_loads : Mth P w K mg base A.ReadGroup "worked_out_loads" 4 ps_ReadGroup_worked_out_loads (sp_ReadGroup_worked_out_loads A)) :
    FnOk P w K mg base CX0 5 f fd ps_ReadGroup_filled_load (sp_ReadGroup_filled_load A) := by
  refine F.ok sc_ReadGroup_filled_load (fun vs H Q E h => ?_) (fun cdv Ar outer s H vs Q E hr h => ?_)
  · obtain ⟨g, d, k, S, i, rfl, _⟩ := h
    rfl
  · obtain ⟨g, d, k, S, i, rfl, G, hk, hi, q⟩ := h
    obtain ⟨dx, fa, fl, kvs, ld, h1, h2, h3, h4, h5, h6⟩ := G.ex
    refine ⟨_, (pss_cons (ps_if (pt_cmpR op_isN (pe_fld (pv 0) rfl) pe_non (nomark _)) (pss_one (ps_fld (pv 0) (m_call0 M_ReadGroup_worked_out_loads hr (pv 0)) rfl)) pss_nil)
      (pss_one (ps_ret (pe_ix ix_list (pe_fld (pv 0) rfl) (pv 1) (fun _ _ => rfl))))), ?_⟩
    have fin : ∀ (H' : Hp) (a : Addr) (as : List Addr), H' g = some (.ins A.ReadGroup dx (grF fa k d (.ref a))) → Kp 4 H H' → (∀ b o, H b = some o → b ≠ g → H' b = some o) → H' a = some (.lst (as.map V.ref)) → as.length = k → (∀ (i : Nat) (la : Addr), as[i]? = some la → H' la = some (.lst (vN (Km348.loadAt (S.take k) i)))) →
        ∃ la, (as.map V.ref)[i]? = some (.ref la) ∧ Q (.ref la) H' := fun H' a as e1 kp kb e2 e3 e4 => by
      obtain ⟨la, hla⟩ : ∃ la, as[i]? = some la := ⟨_, List.getElem?_eq_getElem (by omega)⟩
      have gd : d ≠ g := ne_of h3 h1 (by intro z; cases z)
      exact ⟨la, by rw [List.getElem?_map, hla]; rfl, q la H' ⟨⟨dx, fa, .ref a, kvs, ld, e1, h2.kp kp (by decide), kb _ _ h3 gd, Paired.mapP h4 fun _ _ z => z.kp kp (by decide), h5, .inr ⟨a, as, rfl, e2, e3, e4⟩⟩, G.ok⟩ kb (e4 i la hla)⟩
    refine ⟨_, rfl, g, A.ReadGroup, dx, _, _, rfl, h1, T.cl_ReadGroup, T.na_ReadGroup_filled_loads, gr_l fa k d fl, rfl, _, rfl, ?_⟩
    rcases h6 with e | ⟨a, as, e, e2, e3, e4⟩
    · subst e
      refine iteT ?_
      refine ⟨_, rfl, g, dx, _, rfl, h1, gr_no fa k d .non (by decide) (by decide) (by decide) (by decide), g, d, k, S, rfl, G, hk, fun a as H' s' e2 e3 e4 => ?_⟩
      refine ⟨_, rfl, g, A.ReadGroup, dx, _, rfl, s' _ _ h1, T.cl_ReadGroup, T.na_ReadGroup_filled_loads, (by show 4 < 1000; decide), ?_⟩
      have h1' := s' _ _ h1
      have ag : a ≠ g := ne_of e2 h1' (by intro z; cases z)
      have kp : Kp 4 H (upd H' g (.ins A.ReadGroup dx (putF "filled_loads" (.ref a) (grF fa k d .non)))) := Kp.upd (Kp.same s') h1 (kd_gr fa k d .non)
      obtain ⟨la, l1, l2⟩ := fin (upd H' g (.ins A.ReadGroup dx (putF "filled_loads" (.ref a) (grF fa k d .non)))) a as upd_same kp (fun b o e hb => by rw [upd_ne hb]; exact s' b o e) (by rw [upd_ne ag]; exact e2) e3 (fun j la hj => by
        rw [upd_ne (ne_of (e4 j la hj) h1' (by intro z; cases z))]; exact e4 j la hj)
      refine ⟨_, rfl, g, A.ReadGroup, dx, _, _, rfl, upd_same, T.cl_ReadGroup, T.na_ReadGroup_filled_loads, gr_l fa k d (.ref a), _, rfl, a, _, _, _, rfl, rfl, SqL.of (by rw [upd_ne ag]; exact e2), atI_nat l1, l2⟩
    · subst e
      refine iteF ?_
      obtain ⟨la, l1, l2⟩ := fin H a as h1 Kp.refl (fun b o e _ => e) e2 e3 e4
      exact ⟨_, rfl, g, A.ReadGroup, dx, _, _, rfl, h1, T.cl_ReadGroup, T.na_ReadGroup_filled_loads, gr_l fa k d (.ref a), _, rfl, a, _, _, _, rfl, rfl, SqL.of e2, atI_nat l1, l2⟩
end
end SS
end
section
set_option maxRecDepth 100000
set_option maxHeartbeats 2000000
namespace SS
open PySem PySem.Spec PyProof.Rows L2
theorem grp_eq {k n : Nat} (m : Nat) (hk : 1 ≤ k) : grp (k : Int) (n : Int) = (((⟨k, m, n⟩ : Km348.Size).groups : Nat) : Int) := by
  unfold grp Km348.Size.groups Km348.LOAD
  rw [Int.natCast_ediv]
  show _ = ((n + 12 * k - 1 : Nat) : Int) / ((12 * k : Nat) : Int)
  congr 1
  omega
theorem str_eq {k n : Nat} (m : Nat) (hk : 1 ≤ k) : grp (k : Int) (n : Int) * ((k : Int) + (m : Int)) = (((⟨k, m, n⟩ : Km348.Size).strands : Nat) : Int) := by
  rw [grp_eq m hk]
  unfold Km348.Size.strands
  rw [Int.natCast_mul, Int.natCast_add, Int.mul_comm]
theorem good_iff {z : Km348.Size} : z.good = true ↔ (1 ≤ z.k ∧ z.k ≤ 64) ∧ z.m ≤ 32 ∧ (1 ≤ z.n ∧ z.n ≤ 16384) ∧ z.strands ≤ 4096 := by
  unfold Km348.Size.good Km348.BYTES
  simp only [Bool.and_eq_true, decide_eq_true_eq]
  constructor
  · rintro ⟨h1, h2, h3, h4, h5, h6⟩; exact ⟨⟨h1, h2⟩, h3, ⟨h4, h5⟩, h6⟩
  · rintro ⟨⟨h1, h2⟩, h3, ⟨h4, h5⟩, h6⟩; exact ⟨h1, h2, h3, h4, h5, h6⟩
theorem told_eq (k m n : Nat) : toldS (k : Int) (m : Int) (n : Int) = (⟨k, m, n⟩ : Km348.Size).good := by
  rw [Bool.eq_iff_iff, good_iff]
  unfold toldS
  rw [decide_eq_true_eq]
  constructor
  · rintro ⟨⟨h1, h2, h3⟩, h4⟩
    rw [str_eq m (by omega)] at h4
    exact ⟨by show 1 ≤ k ∧ k ≤ 64; omega, by show m ≤ 32; omega, by show 1 ≤ n ∧ n ≤ 16384; omega, by omega⟩
  · rintro ⟨h1, h2, h3, h4⟩
    have h1 : 1 ≤ k ∧ k ≤ 64 := h1
    have h2 : m ≤ 32 := h2
    have h3 : 1 ≤ n ∧ n ≤ 16384 := h3
    refine ⟨⟨by omega, by omega, by omega⟩, ?_⟩
    rw [str_eq m (by omega)]
    omega
theorem div_cast (q k m : Nat) : (q : Int) / ((k : Int) + (m : Int)) = ((q / (k + m) : Nat) : Int) := by rw [Int.natCast_ediv, Int.natCast_add]
theorem mod_cast' (q k m : Nat) : (q : Int) % ((k : Int) + (m : Int)) = ((q % (k + m) : Nat) : Int) := by rw [Int.natCast_emod, Int.natCast_add]
def wrF (f : Addr) (sz po da : V) : List (Str × V) := [("field", .ref f), ("size", sz), ("polynomial", po), ("data", da)]
theorem wr_f (f : Addr) (sz po da : V) : (wrF f sz po da).lookup ("field" : Str) = some (.ref f) := by rfl
theorem wr_s (f : Addr) (sz po da : V) : (wrF f sz po da).lookup ("size" : Str) = some sz := by rfl
theorem wr_p (f : Addr) (sz po da : V) : (wrF f sz po da).lookup ("polynomial" : Str) = some po := by rfl
theorem wr_d (f : Addr) (sz po da : V) : (wrF f sz po da).lookup ("data" : Str) = some da := by rfl
theorem wr_no (f : Addr) (sz po da : V) {x : Str} (h1 : (x == ("field" : Str)) = false) (h2 : (x == ("size" : Str)) = false) (h3 : (x == ("polynomial" : Str)) = false) (h4 : (x == ("data" : Str)) = false) : (wrF f sz po da).lookup x = none := lk_miss h1 (lk_miss h2 (lk_miss h3 (lk_miss h4 rfl)))
theorem kd_wr {C dx : Addr} (f : Addr) (sz po da : V) : kd (.ins C dx (wrF f sz po da)) = 2 := by rfl
structure WOk (W : Km348.Writer) : Prop where
  good : W.size.good = true
  len : W.bytes.length = W.size.n
  lt : ∀ b ∈ W.bytes, b < 256
def WrAt (A : Ad) (H : Hp) (w : Addr) : Option Km348.Writer → Prop
  | none => ∃ dx f sz po da, H w = some (.ins A.Writer dx (wrF f sz po da)) ∧ FieldAt A H f
  | some W => ∃ dx f sz po da, H w = some (.ins A.Writer dx (wrF f (.ref sz) (.ref po) (.ref da))) ∧ FieldAt A H f ∧ SizeAt A H sz W.size.k W.size.m W.size.n ∧ PolyAt A H po (List.range W.size.k) ∧ H da = some (.lst (vN W.bytes)) ∧ WOk W
theorem WrAt.obj {A : Ad} {H : Hp} {w : Addr} {st : Option Km348.Writer} (h : WrAt A H w st) : ∃ dx f sz po da, H w = some (.ins A.Writer dx (wrF f sz po da)) ∧ FieldAt A H f := by
  cases st with
  | none => exact h
  | some W => obtain ⟨dx, f, sz, po, da, h1, h2, _⟩ := h; exact ⟨dx, f, _, _, _, h1, h2⟩
theorem WrAt.kp {A : Ad} {n : Nat} {H H' : Hp} {w : Addr} {st : Option Km348.Writer} (h : WrAt A H w st) (s : Kp n H H') (hn : n ≠ 0) (h2 : n ≠ 2) : WrAt A H' w st := by
  cases st with
  | none =>
    obtain ⟨dx, f, sz, po, da, e1, e2⟩ := h
    exact ⟨dx, f, sz, po, da, s _ _ e1 (fun z => h2 z.symm), e2.kp s hn⟩
  | some W =>
    obtain ⟨dx, f, sz, po, da, e1, e2, e3, e4, e5, e6⟩ := h
    exact ⟨dx, f, sz, po, da, s _ _ e1 (fun z => h2 z.symm), e2.kp s hn, e3.kp s hn, e4.kp s hn, s.lst hn e5, e6⟩
theorem WrAt.same {A : Ad} {H H' : Hp} {w : Addr} {st : Option Km348.Writer} (h : WrAt A H w st) (s : Same H H') : WrAt A H' w st := h.kp (n := 1) (Kp.same s) (by decide) (by decide)
def fillW (z : Km348.Size) (l : List Nat) (g i : Nat) : List Nat := ((l.drop (12 * (z.k * g + i))).take 12 ++ List.replicate 12 0).take 12
theorem fillW_eq (z : Km348.Size) (l : List Nat) (g i : Nat) : (l.drop (12 * (z.k * g + i))).take 12 ++ List.replicate (12 - ((l.drop (12 * (z.k * g + i))).take 12).length) 0 = fillW z l g i := by
  unfold fillW
  have h : ((l.drop (12 * (z.k * g + i))).take 12).length ≤ 12 := by rw [List.length_take]; omega
  generalize (l.drop (12 * (z.k * g + i))).take 12 = L at h
  rw [List.take_append, List.take_replicate, Nat.min_eq_left (by omega), List.take_of_length_le h]
theorem loads_eq (z : Km348.Size) (l : List Nat) (g : Nat) : Km348.loads z l g = (List.range z.k).map fun i => (i, fillW z l g i) := rfl
theorem loads_fst (z : Km348.Size) (l : List Nat) (g : Nat) : (Km348.loads z l g).map (·.1) = List.range z.k := by
  rw [loads_eq, List.map_map]
  exact List.map_id _
theorem loads_get {z : Km348.Size} {l : List Nat} {g i : Nat} (h : i < z.k) : (Km348.loads z l g)[i]? = some (i, fillW z l g i) := by
  rw [loads_eq, List.getElem?_map, List.getElem?_range h]; rfl
theorem loads_find {z : Km348.Size} {l : List Nat} {g i : Nat} (h : i < z.k) : Km348.loadAt (Km348.loads z l g) i = fillW z l g i :=
  loadAt_some (x := (i, fillW z l g i)) (mem_find (p := i) (by rw [loads_fst]; exact List.nodup_range) (List.mem_of_getElem? (loads_get h)) rfl)
theorem fillW_len (z : Km348.Size) (l : List Nat) (g i : Nat) : (fillW z l g i).length = 12 := by
  unfold fillW
  rw [List.length_take, List.length_append, List.length_replicate]
  omega
theorem fillW_lt {z : Km348.Size} {l : List Nat} {g i : Nat} (h : ∀ b ∈ l, b < 256) : ∀ b ∈ fillW z l g i, b < 256 := fun b hb => by
  unfold fillW at hb
  rcases List.mem_append.mp (List.mem_of_mem_take hb) with e | e
  · exact h b (List.mem_of_mem_drop (List.mem_of_mem_take e))
  · rw [(List.mem_replicate.mp e).2]; decide
theorem loads_ok {z : Km348.Size} {l : List Nat} {g : Nat} (h : ∀ b ∈ l, b < 256) : ∀ x ∈ Km348.loads z l g, x.2.length = 12 ∧ ∀ b ∈ x.2, b < 256 := fun x hx => by
  rw [loads_eq] at hx
  obtain ⟨i, _, rfl⟩ := List.mem_map.mp hx
  exact ⟨fillW_len z l g i, fillW_lt h⟩
def sp_Writer_init (A : Ad) : Sp := fun vs H Q _ => ∃ (p dx f : Addr), vs = [.ref p, .ref f] ∧ H p = some (.ins A.Writer dx []) ∧ ∀ da H', H da = none → (∀ b o, H b = some o → b ≠ p → H' b = some o) → H' p = some (.ins A.Writer dx (wrF f .non .non (.ref da))) → Q .non H'
def sp_Writer_filled_load (A : Ad) : Sp := fun vs H Q _ => ∃ (a : Addr) (W : Km348.Writer) (g i : Nat), vs = [.ref a, .int (g : Nat), .int (i : Nat)] ∧ WrAt A H a (some W) ∧ Ret H (vN (fillW W.size W.bytes g i)) Q
def sp_Writer_load_of (A : Ad) : Sp := fun vs H Q _ => ∃ (a : Addr) (W : Km348.Writer) (q : Nat), vs = [.ref a, .int (q : Nat)] ∧ WrAt A H a (some W) ∧ Ret H (vN (Km348.loadAt (Km348.loads W.size W.bytes (q / (W.size.k + W.size.m))) (q % (W.size.k + W.size.m)))) Q
def RetA (H : Hp) (l : List Int) (Q : VK) : Prop := ∀ p H', Same H H' → H' p = some (.lst (l.map V.int)) → Q (.ref p) H'
def ansStrand (W : Km348.Writer) (q : Nat) : List Int := if W.size.strands ≤ q then [-2] else 0 :: (Km348.writtenAs (Km348.written W.size W.bytes q)).map fun n : Nat => (n : Int)
def sp_Writer_strand (A : Ad) : Sp := fun vs H Q _ => ∃ (a : Addr) (W : Km348.Writer) (q : Nat), vs = [.ref a, .int (q : Nat)] ∧ WrAt A H a (some W) ∧ RetA H (ansStrand W q) Q
def sp_Writer_begin (A : Ad) : Sp := fun vs H Q _ => ∃ (a da : Addr) (st : Option Km348.Writer) (k m : Nat) (l : List Nat), vs = [.ref a, .int (k : Nat), .int (m : Nat), .ref da] ∧ WrAt A H a st ∧ H da = some (.lst (vN l)) ∧ (∀ b ∈ l, b < 256) ∧
  ∀ p H', Kp 2 H H' → WrAt A H' a (if (⟨k, m, l.length⟩ : Km348.Size).good = true then some ⟨⟨k, m, l.length⟩, l⟩ else st) → H' p = some (.lst [.int (if (⟨k, m, l.length⟩ : Km348.Size).good = true then (((⟨k, m, l.length⟩ : Km348.Size).strands : Nat) : Int) else -22)]) → Q (.ref p) H'
section
variable {P : Program} {w : World} {K : PySem.W.Frag} {mg : Str → Option Value} {base : Heap} {A : Ad} {f : Addr} {fd : FuncData}
abbrev st_Writer_init : Stmt := (inClass (top 58) 0)
theorem sc_Writer_init : FnScope ["self", "field"] ["self", "field"] (defScope st_Writer_init) := ⟨rfl, rfl, rfl, by decide +kernel, rfl, by decide +kernel, by decide +kernel⟩
abbrev ps_Writer_init : List Str := ["self", "field"]
theorem ok_Writer_init (F : Fun K "__init__" "Writer.__init__" st_Writer_init f fd) (T : Txt K mg A) : FnOk P w K mg base CX0 1 f fd ps_Writer_init (sp_Writer_init A) := by
  refine F.ok sc_Writer_init (fun vs H Q E h => ?_) (fun cdv Ar outer s H vs Q E hr h => ?_)
  · obtain ⟨p, dx, f, rfl, _⟩ := h
    rfl
  · obtain ⟨p, dx, f, rfl, hp, q⟩ := h
    refine ⟨_, (pss_cons (ps_fld (pv 0) (pv 1) rfl)
      (pss_cons (ps_fld (pv 0) pe_non rfl)
      (pss_cons (ps_fld (pv 0) pe_non rfl)
      (pss_one (ps_fld (pv 0) (pe_lst pa_nil) rfl))))), ?_⟩
    refine ⟨_, rfl, _, rfl, p, A.Writer, dx, _, rfl, hp, T.cl_Writer, T.na_Writer_field, (by show 0 < 1000; decide), ?_⟩
    refine ⟨_, rfl, p, A.Writer, dx, _, rfl, upd_same, T.cl_Writer, T.na_Writer_size, (by show 1 < 1000; decide), ?_⟩
    refine ⟨_, rfl, p, A.Writer, dx, _, rfl, upd_same, T.cl_Writer, T.na_Writer_polynomial, (by show 2 < 1000; decide), ?_⟩
    rw [upd_upd, upd_upd]
    refine ⟨Nat.zero_le _, fun da hd => ?_⟩
    obtain ⟨hd1, dp⟩ := none_upd hd
    refine ⟨_, rfl, p, A.Writer, dx, _, rfl, (by rw [upd_ne (Ne.symm dp)]; exact upd_same), T.cl_Writer, T.na_Writer_data, (by show 3 < 1000; decide), ?_⟩
    refine q da _ hd1 (fun b o e hb => ?_) upd_same
    rw [upd_ne hb, upd_ne (ne_of_none e hd1), upd_ne hb]
    exact e
abbrev st_Writer_filled_load : Stmt := (inClass (top 58) 4)
theorem sc_Writer_filled_load : FnScope ["self", "group", "place", "first", "load"] ["self", "group", "place"] (defScope st_Writer_filled_load) := ⟨rfl, rfl, rfl, by decide +kernel, rfl, by decide +kernel, by decide +kernel⟩
abbrev ps_Writer_filled_load : List Str := ["self", "group", "place"]
theorem ok_Writer_filled_load (F : Fun K "filled_load" "Writer.filled_load" st_Writer_filled_load f fd) (T : Txt K mg A) : FnOk P w K mg base CX0 1 f fd ps_Writer_filled_load (sp_Writer_filled_load A) := by
  refine F.ok sc_Writer_filled_load (fun vs H Q E h => ?_) (fun cdv Ar outer s H vs Q E hr h => ?_)
  · obtain ⟨a, W, g, i, rfl, _⟩ := h
    rfl
  · obtain ⟨a, W, g, i, rfl, hW, q⟩ := h
    obtain ⟨dx, fa, sz, po, da, h1, h2, ⟨dx2, h3⟩, h4, h5, h6⟩ := hW
    obtain ⟨hk, hm, hn, hS⟩ := good_iff.mp h6.good
    refine ⟨_, (pss_cons (ps_set (i := 3) (sc_Writer_filled_load).nd rfl (by first | exact Or.inl rfl | exact Or.inr rfl) (pe_op op_mul (g_int T.c_LOAD_LENGTH) (pe_op op_add (pe_op op_mul (pe_fld (pe_fld (pv 0) rfl) rfl) (pv 1)) (pv 2))))
      (pss_cons (ps_set (i := 4) (sc_Writer_filled_load).nd rfl (by first | exact Or.inl rfl | exact Or.inr rfl) (pe_slice sl_list (pe_fld (pv 0) rfl) (po_some (pv 3)) (po_some (pe_op op_add (pv 3) (g_int T.c_LOAD_LENGTH)))))
      (pss_one (ps_ret (pe_op op_cat (pv 4) (pe_op op_rep (pe_lst (pa_cons pe_int pa_nil)) (pe_op op_sub (g_int T.c_LOAD_LENGTH) (pe_callB call_len_seq rfl T.b_len PySem.boot_len (pa_cons (pv 4) pa_nil))))))))), ?_⟩
    refine ⟨_, rfl, a, A.Writer, dx, _, _, rfl, h1, T.cl_Writer, T.na_Writer_size, wr_s fa _ _ _, sz, A.Size, dx2, _, _, rfl, h3, T.cl_Size, T.na_Size_k, sz_k _ _ _, _, rfl, _, _, rfl, rfl, .inl (by omega), _, rfl, _, _, rfl, rfl, _, _, rfl, rfl, .inl (by decide), ?_⟩
    have e1 : (12 : Int) * ((W.size.k : Int) * (g : Int) + (i : Int)) = ((12 * (W.size.k * g + i) : Nat) : Int) := by
      rw [Int.natCast_mul, Int.natCast_add, Int.natCast_mul]; rfl
    dsimp only
    rw [e1]
    refine ⟨_, rfl, a, A.Writer, dx, _, _, rfl, h1, T.cl_Writer, T.na_Writer_data, wr_d fa _ _ _, _, rfl, _, rfl, _, rfl, _, _, rfl, rfl, _, rfl, da, _, rfl, SqL.of h5, fun c hc => ?_⟩
    have ec : cutV (vN W.bytes) (some ((12 * (W.size.k * g + i) : Nat) : Int)) (some (((12 * (W.size.k * g + i) : Nat) : Int) + 12)) = vN ((W.bytes.drop (12 * (W.size.k * g + i))).take 12) := by
      rw [show ((12 * (W.size.k * g + i) : Nat) : Int) + 12 = ((12 * (W.size.k * g + i) + 12 : Nat) : Int) by omega, cut_nat, show 12 * (W.size.k * g + i) + 12 - 12 * (W.size.k * g + i) = 12 by omega]
      unfold vN
      rw [List.map_take, List.map_drop]
    dsimp only
    rw [ec]
    rw [← fillW_eq] at q
    generalize hL : (W.bytes.drop (12 * (W.size.k * g + i))).take 12 = L at q
    have lL : L.length ≤ 12 := by rw [← hL, List.length_take]; omega
    have s1 := same_upd (o := .lst (vN L)) hc
    refine ⟨_, rfl, (by show 1 ≤ sizeLine; decide), fun z hz => ?_⟩
    have s2 := Same.upd (o := .lst [V.int 0]) s1 (s1.free hz)
    have cz : c ≠ z := ne_of_none upd_same hz
    have ec2 : (upd (upd H c (.lst (vN L))) z (.lst [V.int 0])) c = some (.lst (vN L)) := by rw [upd_ne cz]; exact upd_same
    refine ⟨_, rfl, c, _, rfl, .inl (SqL.of ec2), _, _, rfl, rfl, z, _, _, rfl, rfl, upd_same, ?_⟩
    rw [vN_len]
    have e2 : ((12 : Int) - (L.length : Int)).toNat = 12 - L.length := by omega
    rw [e2]
    refine ⟨by omega, by omega, ?_, fun r hr' => ?_⟩
    · exact Nat.le_trans (show 1 * (12 - L.length) ≤ 12 by omega) (by decide)
    have s3 := Same.upd (o := .lst (List.replicate (12 - L.length) [V.int 0]).flatten) s2 (s2.free hr')
    have cr : c ≠ r := ne_of_none ec2 hr'
    have er : (List.replicate (12 - L.length) [V.int 0]).flatten = vN (List.replicate (12 - L.length) 0) := by
      generalize 12 - L.length = t
      induction t with
      | zero => rfl
      | succ t ih => rw [List.replicate_succ, List.flatten_cons, ih, List.replicate_succ]; rfl
    refine ⟨c, r, _, _, rfl, rfl, (by rw [upd_ne cr]; exact ec2), upd_same, ?_, fun p hp => ?_⟩
    · rw [er, vN_len, vN_len, List.length_replicate]
      exact Nat.le_trans (show _ ≤ 12 by omega) (by decide)
    · exact q p _ (s3.free hp) (Same.upd s3 (s3.free hp)) (by rw [upd_same, er, ← vN_app])
abbrev st_Writer_load_of : Stmt := (inClass (top 58) 3)
theorem sc_Writer_load_of : FnScope ["self", "number", "group", "place", "loads", "filled"] ["self", "number"] (defScope st_Writer_load_of) := ⟨rfl, rfl, rfl, by decide +kernel, rfl, by decide +kernel, by decide +kernel⟩
abbrev ps_Writer_load_of : List Str := ["self", "number"]
theorem ok_Writer_load_of (F : Fun K "load_of" "Writer.load_of" st_Writer_load_of f fd) (T : Txt K mg A)
    (M_Size_group_of : Mth P w K mg base A.Size "group_of" 2 ps_Size_group_of (sp_Size_group_of A))
    (M_Size_place_of : Mth P w K mg base A.Size "place_of" 2 ps_Size_place_of (sp_Size_place_of A))
    (M_Writer_filled_load : Mth P w K mg base A.Writer "filled_load" 1 ps_Writer_filled_load (sp_Writer_filled_load A))
    (M_Polynomial_load_at : Mth P w K mg base A.Polynomial "load_at" 3 ps_Polynomial_load_at (sp_Polynomial_load_at A)) :
    FnOk P w K mg base CX0 4 f fd ps_Writer_load_of (sp_Writer_load_of A) := by
  refine F.ok sc_Writer_load_of (fun vs H Q E h => ?_) (fun cdv Ar outer s H vs Q E hr h => ?_)
  · obtain ⟨a, W, q, rfl, _⟩ := h
    rfl
  · obtain ⟨a, W, z, rfl, hW, q⟩ := h
    obtain ⟨dx, fa, sz, po, da, h1, h2, ⟨dx2, h3⟩, h4, h5, h6⟩ := id hW
    obtain ⟨hk, hm, hn, hS⟩ := good_iff.mp h6.good
    have wno : ∀ {x : Str}, (x == ("field" : Str)) = false → (x == ("size" : Str)) = false → (x == ("polynomial" : Str)) = false → (x == ("data" : Str)) = false → (wrF fa (.ref sz) (.ref po) (.ref da)).lookup x = none := fun h1 h2 h3 h4 => wr_no fa _ _ _ h1 h2 h3 h4
    refine ⟨_, (pss_cons (ps_set (i := 2) (sc_Writer_load_of).nd rfl (by first | exact Or.inl rfl | exact Or.inr rfl) (m_call M_Size_group_of hr (pe_fld (pv 0) rfl) (pa_cons (pv 1) pa_nil)))
      (pss_cons (ps_set (i := 3) (sc_Writer_load_of).nd rfl (by first | exact Or.inl rfl | exact Or.inr rfl) (m_call M_Size_place_of hr (pe_fld (pv 0) rfl) (pa_cons (pv 1) pa_nil)))
      (pss_cons (ps_if (pt_cmpR op_lt (pv 3) (pe_fld (pe_fld (pv 0) rfl) rfl) (nomark _)) (pss_one (ps_ret (m_call M_Writer_filled_load hr (pv 0) (pa_cons (pv 2) (pa_cons (pv 3) pa_nil))))) pss_nil)
      (pss_cons (ps_setLc rfl (sc_Writer_load_of).nd (i := 4) rfl rfl (sw_true rfl rfl rfl rfl) (pi_range1 rfl T.b_range (pa_cons (pe_fld (pe_fld (pv 0) rfl) rfl) pa_nil)) (blkOk_by (own := [("filled", 5)]) (by kernel_rfl)) (bg_name (sc_Writer_load_of).nd (i := 5) rfl rfl) (fun _ _ _ _ _ => pts_nil) (fun _ _ _ _ _ => (m_call M_Writer_filled_load hr (pv 0) (pa_cons (pv 2) (pa_cons (pv 5) pa_nil)))))
      (pss_one (ps_ret (m_call M_Polynomial_load_at hr (pe_fld (pv 0) rfl) (pa_cons (pv 3) (pa_cons (pv 4) pa_nil))))))))), ?_⟩
    refine ⟨_, rfl, a, A.Writer, dx, _, _, rfl, h1, T.cl_Writer, T.na_Writer_size, wr_s fa _ _ _, sz, dx2, _, rfl, h3, sz_no _ _ _ (by decide) (by decide) (by decide), _, rfl, sz, _, _, _, _, rfl, ⟨dx2, h3⟩, (by omega), (by omega), ?_⟩
    refine ⟨_, rfl, a, A.Writer, dx, _, _, rfl, h1, T.cl_Writer, T.na_Writer_size, wr_s fa _ _ _, sz, dx2, _, rfl, h3, sz_no _ _ _ (by decide) (by decide) (by decide), _, rfl, sz, _, _, _, _, rfl, ⟨dx2, h3⟩, (by omega), (by omega), ?_⟩
    rw [div_cast, mod_cast']
    generalize z / (W.size.k + W.size.m) = G at q
    have hp96 : z % (W.size.k + W.size.m) < 96 := Nat.lt_of_lt_of_le (Nat.mod_lt _ (by omega)) (by omega)
    generalize z % (W.size.k + W.size.m) = pl at q hp96
    refine ⟨_, rfl, _, rfl, a, A.Writer, dx, _, _, rfl, h1, T.cl_Writer, T.na_Writer_size, wr_s fa _ _ _, sz, A.Size, dx2, _, _, rfl, h3, T.cl_Size, T.na_Size_k, sz_k _ _ _, _, _, rfl, rfl, _, rfl, rd_and (fun c => ?_) (fun c => ?_)⟩
    · refine ⟨_, rfl, a, dx, _, rfl, h1, wno (by decide) (by decide) (by decide) (by decide), _, rfl, _, rfl, a, W, G, pl, rfl, hW, ?_⟩
      rw [loads_find (by omega)] at q
      exact q
    · refine ⟨_, rfl, a, A.Writer, dx, _, _, rfl, h1, T.cl_Writer, T.na_Writer_size, wr_s fa _ _ _, sz, A.Size, dx2, _, _, rfl, h3, T.cl_Size, T.na_Size_k, sz_k _ _ _, (W.size.k : Int), rfl, by omega, by omega, ?_⟩
      rw [Int.toNat_natCast]
      refine lc_rngP (lo := 0) (n := W.size.k) (i := 5) (fun m acc D H' => ∃ as : List Addr, acc = as.map V.ref ∧ ∀ (j : Nat) (la : Addr), as[j]? = some la → la ≠ D ∧ H' la = some (.lst (vN (fillW W.size W.bytes G j)))) (Nat.lt_of_le_of_lt hk.2 (by decide)) (fun D hD => ⟨[], rfl, fun j la h => by simp at h⟩) (by intros; rfl) ?_ ?_
      · rintro m acc D H' Qe Qf hmk hD s5 la5 e5 ⟨as, rfl, c5⟩ k1
        have em : (0 : Int) + (m : Nat) = ((m : Nat) : Int) := by omega
        rw [em]
        refine ⟨_, rfl, a, dx, _, rfl, s5 _ _ h1, wno (by decide) (by decide) (by decide) (by decide), _, rfl, _, rfl, a, W, G, m, rfl, hW.same s5, fun p H4 hp s4 e4 => ?_⟩
        refine k1 _ _ s4 ⟨as ++ [p], by rw [List.map_append]; rfl, fun j la hj => ?_⟩
        have pD : p ≠ D := fun z => by rw [z, e5] at hp; cases hp
        rw [List.length_map] at la5
        by_cases cj : j < as.length
        · rw [List.getElem?_append_left cj] at hj
          obtain ⟨a1, a2⟩ := c5 j la hj
          exact ⟨a1, by rw [upd_ne a1]; exact s4 _ _ a2⟩
        · rw [List.getElem?_append_right (by omega)] at hj
          have ej : j = m := by
            have := (List.getElem?_eq_some_iff.mp hj).1
            simp at this
            omega
          subst ej
          rw [la5, Nat.sub_self] at hj
          have hj : p = la := Option.some.inj hj
          rw [← hj]
          exact ⟨pD, by rw [upd_ne pD]; exact e4⟩
      · rintro D H' acc hD s5 la5 e5 ⟨as, rfl, c5⟩
        rw [List.length_map] at la5
        have h4' := h4.same s5
        obtain ⟨dxp, fp, plp, dp, hx, _⟩ := id h4'.ex
        refine ⟨_, rfl, a, A.Writer, dx, _, _, rfl, s5 _ _ h1, T.cl_Writer, T.na_Writer_polynomial, wr_p fa _ _ _, po, dxp, _, rfl, hx, py_no fp plp dp (by decide) (by decide) (by decide), _, rfl, _, rfl, po, D, as, Km348.loads W.size W.bytes G, pl, rfl, (by rw [loads_fst]; exact h4'), (by omega), (by rw [loads_fst, List.mem_range]; omega), e5, ?_, ?_, loads_ok h6.lt, ?_⟩
        · rw [la5, loads_eq, List.length_map, List.length_range]
        · intro i la x hi hx
          have hik : i < W.size.k := by rw [← la5]; exact (List.getElem?_eq_some_iff.mp hi).1
          rw [loads_get hik] at hx
          rw [← Option.some.inj hx]
          exact (c5 i la hi).2
        · rw [loadAt_none (by rw [loads_fst, List.mem_range]; omega)] at q
          exact fun p H4 hp s4 e4 => q p H4 (s5.free hp) (s5.trans s4) e4
abbrev st_Writer_strand : Stmt := (inClass (top 58) 2)
theorem sc_Writer_strand : FnScope ["self", "number"] ["self", "number"] (defScope st_Writer_strand) := ⟨rfl, rfl, rfl, by decide +kernel, rfl, by decide +kernel, by decide +kernel⟩
abbrev ps_Writer_strand : List Str := ["self", "number"]
theorem ok_Writer_strand (F : Fun K "strand" "Writer.strand" st_Writer_strand f fd) (T : Txt K mg A)
    (M_Size_strand_count : Mth P w K mg base A.Size "strand_count" 2 ps_Size_strand_count (sp_Size_strand_count A))
    (M_Writer_load_of : Mth P w K mg base A.Writer "load_of" 4 ps_Writer_load_of (sp_Writer_load_of A))
    (G_strand_letters : Glb P w K mg base "strand_letters" 3 ps_strand_letters (sp_strand_letters K)) :
    FnOk P w K mg base CX0 5 f fd ps_Writer_strand (sp_Writer_strand A) := by
  refine F.ok sc_Writer_strand (fun vs H Q E h => ?_) (fun cdv Ar outer s H vs Q E hr h => ?_)
  · obtain ⟨a, W, q, rfl, _⟩ := h
    rfl
  · obtain ⟨a, W, z, rfl, hW, q⟩ := h
    obtain ⟨dx, fa, sz, po, da, h1, h2, ⟨dx2, h3⟩, h4, h5, h6⟩ := id hW
    obtain ⟨hk, hm, hn, hS⟩ := good_iff.mp h6.good
    refine ⟨_, (pss_cons (ps_if (pt_cmpR op_ge (pv 1) (m_call0 M_Size_strand_count hr (pe_fld (pv 0) rfl)) (nomark _)) (pss_one (ps_ret (pe_lst (pa_cons (g_int T.c_NO_STRAND) pa_nil)))) pss_nil)
      (pss_one (ps_ret (pe_op op_cat (pe_lst (pa_cons pe_int pa_nil)) (g_call G_strand_letters hr (pa_cons (pv 1) (pa_cons (m_call M_Writer_load_of hr (pv 0) (pa_cons (pv 1) pa_nil)) pa_nil))))))), ?_⟩
    refine ⟨_, rfl, _, rfl, a, A.Writer, dx, _, _, rfl, h1, T.cl_Writer, T.na_Writer_size, wr_s fa _ _ _, sz, dx2, _, rfl, h3, sz_no _ _ _ (by decide) (by decide) (by decide), sz, _, _, _, rfl, ⟨dx2, h3⟩, (by omega), (by omega), _, _, rfl, rfl, _, rfl, ?_⟩
    rw [str_eq W.size.m hk.1]
    refine rd_and (fun c => ?_) (fun c => ?_)
    · refine ⟨(by show 1 ≤ sizeLine; decide), fun p hp => q p _ (same_upd hp) ?_⟩
      rw [upd_same]
      unfold ansStrand
      rw [if_pos (by have : (⟨W.size.k, W.size.m, W.size.n⟩ : Km348.Size) = W.size := rfl; rw [this] at c; omega)]
      rfl
    · have c' : ¬ W.size.strands ≤ z := by have : (⟨W.size.k, W.size.m, W.size.n⟩ : Km348.Size) = W.size := rfl; rw [this] at c; omega
      refine ⟨(by show 1 ≤ sizeLine; decide), fun o ho => ?_⟩
      have s1 := same_upd (o := .lst [V.int 0]) ho
      refine ⟨_, rfl, _, rfl, a, dx, _, rfl, s1 _ _ h1, wr_no fa _ _ _ (by decide) (by decide) (by decide) (by decide), _, rfl, a, W, z, rfl, hW.same s1, fun p2 H2 hp2 s2 e2 => ?_⟩
      have ok := loadAt_ok (loads_ok (z := W.size) (l := W.bytes) (g := z / (W.size.k + W.size.m)) h6.lt) (z % (W.size.k + W.size.m))
      refine ⟨p2, z, _, rfl, (by omega), SqL.of e2, e2, ok.1, ok.2, fun p3 H3 hp3 s3 e3 => ?_⟩
      have eo : H3 o = some (.lst [V.int 0]) := s3 _ _ (s2 _ _ upd_same)
      refine ⟨o, p3, _, _, rfl, rfl, eo, e3, ?_, fun p hp => q p _ (Same.upd (s1.trans (s2.trans s3)) ((s1.trans (s2.trans s3)).free hp)) ?_⟩
      · rw [vN_len]
        unfold Km348.writtenAs Km348.strand
        rw [List.length_map, List.length_map, List.length_zip]
        have bl : ∀ t, (Km348.balanced (Km348.place t 1 Km348.LETTERS)).length = 64 := fun t => by
          show (Km348.balanced (Km348.place t 1 64)).length = 64
          rw [balanced_eq, bal_len, place_len]
        rw [bl, bl]
        decide
      · rw [upd_same]
        unfold ansStrand
        rw [if_neg c', vN_int]
        rfl
abbrev st_Writer_begin : Stmt := (inClass (top 58) 1)
theorem sc_Writer_begin : FnScope ["self", "k", "m", "data", "size"] ["self", "k", "m", "data"] (defScope st_Writer_begin) := ⟨rfl, rfl, rfl, by decide +kernel, rfl, by decide +kernel, by decide +kernel⟩
abbrev ps_Writer_begin : List Str := ["self", "k", "m", "data"]
theorem ok_Writer_begin (F : Fun K "begin" "Writer.begin" st_Writer_begin f fd) (T : Txt K mg A)
    (K_Size : Mak P w K mg base A.Size "Size" 1 ps_Size_init (sp_Size_init A))
    (M_Size_is_as_told : Mth P w K mg base A.Size "is_as_told" 3 ps_Size_is_as_told (sp_Size_is_as_told A))
    (M_Size_strand_count : Mth P w K mg base A.Size "strand_count" 2 ps_Size_strand_count (sp_Size_strand_count A))
    (K_Polynomial : Mak P w K mg base A.Polynomial "Polynomial" 2 ps_Polynomial_init (sp_Polynomial_init A)) :
    FnOk P w K mg base CX0 4 f fd ps_Writer_begin (sp_Writer_begin A) := by
  refine F.ok sc_Writer_begin (fun vs H Q E h => ?_) (fun cdv Ar outer s H vs Q E hr h => ?_)
  · obtain ⟨a, da, st, k, m, l, rfl, _⟩ := h
    rfl
  · obtain ⟨a, da, st, k, m, l, rfl, hW, hda, hlt, q⟩ := h
    obtain ⟨dx, fa, sv, pv', dv, h1, h2⟩ := hW.obj
    refine ⟨_, (pss_cons (ps_set (i := 4) (sc_Writer_begin).nd rfl (by first | exact Or.inl rfl | exact Or.inr rfl) (k_make K_Size hr (pa_cons (pv 1) (pa_cons (pv 2) (pa_cons (pe_callB call_len_seq rfl T.b_len PySem.boot_len (pa_cons (pv 3) pa_nil)) pa_nil)))))
      (pss_cons (ps_if (pt_not (pt_val (m_call0 M_Size_is_as_told hr (pv 4)))) (pss_one (ps_ret (pe_lst (pa_cons (g_int T.c_WRONG_SIZE) pa_nil)))) pss_nil)
      (pss_cons (ps_fld (pv 0) (pv 4) rfl)
      (pss_cons (ps_fld (pv 0) (k_make K_Polynomial hr (pa_cons (pe_fld (pv 0) rfl) (pa_cons (pe_listrange rfl rfl T.b_list T.b_range (pa_cons (pv 1) pa_nil)) pa_nil))) rfl)
      (pss_cons (ps_fld (pv 0) (pv 3) rfl)
      (pss_one (ps_ret (pe_lst (pa_cons (m_call0 M_Size_strand_count hr (pv 4)) pa_nil))))))))), ?_⟩
    refine ⟨_, rfl, _, rfl, _, rfl, da, _, rfl, .inl (SqL.of hda), ?_⟩
    rw [vN_len]
    intro x xd nx nxd nex
    have s1 : Same H (upd (upd H xd (.own x)) x (.ins A.Size xd [])) := Same.upd (same_upd nxd) nx
    refine ⟨x, xd, _, _, _, rfl, upd_same, ⟨rfl, ?_⟩⟩
    rw [upd_upd]
    have s2 : Same H (upd (upd H xd (.own x)) x (.ins A.Size xd (szF k m l.length))) := Same.upd (same_upd nxd) nx
    have ex : (upd (upd H xd (.own x)) x (.ins A.Size xd (szF k m l.length))) x = some (.ins A.Size xd (szF k m l.length)) := upd_same
    generalize upd (upd H xd (.own x)) x (.ins A.Size xd (szF k m l.length)) = H2 at s2 ex
    refine ⟨_, rfl, x, xd, _, rfl, ex, sz_no _ _ _ (by decide) (by decide) (by decide), x, _, _, _, rfl, ⟨xd, ex⟩, _, rfl, ?_⟩
    rw [told_eq]
    cases hg : (⟨k, m, l.length⟩ : Km348.Size).good with
    | false =>
      refine iteT ⟨(by show 1 ≤ sizeLine; decide), fun p hp => ?_⟩
      have s3 := Same.upd (o := .lst [V.int (-22)]) s2 (s2.free hp)
      rw [hg, if_neg Bool.false_ne_true, if_neg Bool.false_ne_true] at q
      exact q p _ (Kp.same s3) (hW.same s3) upd_same
    | true =>
      obtain ⟨hk, hm, hn, hS⟩ := good_iff.mp hg
      have hk : 1 ≤ k ∧ k ≤ 64 := hk
      have hm : m ≤ 32 := hm
      rw [hg, if_pos rfl, if_pos rfl] at q
      refine iteF ?_
      have h1a := s2 _ _ h1
      have ax : a ≠ x := fun z => by rw [z, nx] at h1; cases h1
      refine ⟨_, rfl, _, rfl, a, A.Writer, dx, _, rfl, h1a, T.cl_Writer, T.na_Writer_size, (by show 4 < 1000; decide), ?_⟩
      have k3 : Kp 2 H2 (upd H2 a (.ins A.Writer dx (putF "size" (.ref x) (wrF fa sv pv' dv)))) := Kp.upd Kp.refl h1a (kd_wr fa _ _ _)
      have e3 : (upd H2 a (.ins A.Writer dx (putF "size" (.ref x) (wrF fa sv pv' dv)))) a = some (.ins A.Writer dx (wrF fa (.ref x) pv' dv)) := upd_same
      generalize upd H2 a (.ins A.Writer dx (putF "size" (.ref x) (wrF fa sv pv' dv))) = H3 at k3 e3
      refine ⟨_, rfl, a, A.Writer, dx, _, _, rfl, e3, T.cl_Writer, T.na_Writer_field, wr_f fa _ _ _, _, rfl, k, rfl, (by omega), fun r hr' => ?_⟩
      have s4 := same_upd (o := .lst (vN (List.range k))) hr'
      intro y yd ny nyd ney
      have s5 : Same (upd H3 r (.lst (vN (List.range k)))) (upd (upd (upd H3 r (.lst (vN (List.range k)))) yd (.own y)) y (.ins A.Polynomial yd [])) := Same.upd (same_upd nyd) ny
      have f3 : FieldAt A H3 fa := (h2.same s2).kp k3 (by decide)
      refine ⟨y, yd, fa, r, List.range k, rfl, upd_same, (f3.same s4).same s5, s5 _ _ upd_same, (fun v hv => by have := List.mem_range.mp hv; omega), List.nodup_range, (by rw [List.length_range]; omega), fun H5 PA kb => ⟨rfl, ?_⟩⟩
      have s6 : Same H3 H5 := s4.trans (Same.made ny nyd kb)
      have e6 := s6 _ _ e3
      refine ⟨_, rfl, a, A.Writer, dx, _, rfl, e6, T.cl_Writer, T.na_Writer_polynomial, (by show 4 < 1000; decide), ?_⟩
      have k7 : Kp 2 H5 (upd H5 a (.ins A.Writer dx (putF "polynomial" (.ref y) (wrF fa (.ref x) pv' dv)))) := Kp.upd Kp.refl e6 (kd_wr fa _ _ _)
      refine ⟨_, rfl, _, rfl, a, A.Writer, dx, _, rfl, upd_same, T.cl_Writer, T.na_Writer_data, (by show 4 < 1000; decide), ?_⟩
      rw [upd_upd]
      have k8 : Kp 2 H5 (upd H5 a (.ins A.Writer dx (putF "data" (.ref da) (putF "polynomial" (.ref y) (wrF fa (.ref x) pv' dv))))) := Kp.upd Kp.refl e6 (kd_wr fa _ _ _)
      have e8 : (upd H5 a (.ins A.Writer dx (putF "data" (.ref da) (putF "polynomial" (.ref y) (wrF fa (.ref x) pv' dv))))) a = some (.ins A.Writer dx (wrF fa (.ref x) (.ref y) (.ref da))) := upd_same
      generalize upd H5 a (.ins A.Writer dx (putF "data" (.ref da) (putF "polynomial" (.ref y) (wrF fa (.ref x) pv' dv)))) = H8 at k8 e8
      have kA : Kp 2 H2 H8 := (k3.trans (Kp.same s6)).trans k8
      have ex8 : H8 x = some (.ins A.Size xd (szF k m l.length)) := kA _ _ ex (fun z => by cases z)
      refine ⟨_, rfl, x, xd, _, rfl, ex8, sz_no _ _ _ (by decide) (by decide) (by decide), x, _, _, _, rfl, ⟨xd, ex8⟩, (by omega), (by omega), (by show 1 ≤ sizeLine; decide), fun p hp => ?_⟩
      have s9 := same_upd (o := .lst [V.int (grp (k : Int) (l.length : Int) * ((k : Int) + (m : Int)))]) hp
      refine q p _ (((Kp.same s2).trans kA).trans (Kp.same s9)) ?_ ?_
      · refine WrAt.same ?_ s9
        exact ⟨dx, fa, x, y, da, e8, ((f3.same s6).kp k8 (by decide)), ⟨xd, ex8⟩, PA.kp k8 (by decide), kA.lst (by decide) (s2 _ _ hda), ⟨hg, rfl, hlt⟩⟩
      · rw [upd_same, str_eq m hk.1]
end
end SS
end
section
set_option maxRecDepth 100000
set_option maxHeartbeats 2000000
namespace SS
open PySem PySem.Spec PyProof.Rows L2
def sp_may_be_mended (K : PySem.W.Frag) : Sp := fun vs H Q _ => ∃ (a : Addr) (l : List Nat), vs = [.ref a] ∧ SqL K H a (vN l) ∧ l.length ≤ 1000000 ∧ ∀ H', Same H H' → Q (.bl (decide (63 ≤ l.length ∧ l.length ≤ 65) && l.all isL)) H'
def RetL (H : Hp) (ls : List (List Nat)) (Q : VK) : Prop := ∀ (p : Addr) (as : List Addr) (H' : Hp), Same H H' → H' p = some (.lst (as.map V.ref)) → as.length = ls.length → (∀ (i : Nat) (a : Addr) (t : List Nat), as[i]? = some a → ls[i]? = some t → H' a = some (.lst (vN t))) → Q (.ref p) H'
def sp_tries_at (K : PySem.W.Frag) : Sp := fun vs H Q _ => ∃ (a : Addr) (l : List Nat) (i : Nat), vs = [.ref a, .int (1 + (i : Nat))] ∧ SqL K H a (vN l) ∧ (63 ≤ l.length ∧ l.length ≤ 65) ∧ i < max l.length 64 ∧ RetL H (tries l i) Q
def sp_right_row_at (K : PySem.W.Frag) : Sp := fun vs H Q _ => ∃ (a : Addr) (l : List Nat) (i : Nat), vs = [.ref a, .int (1 + (i : Nat))] ∧ SqL K H a (vN l) ∧ Bits l ∧ (63 ≤ l.length ∧ l.length ≤ 65) ∧ i < max l.length 64 ∧ RetS H (rowAt l i) Q
def sp_mended_content (K : PySem.W.Frag) : Sp := fun vs H Q _ => ∃ (a : Addr) (l s : List Nat), vs = [.ref a] ∧ SqL K H a (vN l) ∧ (63 ≤ l.length ∧ l.length ≤ 65) ∧ Km348.readAs l = some s ∧ RetS H (mendedC s) Q
theorem find_at {α : Type} {p : α → Bool} : ∀ {l : List α} {m : Nat} {t : α}, l[m]? = some t → p t = true → (∀ j x, j < m → l[j]? = some x → p x = false) → l.find? p = some t
  | [], m, t, h, _, _ => by simp at h
  | a :: l, 0, t, h, hp, _ => by
    have h : a = t := Option.some.inj h
    subst h
    rw [List.find?_cons, hp]
  | a :: l, m + 1, t, h, hp, hn => by
    rw [List.find?_cons, hn 0 a (by omega) rfl]
    exact find_at (l := l) (m := m) h hp fun j x hj hx => hn (j + 1) x (by omega) hx
theorem find_no {α : Type} {p : α → Bool} {l : List α} (h : ∀ j x, j < l.length → l[j]? = some x → p x = false) : l.find? p = none := by
  rw [List.find?_eq_none]
  intro x hx
  obtain ⟨j, hj⟩ := List.mem_iff_getElem?.mp hx
  rw [h j x (List.getElem?_eq_some_iff.mp hj).1 hj]
  exact Bool.false_ne_true
theorem vN_take (l : List Nat) (n : Nat) : (vN l).take n = vN (l.take n) := by unfold vN; rw [List.map_take]
theorem vN_drop (l : List Nat) (n : Nat) : (vN l).drop n = vN (l.drop n) := by unfold vN; rw [List.map_drop]
theorem tries_65 {l : List Nat} {i : Nat} (h : l.length = 65) : tries l i = [Km348.dropAt l i] := by unfold tries; rw [if_pos h]
theorem tries_63 {l : List Nat} {i : Nat} (h : l.length = 63) : tries l i = [l.take i ++ [0] ++ l.drop i, l.take i ++ [1] ++ l.drop i] := by
  unfold tries Km348.putAt
  rw [if_neg (by omega), if_pos h, List.append_assoc, List.append_assoc]; rfl
theorem tries_64 {l : List Nat} {i : Nat} (h : l.length = 64) (hi : i < 64) : tries l i = [l.take i ++ [0] ++ l.drop (i + 1), l.take i ++ [1] ++ l.drop (i + 1)] := by
  unfold tries
  rw [if_neg (by omega), if_neg (by omega), List.set_eq_take_append_cons_drop, List.set_eq_take_append_cons_drop, if_pos (by omega), if_pos (by omega), List.append_assoc, List.append_assoc]; rfl
section
variable {P : Program} {w : World} {K : PySem.W.Frag} {mg : Str → Option Value} {base : Heap} {A : Ad} {f : Addr} {fd : FuncData}
abbrev st_strand_content : Stmt := (top 36)
theorem sc_strand_content : FnScope ["upper_row", "lower_row", "upper_bits", "lower_bits"] ["upper_row", "lower_row"] (defScope st_strand_content) := ⟨rfl, rfl, rfl, by decide +kernel, rfl, by decide +kernel, by decide +kernel⟩
abbrev ps_strand_content : List Str := ["upper_row", "lower_row"]
theorem ok_strand_content (F : Fun K "strand_content" "strand_content" st_strand_content f fd) (T : Txt K mg A)
    (G_carried_bits : Glb P w K mg base "carried_bits" 1 ps_carried_bits (sp_carried_bits K))
    (G_bytes_of : Glb P w K mg base "bytes_of" 1 ps_bytes_of (sp_bytes_of K)) :
    FnOk P w K mg base CX0 2 f fd ps_strand_content (sp_strand_content K) := by
  refine F.ok sc_strand_content (fun vs H Q E h => ?_) (fun cdv Ar outer s H vs Q E hr h => ?_)
  · obtain ⟨a, b, u, l, rfl, _⟩ := h
    rfl
  · obtain ⟨a, b, u, l, rfl, ha, hb, bu, bl, lu, ll, q⟩ := h
    refine ⟨_, (pss_cons (ps_set (i := 2) (sc_strand_content).nd rfl (by first | exact Or.inl rfl | exact Or.inr rfl) (g_call G_carried_bits hr (pa_cons (pv 0) pa_nil)))
      (pss_cons (ps_set (i := 3) (sc_strand_content).nd rfl (by first | exact Or.inl rfl | exact Or.inr rfl) (g_call G_carried_bits hr (pa_cons (pv 1) pa_nil)))
      (pss_cons (ps_if (PW.pt (pw_or (pt_cmpR op_ne (pe_ix ix_list (pv 2) (g_int T.c_ROW_BITS) (fun _ _ => rfl)) pe_int (nomark _)) (pw_or1 (pt_cmpR op_ne (pe_ix ix_list (pv 3) (g_int T.c_ROW_BITS) (fun _ _ => rfl)) pe_int (nomark _))))) (pss_one (ps_ret pe_non)) pss_nil)
      (pss_one (ps_ret (g_call G_bytes_of hr (pa_cons (pe_op op_cat (pe_slice sl_list (pv 2) po_none (po_some (g_int T.c_ROW_BITS))) (pe_slice sl_list (pv 3) po_none (po_some (g_int T.c_ROW_BITS)))) pa_nil))))))), ?_⟩
    refine ⟨_, rfl, a, u, rfl, ha, (by omega), fun p1 H1 hp1 s1 e1 => ?_⟩
    refine ⟨_, rfl, b, l, rfl, s1.seq hb, (by omega), fun p2 H2 hp2 s2 e2 => ?_⟩
    have e1' := s2 _ _ e1
    have s2' : Same H H2 := s1.trans s2
    have lu' := taken_57 lu
    have ll' := taken_57 ll
    have g1 : (Km348.taken u)[56]? = some ((Km348.taken u).getD 56 0) := by rw [List.getD_eq_getElem?_getD, List.getElem?_eq_getElem (by omega)]; rfl
    have g2 : (Km348.taken l)[56]? = some ((Km348.taken l).getD 56 0) := by rw [List.getD_eq_getElem?_getD, List.getElem?_eq_getElem (by omega)]; rfl
    have bU := taken_bits bu
    have bL := taken_bits bl
    have z0 : ∀ n : Nat, (!decide (V.int (n : Int) = V.int 0)) = true → n ≠ 0 := fun n c e => by rw [e] at c; exact absurd c (by decide)
    have z1 : ∀ n : Nat, (!decide (V.int (n : Int) = V.int 0)) = false → n = 0 := fun n c => by
      rw [Bool.not_eq_false'] at c
      have c := of_decide_eq_true c
      injection c with c
      omega
    have qN : ¬ ((Km348.taken u).getD 56 0 = 0 ∧ (Km348.taken l).getD 56 0 = 0) → Q .non H2 := fun c => q.2 H2 (by unfold content; rw [if_neg c]) s2'
    refine ⟨_, rfl, p1, _, _, _, rfl, rfl, SqL.of e1', at_of (j := 56) rfl (vN_get g1), rfl, _, rfl, ?_⟩
    show if (!decide (V.int (((Km348.taken u).getD 56 0 : Nat) : Int) = V.int 0)) = true then _ else _
    refine rd_if (fun c => iteT ?_) (fun c => ?_)
    · exact qN fun h => z0 _ c h.1
    refine ⟨_, rfl, p2, _, _, _, rfl, rfl, SqL.of e2, at_of (j := 56) rfl (vN_get g2), rfl, _, rfl, ?_⟩
    show if (!decide (V.int (((Km348.taken l).getD 56 0 : Nat) : Int) = V.int 0)) = true then _ else _
    refine rd_if (fun c2 => ?_) (fun c2 => ?_)
    · exact qN fun h => z0 _ c2 h.2
    · have cc : (Km348.taken u).getD 56 0 = 0 ∧ (Km348.taken l).getD 56 0 = 0 := ⟨z1 _ c, z1 _ c2⟩
      refine ⟨_, rfl, _, rfl, p1, _, rfl, SqL.of e1', fun c1 hc1 => ?_⟩
      have k1 : Same H2 (upd H2 c1 (.lst (cutV (vN (Km348.taken u)) none (some 56)))) := same_upd hc1
      refine ⟨_, rfl, _, rfl, p2, _, rfl, SqL.of (k1 _ _ e2), fun c3 hc3 => ?_⟩
      have hc3a := k1.free hc3
      have c13 : c1 ≠ c3 := ne_of_none upd_same hc3
      have ec : ∀ t : List Nat, cutV (vN t) none (some 56) = vN (t.take 56) := fun t => by rw [show (56 : Int) = ((56 : Nat) : Int) from rfl, cut_lo, vN_take]
      refine ⟨c1, c3, _, _, rfl, rfl, (by rw [upd_ne c13]; exact upd_same), upd_same, ?_, fun c4 hc4 => ?_⟩
      · rw [ec, ec, vN_len, vN_len, List.length_take, List.length_take, lu', ll']
        decide
      have k3 := Same.upd (o := .lst (cutV (vN (Km348.taken l)) none (some 56))) k1 hc3a
      have hc4a := k3.free hc4
      refine ⟨c4, (Km348.taken u).take 56 ++ (Km348.taken l).take 56, rfl, SqL.of (by rw [upd_same, ec, ec, vN_app]), ?_, ?_, fun p5 H5 hp5 s5 e5 => ?_⟩
      · intro x hx
        rcases List.mem_append.mp hx with e | e
        · exact bU x (List.mem_of_mem_take e)
        · exact bL x (List.mem_of_mem_take e)
      · rw [List.length_append, List.length_take, List.length_take, lu', ll']; rfl
      · exact q.1 p5 H5 _ (by unfold content; rw [if_pos cc]) (s2'.trans ((Same.upd k3 hc4a).trans s5)) e5
abbrev st_may_be_mended : Stmt := (top 42)
theorem sc_may_be_mended : FnScope ["letters"] ["letters"] (defScope st_may_be_mended) := ⟨rfl, rfl, rfl, by decide +kernel, rfl, by decide +kernel, by decide +kernel⟩
abbrev ps_may_be_mended : List Str := ["letters"]
theorem ok_may_be_mended (F : Fun K "may_be_mended" "may_be_mended" st_may_be_mended f fd) (T : Txt K mg A)
    (G_are_letters : Glb P w K mg base "are_letters" 1 ps_are_letters (sp_are_letters K)) :
    FnOk P w K mg base CX0 2 f fd ps_may_be_mended (sp_may_be_mended K) := by
  refine F.ok sc_may_be_mended (fun vs H Q E h => ?_) (fun cdv Ar outer s H vs Q E hr h => ?_)
  · obtain ⟨a, l, rfl, _⟩ := h
    rfl
  · obtain ⟨a, l, rfl, hs, hl, q⟩ := h
    refine ⟨_, (pss_one (ps_ret (pe_and (pe_chain op_le op_le (g_int T.c_SHORTEST) (pe_callB call_len_seq rfl T.b_len PySem.boot_len (pa_cons (pv 0) pa_nil)) (g_int T.c_LONGEST)) (pe_one (g_call G_are_letters hr (pa_cons (pv 0) pa_nil)))))), ?_⟩
    refine ⟨_, rfl, a, _, rfl, .inl hs, _, _, rfl, rfl, _, rfl, ?_⟩
    rw [vN_len]
    have qF : ¬ (63 ≤ l.length ∧ l.length ≤ 65) → Q (.bl false) H := fun c => qb (q H (Same.refl _)) (by rw [decide_eq_false c]; rfl)
    refine rd_and (fun c1 => ⟨_, _, rfl, rfl, _, rfl, rd_and (fun c2 => ?_) (fun c2 => qF (by omega))⟩) (fun c1 => ⟨_, rfl, iteF (qF (by omega))⟩)
    refine ⟨_, rfl, a, l, rfl, hs, hl, fun H' s' => qb (q H' s') ?_⟩
    rw [decide_eq_true (by omega : 63 ≤ l.length ∧ l.length ≤ 65)]
    rfl
abbrev st_tries_at : Stmt := (top 43)
theorem sc_tries_at : FnScope ["row", "place", "ahead", "behind"] ["row", "place"] (defScope st_tries_at) := ⟨rfl, rfl, rfl, by decide +kernel, rfl, by decide +kernel, by decide +kernel⟩
abbrev ps_tries_at : List Str := ["row", "place"]
theorem ok_tries_at (F : Fun K "tries_at" "tries_at" st_tries_at f fd) (T : Txt K mg A) : FnOk P w K mg base CX0 1 f fd ps_tries_at (sp_tries_at K) := by
  refine F.ok sc_tries_at (fun vs H Q E h => ?_) (fun cdv Ar outer s H vs Q E hr h => ?_)
  · obtain ⟨a, l, i, rfl, _⟩ := h
    rfl
  · obtain ⟨a, l, i, rfl, hs, hl, hi, q⟩ := h
    refine ⟨_, (pss_cons (ps_set (i := 2) (sc_tries_at).nd rfl (by first | exact Or.inl rfl | exact Or.inr rfl) (pe_slice sl_list (pv 0) po_none (po_some (pe_op op_sub (pv 1) pe_int))))
      (pss_cons (ps_if (pt_cmpR op_gt (pe_callB call_len_seq rfl T.b_len PySem.boot_len (pa_cons (pv 0) pa_nil)) (g_int T.c_STRAND_LENGTH) (nomark _)) (pss_one (ps_ret (pe_lst (pa_cons (pe_op op_cat (pv 2) (pe_slice sl_list (pv 0) (po_some (pv 1)) po_none)) pa_nil)))) pss_nil)
      (pss_cons (ps_if (pt_cmpR op_lt (pe_callB call_len_seq rfl T.b_len PySem.boot_len (pa_cons (pv 0) pa_nil)) (g_int T.c_STRAND_LENGTH) (nomark _)) (pss_one (ps_set (i := 3) (sc_tries_at).nd rfl (by first | exact Or.inl rfl | exact Or.inr rfl) (pe_slice sl_list (pv 0) (po_some (pe_op op_sub (pv 1) pe_int)) po_none))) (pss_one (ps_set (i := 3) (sc_tries_at).nd rfl (by first | exact Or.inl rfl | exact Or.inr rfl) (pe_slice sl_list (pv 0) (po_some (pv 1)) po_none))))
      (pss_one (ps_ret (pe_lst (pa_cons (pe_op op_cat (pe_op op_cat (pv 2) (pe_lst (pa_cons pe_int pa_nil))) (pv 3)) (pa_cons (pe_op op_cat (pe_op op_cat (pv 2) (pe_lst (pa_cons pe_int pa_nil))) (pv 3)) pa_nil)))))))), ?_⟩
    have e1 : (1 : Int) + (i : Nat) - 1 = ((i : Nat) : Int) := by omega
    have e2 : (1 : Int) + (i : Nat) = ((i + 1 : Nat) : Int) := by omega
    refine ⟨_, rfl, _, rfl, _, _, rfl, rfl, _, rfl, a, _, rfl, hs, fun c1 hc1 => ?_⟩
    dsimp only
    rw [e1, cut_lo, vN_take]
    have s1 := same_upd (o := .lst (vN (l.take i))) hc1
    have ea : (upd H c1 (.lst (vN (l.take i)))) c1 = some (.lst (vN (l.take i))) := upd_same
    generalize upd H c1 (.lst (vN (l.take i))) = H1 at s1 ea
    refine ⟨_, rfl, a, _, rfl, .inl (s1.seq hs), _, _, rfl, rfl, _, rfl, ?_⟩
    rw [vN_len]
    refine rd_and (fun c => ?_) (fun c => ?_)
    · -- 65
      have l65 : l.length = 65 := by omega
      refine ⟨_, rfl, _, rfl, _, rfl, _, rfl, a, _, rfl, s1.seq hs, fun c2 hc2 => ?_⟩
      rw [e2, cut_hi, vN_drop]
      have s2 := same_upd (o := .lst (vN (l.drop (i + 1)))) hc2
      refine ⟨c1, c2, _, _, rfl, rfl, s2 _ _ ea, upd_same, ?_, fun c3 hc3 => ?_⟩
      · rw [vN_len, vN_len, List.length_take, List.length_drop]
        exact Nat.le_trans (show _ ≤ 200 by omega) (by decide)
      refine ⟨(by show 1 ≤ sizeLine; decide), fun p hp => ?_⟩
      have s3 := Same.upd (o := .lst (vN (l.take i) ++ vN (l.drop (i + 1)))) s2 (s2.free hc3)
      have s4 := Same.upd (o := .lst [V.ref c3]) s3 (s3.free hp)
      rw [tries_65 l65] at q
      refine q p [c3] _ (s1.trans s4) upd_same rfl fun j a' t hj ht => ?_
      match j, hj, ht with
      | 0, hj, ht =>
        have hj : c3 = a' := Option.some.inj hj
        have ht : Km348.dropAt l i = t := Option.some.inj ht
        have n3 : c3 ≠ p := ne_of_none upd_same hp
        rw [← hj, ← ht, upd_ne n3, upd_same]
        unfold Km348.dropAt
        rw [vN_app]
      | j + 1, hj, ht => simp at hj
    · refine ⟨_, rfl, a, _, rfl, .inl (s1.seq hs), _, _, rfl, rfl, _, rfl, ?_⟩
      rw [vN_len]
      refine rd_and (fun c' => ?_) (fun c' => ?_)
      · -- 63
        have l63 : l.length = 63 := by omega
        refine ⟨_, rfl, _, rfl, _, _, rfl, rfl, _, rfl, a, _, rfl, s1.seq hs, fun c2 hc2 => ?_⟩
        dsimp only
        rw [e1, cut_hi, vN_drop]
        have s2 := same_upd (o := .lst (vN (l.drop i))) hc2
        have eb2 : (upd H1 c2 (.lst (vN (l.drop i)))) c2 = some (.lst (vN (l.drop i))) := upd_same
        generalize upd H1 c2 (.lst (vN (l.drop i))) = H2 at s2 eb2
        have ea2 := s2 _ _ ea
        have sH2 := s1.trans s2
        have lb1 : ∀ (t : List Nat) (v : V), t.length ≤ 64 → (vN (l.take i) ++ [v]).length + (vN t).length ≤ sizeLine := fun t v ht => by
          rw [List.length_append, vN_len, vN_len, List.length_take]
          exact Nat.le_trans (show _ ≤ 200 by simp only [List.length_cons, List.length_nil]; omega) (by decide)
        refine ⟨_, rfl, (by show 1 ≤ sizeLine; decide), fun z1 hz1 => ?_⟩
        have r1 := same_upd (o := .lst [V.int 0]) hz1
        refine ⟨c1, z1, _, _, rfl, rfl, r1 _ _ ea2, upd_same, (by rw [vN_len, List.length_take]; exact Nat.le_trans (show _ ≤ 200 by simp only [List.length_cons, List.length_nil]; omega) (by decide)), fun y1 hy1 => ?_⟩
        have r2 := Same.upd (o := .lst (vN (l.take i) ++ [V.int 0])) r1 (r1.free hy1)
        refine ⟨_, rfl, y1, c2, _, _, rfl, rfl, upd_same, r2 _ _ eb2, lb1 _ _ (by rw [List.length_drop]; omega), fun x1 hx1 => ?_⟩
        have r3 := Same.upd (o := .lst ((vN (l.take i) ++ [V.int 0]) ++ vN (l.drop i))) r2 (r2.free hx1)
        have ex1 : (upd (upd (upd H2 z1 (.lst [V.int 0])) y1 (.lst (vN (l.take i) ++ [V.int 0]))) x1 (.lst ((vN (l.take i) ++ [V.int 0]) ++ vN (l.drop i)))) x1 = some (.lst (vN (l.take i ++ [0] ++ l.drop i))) := by
          rw [upd_same, vN_app, vN_app]; rfl
        generalize upd (upd (upd H2 z1 (.lst [V.int 0])) y1 (.lst (vN (l.take i) ++ [V.int 0]))) x1 (.lst ((vN (l.take i) ++ [V.int 0]) ++ vN (l.drop i))) = H3 at r3 ex1
        have ea3 := r3 _ _ ea2
        have eb3 := r3 _ _ eb2
        refine ⟨_, rfl, (by show 1 ≤ sizeLine; decide), fun z2 hz2 => ?_⟩
        have t1 := same_upd (o := .lst [V.int 1]) hz2
        refine ⟨c1, z2, _, _, rfl, rfl, t1 _ _ ea3, upd_same, (by rw [vN_len, List.length_take]; exact Nat.le_trans (show _ ≤ 200 by simp only [List.length_cons, List.length_nil]; omega) (by decide)), fun y2 hy2 => ?_⟩
        have t2 := Same.upd (o := .lst (vN (l.take i) ++ [V.int 1])) t1 (t1.free hy2)
        refine ⟨_, rfl, y2, c2, _, _, rfl, rfl, upd_same, t2 _ _ eb3, lb1 _ _ (by rw [List.length_drop]; omega), fun x2 hx2 => ?_⟩
        have t3 := Same.upd (o := .lst ((vN (l.take i) ++ [V.int 1]) ++ vN (l.drop i))) t2 (t2.free hx2)
        have ex2 : (upd (upd (upd H3 z2 (.lst [V.int 1])) y2 (.lst (vN (l.take i) ++ [V.int 1]))) x2 (.lst ((vN (l.take i) ++ [V.int 1]) ++ vN (l.drop i)))) x2 = some (.lst (vN (l.take i ++ [1] ++ l.drop i))) := by
          rw [upd_same, vN_app, vN_app]; rfl
        generalize upd (upd (upd H3 z2 (.lst [V.int 1])) y2 (.lst (vN (l.take i) ++ [V.int 1]))) x2 (.lst ((vN (l.take i) ++ [V.int 1]) ++ vN (l.drop i))) = H4 at t3 ex2
        refine ⟨(by show 2 ≤ sizeLine; decide), fun p hp => ?_⟩
        have u4 := same_upd (o := .lst [V.ref x1, V.ref x2]) hp
        rw [tries_63 l63] at q
        refine q p [x1, x2] _ (sH2.trans (r3.trans (t3.trans u4))) upd_same rfl fun j a' t hj ht => ?_
        match j, hj, ht with
        | 0, hj, ht =>
          have hj : x1 = a' := Option.some.inj hj
          have ht : l.take i ++ [0] ++ l.drop i = t := Option.some.inj ht
          rw [← hj, ← ht]
          exact u4 _ _ (t3 _ _ ex1)
        | 1, hj, ht =>
          have hj : x2 = a' := Option.some.inj hj
          have ht : l.take i ++ [1] ++ l.drop i = t := Option.some.inj ht
          rw [← hj, ← ht]
          exact u4 _ _ ex2
        | j + 2, hj, ht => simp at hj
      · have l64 : l.length = 64 := by omega
        refine ⟨_, rfl, _, rfl, _, rfl, a, _, rfl, s1.seq hs, fun c2 hc2 => ?_⟩
        rw [e2, cut_hi, vN_drop]
        have s2 := same_upd (o := .lst (vN (l.drop (i + 1)))) hc2
        have eb2 : (upd H1 c2 (.lst (vN (l.drop (i + 1))))) c2 = some (.lst (vN (l.drop (i + 1)))) := upd_same
        generalize upd H1 c2 (.lst (vN (l.drop (i + 1)))) = H2 at s2 eb2
        have ea2 := s2 _ _ ea
        have sH2 := s1.trans s2
        have lb1 : ∀ (t : List Nat) (v : V), t.length ≤ 64 → (vN (l.take i) ++ [v]).length + (vN t).length ≤ sizeLine := fun t v ht => by
          rw [List.length_append, vN_len, vN_len, List.length_take]
          exact Nat.le_trans (show _ ≤ 200 by simp only [List.length_cons, List.length_nil]; omega) (by decide)
        refine ⟨_, rfl, (by show 1 ≤ sizeLine; decide), fun z1 hz1 => ?_⟩
        have r1 := same_upd (o := .lst [V.int 0]) hz1
        refine ⟨c1, z1, _, _, rfl, rfl, r1 _ _ ea2, upd_same, (by rw [vN_len, List.length_take]; exact Nat.le_trans (show _ ≤ 200 by simp only [List.length_cons, List.length_nil]; omega) (by decide)), fun y1 hy1 => ?_⟩
        have r2 := Same.upd (o := .lst (vN (l.take i) ++ [V.int 0])) r1 (r1.free hy1)
        refine ⟨_, rfl, y1, c2, _, _, rfl, rfl, upd_same, r2 _ _ eb2, lb1 _ _ (by rw [List.length_drop]; omega), fun x1 hx1 => ?_⟩
        have r3 := Same.upd (o := .lst ((vN (l.take i) ++ [V.int 0]) ++ vN (l.drop (i + 1)))) r2 (r2.free hx1)
        have ex1 : (upd (upd (upd H2 z1 (.lst [V.int 0])) y1 (.lst (vN (l.take i) ++ [V.int 0]))) x1 (.lst ((vN (l.take i) ++ [V.int 0]) ++ vN (l.drop (i + 1))))) x1 = some (.lst (vN (l.take i ++ [0] ++ l.drop (i + 1)))) := by
          rw [upd_same, vN_app, vN_app]; rfl
        generalize upd (upd (upd H2 z1 (.lst [V.int 0])) y1 (.lst (vN (l.take i) ++ [V.int 0]))) x1 (.lst ((vN (l.take i) ++ [V.int 0]) ++ vN (l.drop (i + 1)))) = H3 at r3 ex1
        have ea3 := r3 _ _ ea2
        have eb3 := r3 _ _ eb2
        refine ⟨_, rfl, (by show 1 ≤ sizeLine; decide), fun z2 hz2 => ?_⟩
        have t1 := same_upd (o := .lst [V.int 1]) hz2
        refine ⟨c1, z2, _, _, rfl, rfl, t1 _ _ ea3, upd_same, (by rw [vN_len, List.length_take]; exact Nat.le_trans (show _ ≤ 200 by simp only [List.length_cons, List.length_nil]; omega) (by decide)), fun y2 hy2 => ?_⟩
        have t2 := Same.upd (o := .lst (vN (l.take i) ++ [V.int 1])) t1 (t1.free hy2)
        refine ⟨_, rfl, y2, c2, _, _, rfl, rfl, upd_same, t2 _ _ eb3, lb1 _ _ (by rw [List.length_drop]; omega), fun x2 hx2 => ?_⟩
        have t3 := Same.upd (o := .lst ((vN (l.take i) ++ [V.int 1]) ++ vN (l.drop (i + 1)))) t2 (t2.free hx2)
        have ex2 : (upd (upd (upd H3 z2 (.lst [V.int 1])) y2 (.lst (vN (l.take i) ++ [V.int 1]))) x2 (.lst ((vN (l.take i) ++ [V.int 1]) ++ vN (l.drop (i + 1))))) x2 = some (.lst (vN (l.take i ++ [1] ++ l.drop (i + 1)))) := by
          rw [upd_same, vN_app, vN_app]; rfl
        generalize upd (upd (upd H3 z2 (.lst [V.int 1])) y2 (.lst (vN (l.take i) ++ [V.int 1]))) x2 (.lst ((vN (l.take i) ++ [V.int 1]) ++ vN (l.drop (i + 1)))) = H4 at t3 ex2
        refine ⟨(by show 2 ≤ sizeLine; decide), fun p hp => ?_⟩
        have u4 := same_upd (o := .lst [V.ref x1, V.ref x2]) hp
        rw [tries_64 l64 (by omega)] at q
        refine q p [x1, x2] _ (sH2.trans (r3.trans (t3.trans u4))) upd_same rfl fun j a' t hj ht => ?_
        match j, hj, ht with
        | 0, hj, ht =>
          have hj : x1 = a' := Option.some.inj hj
          have ht : l.take i ++ [0] ++ l.drop (i + 1) = t := Option.some.inj ht
          rw [← hj, ← ht]
          exact u4 _ _ (t3 _ _ ex1)
        | 1, hj, ht =>
          have hj : x2 = a' := Option.some.inj hj
          have ht : l.take i ++ [1] ++ l.drop (i + 1) = t := Option.some.inj ht
          rw [← hj, ← ht]
          exact u4 _ _ ex2
        | j + 2, hj, ht => simp at hj
abbrev st_right_row_at : Stmt := (top 44)
theorem sc_right_row_at : FnScope ["row", "place", "tried"] ["row", "place"] (defScope st_right_row_at) := ⟨rfl, rfl, rfl, by decide +kernel, rfl, by decide +kernel, by decide +kernel⟩
abbrev ps_right_row_at : List Str := ["row", "place"]
theorem ok_right_row_at (F : Fun K "right_row_at" "right_row_at" st_right_row_at f fd) (T : Txt K mg A)
    (G_tries_at : Glb P w K mg base "tries_at" 1 ps_tries_at (sp_tries_at K))
    (G_row_weight : Glb P w K mg base "row_weight" 1 ps_row_weight (sp_row_weight K)) :
    FnOk P w K mg base CX0 2 f fd ps_right_row_at (sp_right_row_at K) := by
  refine F.ok sc_right_row_at (fun vs H Q E h => ?_) (fun cdv Ar outer s H vs Q E hr h => ?_)
  · obtain ⟨a, l, i, rfl, _⟩ := h
    rfl
  · obtain ⟨a, l, i, rfl, hs, hb, hl, hi, q⟩ := h
    refine ⟨_, (pss_cons (ps_for PassesOwn.never rfl (pi_list (g_call G_tries_at hr (pa_cons (pv 0) (pa_cons (pv 1) pa_nil)))) (pg_name (i := 2) (sc_right_row_at).nd rfl (by first | exact Or.inl rfl | exact Or.inr rfl))
        (pss_one (ps_if (pt_cmpR op_eq (g_call G_row_weight hr (pa_cons (pv 2) pa_nil)) pe_int (nomark _)) (pss_one (ps_ret (pv 2))) pss_nil)))
      (pss_one (ps_ret pe_non))), ?_⟩
    refine ⟨_, rfl, _, rfl, a, l, i, rfl, hs, hl, hi, fun p as H1 s1 ep hla ht => ?_⟩
    refine ⟨p, rfl, ⟨_, SqL.of ep⟩, for_list (K := K) (a := p) (xs := as.map V.ref) (fun m σ H' => ∃ v : Option V, σ = [some (.ref a), some (.int (1 + (i : Nat))), v] ∧ Same H1 H' ∧ ∀ j t, j < m → (tries l i)[j]? = some t → decide (ws 1 t % 128 = 0) = false)
      ⟨none, rfl, Same.refl _, fun j t hj => by omega⟩ (fun m σ H' _ ⟨_, _, s5, _⟩ => SqL.of (s5 _ _ ep)) ?_ ?_⟩
    · rintro m y σ H' hm ⟨v, rfl, s5, no⟩
      obtain ⟨c, hc, rfl⟩ : ∃ c, as[m]? = some c ∧ y = V.ref c := by
        rw [List.getElem?_map] at hm
        cases e : as[m]? with
        | none => rw [e] at hm; cases hm
        | some c => rw [e] at hm; exact ⟨c, rfl, (Option.some.inj hm).symm⟩
      have hml : m < (tries l i).length := by rw [← hla]; exact (List.getElem?_eq_some_iff.mp hc).1
      obtain ⟨t, htm⟩ : ∃ t, (tries l i)[m]? = some t := ⟨_, List.getElem?_eq_getElem hml⟩
      have tm := List.mem_of_getElem? htm
      have ec := s5 _ _ (ht m c t hc htm)
      refine ⟨_, rfl, c, t, rfl, SqL.of ec, tries_bits hb tm, (by rw [tries_len hl hi tm]; decide), fun H2 s2 => ⟨rfl, _, rfl, rd_and (fun z => ?_) (fun z => ?_)⟩⟩
      · injection z with z
        refine ⟨_, rfl, q.1 c H2 t ?_ (s1.trans (s5.trans s2)) (s2 _ _ ec)⟩
        unfold rowAt
        exact find_at htm (decide_eq_true (by omega)) fun j x hj hx => no j x hj hx
      · refine ⟨_, rfl, s5.trans s2, fun j x hj hx => ?_⟩
        by_cases e : j = m
        · subst e
          rw [htm] at hx
          rw [← Option.some.inj hx]
          exact decide_eq_false fun e => z (by rw [e]; rfl)
        · exact no j x (by omega) hx
    · rintro σ H' ⟨v, rfl, s5, no⟩
      refine q.2 H' ?_ (s1.trans s5)
      unfold rowAt
      rw [List.length_map, hla] at no
      exact find_no no
abbrev st_mended_content : Stmt := (top 45)
theorem sc_mended_content : FnScope ["letters", "upper_row", "lower_row", "place", "right_upper", "right_lower"] ["letters"] (defScope st_mended_content) := ⟨rfl, rfl, rfl, by decide +kernel, rfl, by decide +kernel, by decide +kernel⟩
abbrev ps_mended_content : List Str := ["letters"]
theorem ok_mended_content (F : Fun K "mended_content" "mended_content" st_mended_content f fd) (T : Txt K mg A)
    (G_upper_row_of : Glb P w K mg base "upper_row_of" 1 ps_upper_row_of (sp_upper_row_of K))
    (G_lower_row_of : Glb P w K mg base "lower_row_of" 1 ps_lower_row_of (sp_lower_row_of K))
    (G_right_row_at : Glb P w K mg base "right_row_at" 2 ps_right_row_at (sp_right_row_at K))
    (G_strand_content : Glb P w K mg base "strand_content" 2 ps_strand_content (sp_strand_content K)) :
    FnOk P w K mg base CX0 3 f fd ps_mended_content (sp_mended_content K) := by
  refine F.ok sc_mended_content (fun vs H Q E h => ?_) (fun cdv Ar outer s H vs Q E hr h => ?_)
  · obtain ⟨a, l, s, rfl, _⟩ := h
    rfl
  · obtain ⟨a, l, z, rfl, hs, hl, hz, q⟩ := h
    obtain ⟨zl, _⟩ := readAs_get hz
    have z4 := readAs_let4 hz
    have hzl : 63 ≤ z.length ∧ z.length ≤ 65 := by omega
    have ul := upper_len z
    have ll := lower_len z
    refine ⟨_, (pss_cons (ps_set (i := 1) (sc_mended_content).nd rfl (by first | exact Or.inl rfl | exact Or.inr rfl) (g_call G_upper_row_of hr (pa_cons (pv 0) pa_nil)))
      (pss_cons (ps_set (i := 2) (sc_mended_content).nd rfl (by first | exact Or.inl rfl | exact Or.inr rfl) (g_call G_lower_row_of hr (pa_cons (pv 0) pa_nil)))
      (pss_cons (ps_for PassesOwn.never rfl (pi_range2 rfl T.b_range (pa_cons pe_int (pa_cons (pe_op op_add (pe_callB (call_max2 rfl) rfl T.b_max PyProof.Rows.boot_max (pa_cons (pe_callB call_len_seq rfl T.b_len PySem.boot_len (pa_cons (pv 0) pa_nil)) (pa_cons (g_int T.c_STRAND_LENGTH) pa_nil))) pe_int) pa_nil))) (pg_name (i := 3) (sc_mended_content).nd rfl (by first | exact Or.inl rfl | exact Or.inr rfl))
        (pss_cons (ps_set (i := 4) (sc_mended_content).nd rfl (by first | exact Or.inl rfl | exact Or.inr rfl) (g_call G_right_row_at hr (pa_cons (pv 1) (pa_cons (pv 3) pa_nil))))
      (pss_one (ps_if (pt_cmpR op_notN (pv 4) pe_non (nomark _)) (pss_cons (ps_set (i := 5) (sc_mended_content).nd rfl (by first | exact Or.inl rfl | exact Or.inr rfl) (g_call G_right_row_at hr (pa_cons (pv 2) (pa_cons (pv 3) pa_nil))))
      (pss_one (ps_if (pt_cmpR op_notN (pv 5) pe_non (nomark _)) (pss_one (ps_ret (g_call G_strand_content hr (pa_cons (pv 4) (pa_cons (pv 5) pa_nil))))) pss_nil))) pss_nil))))
      (pss_one (ps_ret pe_non))))), ?_⟩
    refine ⟨_, rfl, a, l, z, rfl, hs, (by omega), hz, fun p1 H1 hp1 s1 e1 => ?_⟩
    refine ⟨_, rfl, a, l, z, rfl, s1.seq hs, (by omega), hz, fun p2 H2 hp2 s2 e2 => ?_⟩
    have e1' := s2 _ _ e1
    have s2' := s1.trans s2
    refine ⟨_, rfl, a, _, rfl, .inl (s2'.seq hs), _, _, rfl, _, _, rfl, rfl, 1, ((max z.length 64 + 1 : Nat) : Int), ?_, ⟨by decide, by decide, by omega, by omega⟩, ?_⟩
    · rw [vN_len]
      have : (if (64 : Int) > (l.length : Int) then (64 : Int) else (l.length : Int)) + 1 = ((max z.length 64 + 1 : Nat) : Int) := by
        split <;> omega
      dsimp only
      rw [this]
    rw [show (((max z.length 64 + 1 : Nat) : Int) - 1).toNat = max z.length 64 by omega]
    refine for_range (lo := 1) (n := max z.length 64) (fun i σ H' => ∃ v3 v4 v5 : Option V, σ = [some (.ref a), some (.ref p1), some (.ref p2), v3, v4, v5] ∧ Same H2 H' ∧ ∀ j, j < i → rowAt (Km348.upper z) j = none ∨ rowAt (Km348.lower z) j = none)
      ⟨none, none, none, rfl, Same.refl _, fun j hj => by omega⟩ ?_ ?_
    · rintro i σ H' hi ⟨v3, v4, v5, rfl, s5, no⟩
      have next : (rowAt (Km348.upper z) i = none ∨ rowAt (Km348.lower z) i = none) → ∀ j, j < i + 1 → rowAt (Km348.upper z) j = none ∨ rowAt (Km348.lower z) j = none := fun h j hj => by
        by_cases e : j = i
        · rw [e]; exact h
        · exact no j (by omega)
      refine ⟨_, rfl, _, rfl, p1, Km348.upper z, i, rfl, SqL.of (s5 _ _ e1'), upper_bits z, (by omega), (by rw [ul]; exact hi), fun p3 H3 u hu s3 e3 => ?_, fun H3 hu s3 => ?_⟩
      · refine ⟨_, rfl, rfl, _, rfl, iteT ?_⟩
        refine ⟨_, rfl, _, rfl, p2, Km348.lower z, i, rfl, SqL.of (s3 _ _ (s5 _ _ e2)), lower_bits z, (by omega), (by rw [ll]; exact hi), fun p4 H4 w' hw s4 e4 => ?_, fun H4 hw s4 => ?_⟩
        · refine ⟨_, rfl, rfl, _, rfl, iteT ?_⟩
          have hum : u ∈ tries (Km348.upper z) i := List.mem_of_find?_eq_some hu
          have hwm : w' ∈ tries (Km348.lower z) i := List.mem_of_find?_eq_some hw
          refine ⟨_, rfl, _, rfl, p3, p4, u, w', rfl, SqL.of (s4 _ _ e3), SqL.of e4, tries_bits (upper_bits z) hum, tries_bits (lower_bits z) hwm, tries_len (by omega) (by rw [ul]; exact hi) hum, tries_len (by omega) (by rw [ll]; exact hi) hwm, ?_⟩
          have eC := mendedC_at z4 hzl hi hu hw
          have sA : Same H H4 := s2'.trans (s5.trans (s3.trans s4))
          rw [eC] at q
          exact ⟨fun p5 H5 t ht s6 e6 => q.1 p5 H5 t ht (sA.trans s6) e6, fun H5 ht s6 => q.2 H5 ht (sA.trans s6)⟩
        · refine ⟨_, rfl, rfl, _, rfl, iteF ?_⟩
          exact ⟨_, _, _, rfl, s5.trans (s3.trans s4), next (.inr hw)⟩
      · refine ⟨_, rfl, rfl, _, rfl, iteF ?_⟩
        exact ⟨_, _, _, rfl, s5.trans s3, next (.inl hu)⟩
    · rintro σ H' ⟨v3, v4, v5, rfl, s5, no⟩
      exact q.2 H' (mendedC_none z4 no) (s2'.trans s5)
end
end SS
end
section
set_option maxRecDepth 100000
set_option maxHeartbeats 2000000
namespace SS
open PySem PySem.Spec PyProof.Rows L2
def dN (l : List Nat) : PyData := .list (l.map fun n : Nat => .int (n : Int))
theorem dpAll_N {K : PySem.W.Frag} {H : Hp} : ∀ l : List Nat, DpAll K H (vN l) (l.map fun n : Nat => PyData.int (n : Int))
  | [] => .nil
  | n :: l => .cons (.int _) (dpAll_N l)
theorem dp_N {K : PySem.W.Frag} {H : Hp} {a : Addr} {l : List Nat} (h : H a = some (.lst (vN l))) : Dp K H (.ref a) (dN l) := .lst (SqL.of h) (dpAll_N l)
theorem shaped_N (l : List Nat) : SeqAt.shaped (dN l) = true := by
  have h1 : ∀ l : List Nat, PyData.canLayAll0 (l.map fun n : Nat => PyData.int (n : Int)) = true := fun l => by
    induction l with
    | nil => rfl
    | cons n l ih => rw [List.map_cons]; unfold PyData.canLayAll0; rw [ih]; rfl
  have h2 : ∀ l : List Nat, PyData.depthAll (l.map fun n : Nat => PyData.int (n : Int)) = 0 := fun l => by
    induction l with
    | nil => rfl
    | cons n l ih => rw [List.map_cons]; unfold PyData.depthAll; rw [ih]; rfl
  unfold SeqAt.shaped dN
  rw [show PyData.canLay0 (.list (l.map fun n : Nat => PyData.int (n : Int))) = PyData.canLayAll0 (l.map fun n : Nat => PyData.int (n : Int)) from by unfold PyData.canLay0; rfl, h1]
  rw [show PyData.depth (.list (l.map fun n : Nat => PyData.int (n : Int))) = PyData.depthAll (l.map fun n : Nat => PyData.int (n : Int)) + 1 from by unfold PyData.depth; rfl, h2]
  rfl
theorem eqv_N : ∀ a b : List Nat, PyData.eqv (dN a) (dN b) = decide (a = b) := by
  have h : ∀ a b : List Nat, PyData.eqvAll (a.map fun n : Nat => PyData.int (n : Int)) (b.map fun n : Nat => PyData.int (n : Int)) = decide (a = b) := by
    intro a
    induction a with
    | nil =>
      intro b
      cases b with
      | nil => rfl
      | cons y b => rfl
    | cons x a ih =>
      intro b
      cases b with
      | nil => rfl
      | cons y b =>
        rw [List.map_cons, List.map_cons]
        unfold PyData.eqvAll
        rw [ih b]
        unfold PyData.eqv
        rw [Bool.eq_iff_iff]
        simp only [Bool.and_eq_true, beq_iff_eq, decide_eq_true_eq, List.cons.injEq]
        constructor
        · rintro ⟨h1, h2⟩; exact ⟨by omega, h2⟩
        · rintro ⟨h1, h2⟩; exact ⟨by omega, h2⟩
  intro a b
  unfold dN
  rw [show PyData.eqv (.list (a.map fun n : Nat => PyData.int (n : Int))) (.list (b.map fun n : Nat => PyData.int (n : Int))) = PyData.eqvAll (a.map fun n : Nat => PyData.int (n : Int)) (b.map fun n : Nat => PyData.int (n : Int)) from by unfold PyData.eqv; rfl, h]
def rdF (f : Addr) (sz gl : V) : List (Str × V) := [("field", .ref f), ("size", sz), ("groups", gl)]
theorem rd_f (f : Addr) (sz gl : V) : (rdF f sz gl).lookup ("field" : Str) = some (.ref f) := by rfl
theorem rd_s (f : Addr) (sz gl : V) : (rdF f sz gl).lookup ("size" : Str) = some sz := by rfl
theorem rd_g (f : Addr) (sz gl : V) : (rdF f sz gl).lookup ("groups" : Str) = some gl := by rfl
theorem rd_no (f : Addr) (sz gl : V) {x : Str} (h1 : (x == ("field" : Str)) = false) (h2 : (x == ("size" : Str)) = false) (h3 : (x == ("groups" : Str)) = false) : (rdF f sz gl).lookup x = none := lk_miss h1 (lk_miss h2 (lk_miss h3 rfl))
theorem kd_rd {C dx : Addr} (f : Addr) (sz gl : V) : kd (.ins C dx (rdF f sz gl)) = 3 := by rfl
structure RdX (A : Ad) (H : Hp) (r : Addr) (R : Km348.Reader) (dx f sz gl : Addr) (gs ds : List Addr) : Prop where
  obj : H r = some (.ins A.Reader dx (rdF f (.ref sz) (.ref gl)))
  fld : FieldAt A H f
  siz : SizeAt A H sz R.size.k R.size.m R.size.n
  lst : H gl = some (.lst (gs.map V.ref))
  lg : gs.length = R.size.groups
  ld : ds.length = R.size.groups
  ng : gs.Nodup
  nd : ds.Nodup
  grp : ∀ (i : Nat) (g d : Addr), gs[i]? = some g → ds[i]? = some d → GroupAt A H g d R.size.k (R.group i)
  ok : ROk R
def RdAt (A : Ad) (H : Hp) (r : Addr) : Option Km348.Reader → Prop
  | none => ∃ dx f sv gv, H r = some (.ins A.Reader dx (rdF f sv gv)) ∧ FieldAt A H f
  | some R => ∃ dx f sz gl gs ds, RdX A H r R dx f sz gl gs ds
theorem RdAt.obj {A : Ad} {H : Hp} {r : Addr} {st : Option Km348.Reader} (h : RdAt A H r st) : ∃ dx f sv gv, H r = some (.ins A.Reader dx (rdF f sv gv)) ∧ FieldAt A H f := by
  cases st with
  | none => exact h
  | some R => obtain ⟨dx, f, sz, gl, gs, ds, h⟩ := h; exact ⟨dx, f, _, _, h.obj, h.fld⟩
theorem RdX.kp {A : Ad} {n : Nat} {H H' : Hp} {r : Addr} {R : Km348.Reader} {dx f sz gl : Addr} {gs ds : List Addr} (h : RdX A H r R dx f sz gl gs ds) (s : Kp n H H') (hn : n ≠ 0) (h3 : n ≠ 3) (h4 : n ≠ 4) : RdX A H' r R dx f sz gl gs ds := by
  refine ⟨s _ _ h.obj (fun z => h3 z.symm), h.fld.kp s hn, h.siz.kp s hn, s.lst hn h.lst, h.lg, h.ld, h.ng, h.nd, fun i g d e1 e2 => ?_, h.ok⟩
  have G := h.grp i g d e1 e2
  obtain ⟨gx, fa, fl, kvs, ld, g1, g2, g3, _⟩ := G.ex
  exact G.kp s hn (fun o e => by rw [g1] at e; rw [← e]; exact s _ _ g1 (fun z => h4 z.symm)) (fun o e => by rw [g3] at e; rw [← e]; exact s _ _ g3 (fun z => h4 z.symm))
theorem RdAt.kp {A : Ad} {n : Nat} {H H' : Hp} {r : Addr} {st : Option Km348.Reader} (h : RdAt A H r st) (s : Kp n H H') (hn : n ≠ 0) (h3 : n ≠ 3) (h4 : n ≠ 4) : RdAt A H' r st := by
  cases st with
  | none =>
    obtain ⟨dx, f, sv, gv, e1, e2⟩ := h
    exact ⟨dx, f, sv, gv, s _ _ e1 (fun z => h3 z.symm), e2.kp s hn⟩
  | some R =>
    obtain ⟨dx, f, sz, gl, gs, ds, h⟩ := h
    exact ⟨dx, f, sz, gl, gs, ds, h.kp s hn h3 h4⟩
theorem RdX.same {A : Ad} {H H' : Hp} {r : Addr} {R : Km348.Reader} {dx f sz gl : Addr} {gs ds : List Addr} (h : RdX A H r R dx f sz gl gs ds) (s : Same H H') : RdX A H' r R dx f sz gl gs ds := h.kp (n := 1) (Kp.same s) (by decide) (by decide) (by decide)
theorem RdAt.same {A : Ad} {H H' : Hp} {r : Addr} {st : Option Km348.Reader} (h : RdAt A H r st) (s : Same H H') : RdAt A H' r st := h.kp (n := 1) (Kp.same s) (by decide) (by decide) (by decide)
theorem RdX.step {A : Ad} {H H' : Hp} {r : Addr} {R R' : Km348.Reader} {dx f sz gl : Addr} {gs ds : List Addr} {j : Nat} {g d : Addr} (h : RdX A H r R dx f sz gl gs ds) (hg : gs[j]? = some g) (hd : ds[j]? = some d) (kb : ∀ b o, H b = some o → b ≠ g → b ≠ d → H' b = some o)
    (G' : GroupAt A H' g d R.size.k (R'.group j)) (es : R'.size = R.size) (eg : ∀ i, i ≠ j → R'.group i = R.group i) (ok : ROk R') : RdX A H' r R' dx f sz gl gs ds ∧ Kp 4 H H' := by
  have G := h.grp j g d hg hd
  obtain ⟨gx, fa, fl, kvs, ld, g1, g2, g3, _⟩ := G.ex
  have K4 : Kp 4 H H' := fun b o e hb => kb b o e (fun z => by rw [z, g1] at e; cases e; exact hb (kd_gr fa _ _ _)) (fun z => by rw [z, g3] at e; cases e; exact hb rfl)
  refine ⟨⟨K4 _ _ h.obj (by rw [kd_rd]; decide), h.fld.kp K4 (by decide), by rw [es]; exact h.siz.kp K4 (by decide), K4.lst (by decide) h.lst, by rw [es]; exact h.lg, by rw [es]; exact h.ld, h.ng, h.nd, fun i g' d' e1 e2 => ?_, ok⟩, K4⟩
  by_cases c : i = j
  · subst c
    rw [hg] at e1
    rw [hd] at e2
    rw [← Option.some.inj e1, ← Option.some.inj e2, es]
    exact G'
  · have Gi := h.grp i g' d' e1 e2
    obtain ⟨gx', fa', fl', kvs', ld', g1', g2', g3', _⟩ := Gi.ex
    have n1 : g' ≠ g := fun z => c (nd_ix h.ng e1 (by rw [z]; exact hg))
    have n2 : d' ≠ d := fun z => c (nd_ix h.nd e2 (by rw [z]; exact hd))
    rw [es, eg i c]
    exact Gi.kp K4 (by decide) (fun o e => kb _ _ e n1 (fun z => by rw [z, g3] at g1'; cases g1')) (fun o e => kb _ _ e (fun z => by rw [z, g1] at g3'; cases g3') n2)
theorem sok {R : Km348.Reader} (h : ROk R) (g : Nat) : SOk (R.group g) := by
  obtain ⟨hk, hm, _, _⟩ := good_iff.mp h.good
  obtain ⟨h1, h2, h3⟩ := group_ok h hk.1 g
  exact ⟨h1, fun x hx => ⟨by have := (h2 x hx).1; omega, (h2 x hx).2⟩, by omega⟩
def keptR (R : Km348.Reader) (x : Nat × List Nat) : Km348.Reader × Int := match R.got.find? (at_ x.1) with
  | some y => (R, if y = x then 0 else -17)
  | none => ({ R with got := Km348.insert x R.got }, 1)
def sp_Reader_init (A : Ad) : Sp := fun vs H Q _ => ∃ (p dx f : Addr), vs = [.ref p, .ref f] ∧ H p = some (.ins A.Reader dx []) ∧ ∀ gl H', H gl = none → (∀ b o, H b = some o → b ≠ p → H' b = some o) → H' p = some (.ins A.Reader dx (rdF f .non (.ref gl))) → Q .non H'
def sp_Reader_lacking_count (A : Ad) : Sp := fun vs H Q _ => ∃ (a : Addr) (R : Km348.Reader), vs = [.ref a] ∧ RdAt A H a (some R) ∧ ∀ H', Same H H' → Q (.int ((R.lacks : Nat) : Int)) H'
def sp_Reader_lacks (A : Ad) : Sp := fun vs H Q _ => ∃ (a : Addr) (R : Km348.Reader), vs = [.ref a] ∧ RdAt A H a (some R) ∧ RetA H [((R.lacks : Nat) : Int)] Q
def sp_Reader_keep_strand (A : Ad) : Sp := fun vs H Q _ => ∃ (a la : Addr) (R : Km348.Reader) (q : Nat) (l : List Nat), vs = [.ref a, .int (q : Nat), .ref la] ∧ RdAt A H a (some R) ∧ H la = some (.lst (vN l)) ∧ q < R.size.strands ∧ l.length = 12 ∧ (∀ b ∈ l, b < 256) ∧
  ∀ H', Kp 4 H H' → RdAt A H' a (some (keptR R (q, l)).1) → Q (.int (keptR R (q, l)).2) H'
def sp_Reader_begin (A : Ad) : Sp := fun vs H Q _ => ∃ (a : Addr) (st : Option Km348.Reader) (k m n : Nat), vs = [.ref a, .int (k : Nat), .int (m : Nat), .int (n : Nat)] ∧ RdAt A H a st ∧
  ∀ p H', Kp 3 H H' → RdAt A H' a (if (⟨k, m, n⟩ : Km348.Size).good = true then some ⟨⟨k, m, n⟩, []⟩ else st) → H' p = some (.lst [.int (if (⟨k, m, n⟩ : Km348.Size).good = true then (((⟨k, m, n⟩ : Km348.Size).strands : Nat) : Int) else -22)]) → Q (.ref p) H'
section
variable {P : Program} {w : World} {K : PySem.W.Frag} {mg : Str → Option Value} {base : Heap} {A : Ad} {f : Addr} {fd : FuncData}
abbrev st_Reader_init : Stmt := (inClass (top 55) 0)
theorem sc_Reader_init : FnScope ["self", "field"] ["self", "field"] (defScope st_Reader_init) := ⟨rfl, rfl, rfl, by decide +kernel, rfl, by decide +kernel, by decide +kernel⟩
abbrev ps_Reader_init : List Str := ["self", "field"]
theorem ok_Reader_init (F : Fun K "__init__" "Reader.__init__" st_Reader_init f fd) (T : Txt K mg A) : FnOk P w K mg base CX0 1 f fd ps_Reader_init (sp_Reader_init A) := by
  refine F.ok sc_Reader_init (fun vs H Q E h => ?_) (fun cdv Ar outer s H vs Q E hr h => ?_)
  · obtain ⟨p, dx, f, rfl, _⟩ := h
    rfl
  · obtain ⟨p, dx, f, rfl, hp, q⟩ := h
    refine ⟨_, (pss_cons (ps_fld (pv 0) (pv 1) rfl)
      (pss_cons (ps_fld (pv 0) pe_non rfl)
      (pss_one (ps_fld (pv 0) (pe_lst pa_nil) rfl)))), ?_⟩
    refine ⟨_, rfl, _, rfl, p, A.Reader, dx, _, rfl, hp, T.cl_Reader, T.na_Reader_field, (by show 0 < 1000; decide), ?_⟩
    refine ⟨_, rfl, p, A.Reader, dx, _, rfl, upd_same, T.cl_Reader, T.na_Reader_size, (by show 1 < 1000; decide), ?_⟩
    rw [upd_upd]
    refine ⟨Nat.zero_le _, fun da hd => ?_⟩
    obtain ⟨hd1, dp⟩ := none_upd hd
    refine ⟨_, rfl, p, A.Reader, dx, _, rfl, (by rw [upd_ne (Ne.symm dp)]; exact upd_same), T.cl_Reader, T.na_Reader_groups, (by show 2 < 1000; decide), ?_⟩
    refine q da _ hd1 (fun b o e hb => ?_) upd_same
    rw [upd_ne hb, upd_ne (ne_of_none e hd1), upd_ne hb]
    exact e
abbrev st_Reader_lacking_count : Stmt := (inClass (top 55) 5)
theorem sc_Reader_lacking_count : FnScope ["self", "group"] ["self"] (defScope st_Reader_lacking_count) := ⟨rfl, rfl, rfl, by decide +kernel, rfl, by decide +kernel, by decide +kernel⟩
abbrev ps_Reader_lacking_count : List Str := ["self"]
theorem ok_Reader_lacking_count (F : Fun K "lacking_count" "Reader.lacking_count" st_Reader_lacking_count f fd) (T : Txt K mg A)
    (M_ReadGroup_lacking_count : Mth P w K mg base A.ReadGroup "lacking_count" 1 ps_ReadGroup_lacking_count (sp_ReadGroup_lacking_count A)) :
    FnOk P w K mg base CX0 2 f fd ps_Reader_lacking_count (sp_Reader_lacking_count A) := by
  refine F.ok sc_Reader_lacking_count (fun vs H Q E h => ?_) (fun cdv Ar outer s H vs Q E hr h => ?_)
  · obtain ⟨a, R, rfl, _⟩ := h
    rfl
  · obtain ⟨a, R, rfl, ⟨dx, fa, sz, gl, gs, ds, X⟩, q⟩ := h
    obtain ⟨hk, hm, hn, hS⟩ := good_iff.mp X.ok.good
    have hG : R.size.groups ≤ 4096 := Nat.le_trans (Nat.le_mul_of_pos_left _ (by omega)) hS
    refine ⟨_, (pss_one (ps_ret (pe_callB (cr_sum rfl) rfl T.b_sum PyProof.Rows.boot_sum (pa_cons (pe_lc rfl (sc_Reader_lacking_count).nd (pi_list (pe_fld (pv 0) rfl)) (blkOk_by (own := [("group", 1)]) (by kernel_rfl)) (bg_name (sc_Reader_lacking_count).nd (i := 1) rfl rfl) (fun _ _ _ _ _ => pts_nil) (fun _ _ _ _ _ => (m_call0 M_ReadGroup_lacking_count hr (pv 1)))) pa_nil)))), ?_⟩
    refine ⟨_, rfl, a, A.Reader, dx, _, _, rfl, X.obj, T.cl_Reader, T.na_Reader_groups, rd_g fa _ _, gl, rfl, ⟨_, SqL.of X.lst⟩, ?_⟩
    refine lc_lst (K := K) (a := gl) (xs := gs.map V.ref) (i := 1) (fun m => ((((List.range R.size.groups).map fun g => R.size.k - (R.group g).length).take m).map fun n : Nat => (n : Int)).map V.int) (SqL.of X.lst) (by rw [List.length_map, X.lg]; exact Nat.lt_of_le_of_lt hG (by decide)) rfl (fun m hm => ?_) (by intros; rfl) ?_ ?_
    · rw [List.length_map, List.length_map, List.length_take]
      omega
    · rintro m y H' Qe Qf hy s5 k1 k2
      obtain ⟨g, hg, rfl⟩ : ∃ g, gs[m]? = some g ∧ y = V.ref g := by
        rw [List.getElem?_map] at hy
        cases e : gs[m]? with
        | none => rw [e] at hy; cases hy
        | some c => rw [e] at hy; exact ⟨c, rfl, (Option.some.inj hy).symm⟩
      have hml : m < R.size.groups := by rw [← X.lg]; exact (List.getElem?_eq_some_iff.mp hg).1
      obtain ⟨d, hd⟩ : ∃ d, ds[m]? = some d := ⟨_, List.getElem?_eq_getElem (by rw [X.ld]; exact hml)⟩
      have G := (X.same s5).grp m g d hg hd
      obtain ⟨gx, fb, fl, kvs, ld, g1, _⟩ := G.ex
      refine ⟨_, rfl, g, gx, _, rfl, g1, gr_no fb _ _ _ (by decide) (by decide) (by decide) (by decide), g, d, _, _, rfl, G, k1 _ _ (Same.refl _) ?_⟩
      have e1 : ((List.range R.size.groups).map fun g => R.size.k - (R.group g).length)[m]? = some (R.size.k - (R.group m).length) := by
        rw [List.getElem?_map, List.getElem?_range hml]; rfl
      rw [take_snoc e1, List.map_append, List.map_append]
      rfl
    · intro D H' hD s5 e5
      rw [List.length_map, X.lg, List.take_of_length_le (by rw [List.length_map, List.length_range]; exact Nat.le_refl _)] at e5
      exact ⟨D, _, rfl, SqL.of e5, qi (q H' s5) (lacks_sum R).symm⟩
abbrev st_Reader_lacks : Stmt := (inClass (top 55) 4)
theorem sc_Reader_lacks : FnScope ["self"] ["self"] (defScope st_Reader_lacks) := ⟨rfl, rfl, rfl, by decide +kernel, rfl, by decide +kernel, by decide +kernel⟩
abbrev ps_Reader_lacks : List Str := ["self"]
theorem ok_Reader_lacks (F : Fun K "lacks" "Reader.lacks" st_Reader_lacks f fd) (T : Txt K mg A)
    (M_Reader_lacking_count : Mth P w K mg base A.Reader "lacking_count" 2 ps_Reader_lacking_count (sp_Reader_lacking_count A)) :
    FnOk P w K mg base CX0 3 f fd ps_Reader_lacks (sp_Reader_lacks A) := by
  refine F.ok sc_Reader_lacks (fun vs H Q E h => ?_) (fun cdv Ar outer s H vs Q E hr h => ?_)
  · obtain ⟨a, R, rfl, _⟩ := h
    rfl
  · obtain ⟨a, R, rfl, hR, q⟩ := h
    obtain ⟨dx, fa, sv, gv, h1, h2⟩ := hR.obj
    refine ⟨_, (pss_one (ps_ret (pe_lst (pa_cons (m_call0 M_Reader_lacking_count hr (pv 0)) pa_nil)))), ?_⟩
    refine ⟨_, rfl, a, dx, _, rfl, h1, rd_no fa _ _ (by decide) (by decide) (by decide), a, R, rfl, hR, fun H' s' => ⟨(by show 1 ≤ sizeLine; decide), fun p hp => q p _ (s'.trans (same_upd hp)) upd_same⟩⟩
abbrev st_Reader_keep_strand : Stmt := (inClass (top 55) 3)
theorem sc_Reader_keep_strand : FnScope ["self", "number", "load", "group", "place", "earlier"] ["self", "number", "load"] (defScope st_Reader_keep_strand) := ⟨rfl, rfl, rfl, by decide +kernel, rfl, by decide +kernel, by decide +kernel⟩
abbrev ps_Reader_keep_strand : List Str := ["self", "number", "load"]
theorem ok_Reader_keep_strand (F : Fun K "keep_strand" "Reader.keep_strand" st_Reader_keep_strand f fd) (T : Txt K mg A)
    (M_Size_group_of : Mth P w K mg base A.Size "group_of" 2 ps_Size_group_of (sp_Size_group_of A))
    (M_Size_place_of : Mth P w K mg base A.Size "place_of" 2 ps_Size_place_of (sp_Size_place_of A))
    (M_ReadGroup_load_read_at : Mth P w K mg base A.ReadGroup "load_read_at" 1 ps_ReadGroup_load_read_at (sp_ReadGroup_load_read_at A))
    (M_ReadGroup_keep_load : Mth P w K mg base A.ReadGroup "keep_load" 1 ps_ReadGroup_keep_load (sp_ReadGroup_keep_load A)) :
    FnOk P w K mg base CX0 3 f fd ps_Reader_keep_strand (sp_Reader_keep_strand A) := by
  refine F.ok sc_Reader_keep_strand (fun vs H Q E h => ?_) (fun cdv Ar outer s H vs Q E hr h => ?_)
  · obtain ⟨a, la, R, q, l, rfl, _⟩ := h
    rfl
  · obtain ⟨a, la, R, z, l, rfl, ⟨dx, fa, sz, gl, gs, ds, X⟩, hla, hz, l12, lb, q⟩ := h
    obtain ⟨hk, hm, hn, hS⟩ := good_iff.mp X.ok.good
    obtain ⟨dx2, h3⟩ := X.siz
    have hgl : z / (R.size.k + R.size.m) < R.size.groups := by
      unfold Km348.Size.strands at hz
      exact Nat.div_lt_of_lt_mul hz
    obtain ⟨g, hg⟩ : ∃ g, gs[z / (R.size.k + R.size.m)]? = some g := ⟨_, List.getElem?_eq_getElem (by rw [X.lg]; exact hgl)⟩
    obtain ⟨d, hd⟩ : ∃ d, ds[z / (R.size.k + R.size.m)]? = some d := ⟨_, List.getElem?_eq_getElem (by rw [X.ld]; exact hgl)⟩
    have G := X.grp _ g d hg hd
    obtain ⟨gx, fb, fl, kvs, ld, g1, _⟩ := G.ex
    refine ⟨_, (pss_cons (ps_set (i := 3) (sc_Reader_keep_strand).nd rfl (by first | exact Or.inl rfl | exact Or.inr rfl) (pe_ix ix_list (pe_fld (pv 0) rfl) (m_call M_Size_group_of hr (pe_fld (pv 0) rfl) (pa_cons (pv 1) pa_nil)) (fun _ _ => rfl)))
      (pss_cons (ps_set (i := 4) (sc_Reader_keep_strand).nd rfl (by first | exact Or.inl rfl | exact Or.inr rfl) (m_call M_Size_place_of hr (pe_fld (pv 0) rfl) (pa_cons (pv 1) pa_nil)))
      (pss_cons (ps_set (i := 5) (sc_Reader_keep_strand).nd rfl (by first | exact Or.inl rfl | exact Or.inr rfl) (m_call M_ReadGroup_load_read_at hr (pv 3) (pa_cons (pv 4) pa_nil)))
      (pss_cons (ps_if (pt_cmpR op_isN (pv 5) pe_non (nomark _)) (pss_cons (ps_expr (m_call M_ReadGroup_keep_load hr (pv 3) (pa_cons (pv 4) (pa_cons (pv 2) pa_nil))))
      (pss_one (ps_ret (g_int T.c_READ_NOW)))) pss_nil)
      (pss_cons (ps_if (pt_cmpR (op_eqD hr.units) (pv 5) (pv 2) (nomark _)) (pss_one (ps_ret (g_int T.c_READ_BEFORE))) pss_nil)
      (pss_one (ps_ret (g_int T.c_ANOTHER_LOAD)))))))), ?_⟩
    refine ⟨_, rfl, a, A.Reader, dx, _, _, rfl, X.obj, T.cl_Reader, T.na_Reader_groups, rd_g fa _ _, _, rfl, a, A.Reader, dx, _, _, rfl, X.obj, T.cl_Reader, T.na_Reader_size, rd_s fa _ _, sz, dx2, _, rfl, h3, sz_no _ _ _ (by decide) (by decide) (by decide), _, rfl, sz, _, _, _, _, rfl, ⟨dx2, h3⟩, (by omega), (by omega), ?_⟩
    rw [div_cast]
    refine ⟨gl, _, _, .ref g, rfl, rfl, SqL.of X.lst, atI_nat (by rw [List.getElem?_map, hg]; rfl), ?_⟩
    refine ⟨_, rfl, a, A.Reader, dx, _, _, rfl, X.obj, T.cl_Reader, T.na_Reader_size, rd_s fa _ _, sz, dx2, _, rfl, h3, sz_no _ _ _ (by decide) (by decide) (by decide), _, rfl, sz, _, _, _, _, rfl, ⟨dx2, h3⟩, (by omega), (by omega), ?_⟩
    rw [mod_cast']
    refine ⟨_, rfl, g, gx, _, rfl, g1, gr_no fb _ _ _ (by decide) (by decide) (by decide) (by decide), _, rfl, g, d, _, _, _, rfl, G, fun x lx hx hlx => ?_, fun hx => ?_⟩
    · -- read before
      cases e : R.got.find? (at_ z) with
      | none => rw [group_find_none e] at hx; cases hx
      | some y =>
        rw [group_find_some X.ok.srt e] at hx
        have hx := Option.some.inj hx
        subst hx
        have y1 := (find_mem e).2
        have ek : keptR R (z, l) = (R, if y = (z, l) then 0 else -17) := by unfold keptR; rw [e]
        rw [ek] at q
        refine ⟨_, rfl, rfl, _, rfl, iteF ?_⟩
        refine ⟨_, rfl, _, rfl, dN y.2, dN l, dp_N hlx, dp_N hla, shaped_N _, shaped_N _, _, rfl, ?_⟩
        rw [eqv_N]
        have eq : (y = (z, l)) ↔ y.2 = l := ⟨fun h => by rw [h], fun h => by rw [← h, ← y1]⟩
        refine rd_and (fun c => ?_) (fun c => ?_)
        · exact qi (q H Kp.refl ⟨dx, fa, sz, gl, gs, ds, X⟩) (by rw [if_pos (eq.mpr c)])
        · exact qi (q H Kp.refl ⟨dx, fa, sz, gl, gs, ds, X⟩) (by rw [if_neg (fun h => c (eq.mp h))])
    · -- new
      cases e : R.got.find? (at_ z) with
      | some y => rw [group_find_some X.ok.srt e] at hx; cases hx
      | none =>
        have ek : keptR R (z, l) = ({ R with got := Km348.insert (z, l) R.got }, 1) := by unfold keptR; rw [e]
        rw [ek] at q
        have ok' : ROk { R with got := Km348.insert (z, l) R.got } := ⟨X.ok.good, insert_srt X.ok.srt (find_not e), fun x hx => by
          rcases List.mem_cons.mp ((insert_perm (z, l) R.got).mem_iff.mp hx) with c | c
          · rw [c]; exact ⟨hz, l12, lb⟩
          · exact X.ok.ok x c⟩
        refine ⟨_, rfl, rfl, _, rfl, iteT ?_⟩
        have pp := group_ins (z := R.size) (got := R.got) (x := (z, l)) (z / (R.size.k + R.size.m))
        rw [if_pos rfl] at pp
        refine ⟨_, rfl, g, gx, _, rfl, g1, gr_no fb _ _ _ (by decide) (by decide) (by decide) (by decide), _, rfl, _, rfl, g, d, la, _, _, ({ R with got := Km348.insert (z, l) R.got } : Km348.Reader).group (z / (R.size.k + R.size.m)), _, l, rfl, G, hla, hx, pp, sok ok' _, fun H' G' kb => ?_⟩
        obtain ⟨X', K4⟩ := X.step (R' := { R with got := Km348.insert (z, l) R.got }) hg hd kb G' rfl (fun i hi => group_other fun c => hi c.symm) ok'
        exact q H' K4 ⟨dx, fa, sz, gl, gs, ds, X'⟩
end
end SS
end
section
set_option maxRecDepth 100000
set_option maxHeartbeats 2000000
namespace SS
open PySem PySem.Spec PyProof.Rows L2
theorem nodup_snoc {l : List Addr} {a : Addr} (h : l.Nodup) (n : a ∉ l) : (l ++ [a]).Nodup := by
  rw [List.nodup_append]
  exact ⟨h, by simp, fun x hx y hy => by rw [List.mem_singleton.mp hy]; exact fun e => n (e ▸ hx)⟩
theorem get_snoc {α : Type} {l : List α} {x y : α} {j m : Nat} (hl : l.length = m) (h : (l ++ [x])[j]? = some y) : l[j]? = some y ∨ (j = m ∧ x = y) := by
  by_cases c : j < l.length
  · rw [List.getElem?_append_left c] at h; exact .inl h
  · rw [List.getElem?_append_right (by omega)] at h
    have ej : j = m := by
      have := (List.getElem?_eq_some_iff.mp h).1
      simp at this
      omega
    subst ej
    rw [hl, Nat.sub_self] at h
    exact .inr ⟨rfl, Option.some.inj h⟩
theorem content_mended {s c : List Nat} (h : mendedC s = some c) : c.length = 14 ∧ ∀ x ∈ c, x < 256 := by
  unfold mendedC at h
  cases e : Km348.mended s with
  | none => rw [e] at h; cases h
  | some t => rw [e] at h; exact content_some (upper_bits t) (lower_bits t) h
theorem all_isL {l : List Nat} : l.all isL = true ↔ ¬ Km348.readAs l = none := by
  rw [readAs_none, Classical.not_not, List.all_eq_true]
  unfold isL
  exact ⟨fun h x hx => of_decide_eq_true (h x hx), fun h x hx => decide_eq_true (h x hx)⟩
def sp_Reader_read (A : Ad) : Sp := fun vs H Q _ => ∃ (a la : Addr) (R : Km348.Reader) (l : List Nat), vs = [.ref a, .ref la] ∧ RdAt A H a (some R) ∧ H la = some (.lst (vN l)) ∧ l.length ≤ 1000000 ∧
  ∀ p H', Kp 4 H H' → RdAt A H' a (some (Km348.rDoes R (.rRead l l.length)).1) → H' p = some (.lst ((Km348Neutral.told (Km348.rDoes R (.rRead l l.length)).2).map V.int)) → Q (.ref p) H'
section
variable {P : Program} {w : World} {K : PySem.W.Frag} {mg : Str → Option Value} {base : Heap} {A : Ad} {f : Addr} {fd : FuncData}
abbrev st_Reader_begin : Stmt := (inClass (top 55) 1)
theorem sc_Reader_begin : FnScope ["self", "k", "m", "n", "size", "group"] ["self", "k", "m", "n"] (defScope st_Reader_begin) := ⟨rfl, rfl, rfl, by decide +kernel, rfl, by decide +kernel, by decide +kernel⟩
abbrev ps_Reader_begin : List Str := ["self", "k", "m", "n"]
theorem ok_Reader_begin (F : Fun K "begin" "Reader.begin" st_Reader_begin f fd) (T : Txt K mg A)
    (K_Size : Mak P w K mg base A.Size "Size" 1 ps_Size_init (sp_Size_init A))
    (M_Size_is_as_told : Mth P w K mg base A.Size "is_as_told" 3 ps_Size_is_as_told (sp_Size_is_as_told A))
    (M_Size_strand_count : Mth P w K mg base A.Size "strand_count" 2 ps_Size_strand_count (sp_Size_strand_count A))
    (M_Size_group_count : Mth P w K mg base A.Size "group_count" 1 ps_Size_group_count (sp_Size_group_count A))
    (K_ReadGroup : Mak P w K mg base A.ReadGroup "ReadGroup" 1 ps_ReadGroup_init (sp_ReadGroup_init A)) :
    FnOk P w K mg base CX0 4 f fd ps_Reader_begin (sp_Reader_begin A) := by
  refine F.ok sc_Reader_begin (fun vs H Q E h => ?_) (fun cdv Ar outer s H vs Q E hr h => ?_)
  · obtain ⟨a, st, k, m, n, rfl, _⟩ := h
    rfl
  · obtain ⟨a, st, k, m, n, rfl, hR, q⟩ := h
    obtain ⟨dx, fa, sv, gv, h1, h2⟩ := hR.obj
    refine ⟨_, (pss_cons (ps_set (i := 4) (sc_Reader_begin).nd rfl (by first | exact Or.inl rfl | exact Or.inr rfl) (k_make K_Size hr (pa_cons (pv 1) (pa_cons (pv 2) (pa_cons (pv 3) pa_nil)))))
      (pss_cons (ps_if (pt_not (pt_val (m_call0 M_Size_is_as_told hr (pv 4)))) (pss_one (ps_ret (pe_lst (pa_cons (g_int T.c_WRONG_SIZE) pa_nil)))) pss_nil)
      (pss_cons (ps_fld (pv 0) (pv 4) rfl)
      (pss_cons (ps_fld (pv 0) (pe_lc rfl (sc_Reader_begin).nd (pi_range1 rfl T.b_range (pa_cons (m_call0 M_Size_group_count hr (pv 4)) pa_nil)) (blkOk_by (own := [("group", 5)]) (by kernel_rfl)) (bg_name (sc_Reader_begin).nd (i := 5) rfl rfl) (fun _ _ _ _ _ => pts_nil) (fun _ _ _ _ _ => (k_make K_ReadGroup hr (pa_cons (fldK (K := K) rfl (pv 0)) (pa_cons (pv 1) pa_nil))))) rfl)
      (pss_one (ps_ret (pe_lst (pa_cons (m_call0 M_Size_strand_count hr (pv 4)) pa_nil)))))))), ?_⟩
    refine ⟨_, rfl, _, rfl, _, rfl, ?_⟩
    intro x xd nx nxd nex
    refine ⟨x, xd, _, _, _, rfl, upd_same, ⟨rfl, ?_⟩⟩
    rw [upd_upd]
    have s2 : Same H (upd (upd H xd (.own x)) x (.ins A.Size xd (szF k m n))) := Same.upd (same_upd nxd) nx
    have ex : (upd (upd H xd (.own x)) x (.ins A.Size xd (szF k m n))) x = some (.ins A.Size xd (szF k m n)) := upd_same
    generalize upd (upd H xd (.own x)) x (.ins A.Size xd (szF k m n)) = H2 at s2 ex
    refine ⟨_, rfl, x, xd, _, rfl, ex, sz_no _ _ _ (by decide) (by decide) (by decide), x, _, _, _, rfl, ⟨xd, ex⟩, _, rfl, ?_⟩
    rw [told_eq]
    cases hg : (⟨k, m, n⟩ : Km348.Size).good with
    | false =>
      refine iteT ⟨(by show 1 ≤ sizeLine; decide), fun p hp => ?_⟩
      have s3 := Same.upd (o := .lst [V.int (-22)]) s2 (s2.free hp)
      rw [hg, if_neg Bool.false_ne_true, if_neg Bool.false_ne_true] at q
      exact q p _ (Kp.same s3) (hR.same s3) upd_same
    | true =>
      obtain ⟨hk, hm, hn, hS⟩ := good_iff.mp hg
      have hk : 1 ≤ k ∧ k ≤ 64 := hk
      have hm : m ≤ 32 := hm
      have hG : (⟨k, m, n⟩ : Km348.Size).groups ≤ 4096 := Nat.le_trans (Nat.le_mul_of_pos_left _ (by show 0 < k + m; omega)) hS
      rw [hg, if_pos rfl, if_pos rfl] at q
      refine iteF ?_
      have h1a := s2 _ _ h1
      refine ⟨_, rfl, _, rfl, a, A.Reader, dx, _, rfl, h1a, T.cl_Reader, T.na_Reader_size, (by show 3 < 1000; decide), ?_⟩
      have k3 : Kp 3 H2 (upd H2 a (.ins A.Reader dx (putF "size" (.ref x) (rdF fa sv gv)))) := Kp.upd Kp.refl h1a (kd_rd fa _ _)
      have e3 : (upd H2 a (.ins A.Reader dx (putF "size" (.ref x) (rdF fa sv gv)))) a = some (.ins A.Reader dx (rdF fa (.ref x) gv)) := upd_same
      generalize upd H2 a (.ins A.Reader dx (putF "size" (.ref x) (rdF fa sv gv))) = H3 at k3 e3
      have ex3 : H3 x = some (.ins A.Size xd (szF k m n)) := k3 _ _ ex (fun z => by cases z)
      have f3 : FieldAt A H3 fa := (h2.same s2).kp k3 (by decide)
      refine ⟨_, rfl, x, xd, _, rfl, ex3, sz_no _ _ _ (by decide) (by decide) (by decide), x, _, _, _, rfl, ⟨xd, ex3⟩, (by omega), ?_⟩
      rw [grp_eq m hk.1]
      refine ⟨_, rfl, by omega, by omega, ?_⟩
      rw [Int.toNat_natCast]
      refine lc_rngP (lo := 0) (n := (⟨k, m, n⟩ : Km348.Size).groups) (i := 5) (fun j acc D H' => ∃ gs ds : List Addr, acc = gs.map V.ref ∧ ds.length = j ∧ gs.Nodup ∧ ds.Nodup ∧ (∀ g ∈ gs, ∃ o, H' g = some o) ∧ (∀ d ∈ ds, ∃ o, H' d = some o) ∧ ∀ (i : Nat) (g d : Addr), gs[i]? = some g → ds[i]? = some d → (∃ gx, H' g = some (.ins A.ReadGroup gx (grF fa k d .non))) ∧ H' d = some (.dK []))
        (Nat.lt_of_le_of_lt hG (by decide)) (fun D hD => ⟨[], [], rfl, rfl, List.nodup_nil, List.nodup_nil, (fun g h => by cases h), (fun g h => by cases h), (fun i g d h => by simp at h)⟩) (by intros; rfl) ?_ ?_
      · rintro j acc D H' Qe Qf hj hD s5 la5 e5 ⟨gs, ds, rfl, ld5, ng, nd, eg, ed, c5⟩ k1
        rw [List.length_map] at la5
        refine ⟨_, rfl, a, A.Reader, dx, _, _, rfl, s5 _ _ e3, T.cl_Reader, T.na_Reader_field, rd_f fa _ _, _, rfl, ?_⟩
        intro y yd ny nyd ney
        refine ⟨y, yd, fa, _, rfl, upd_same, fun d H4 hd kb e1 e2 => ⟨rfl, ?_⟩⟩
        have s4 : Same H' H4 := Same.made ny nyd kb
        obtain ⟨hd1, dy⟩ := none_upd hd
        obtain ⟨hd2, dyd⟩ := none_upd hd1
        have keep : ∀ b o l, H4 b = some o → b ≠ D → (upd H4 D (.lst l)) b = some o := fun b o l e hb => by rw [upd_ne hb]; exact e
        have e5' := s4 _ _ e5
        have yD : y ≠ D := ne_of e1 e5' (by intro z; cases z)
        have dD : d ≠ D := ne_of e2 e5' (by intro z; cases z)
        refine k1 _ _ s4 ⟨gs ++ [y], ds ++ [d], by rw [List.map_append]; rfl, by rw [List.length_append, ld5]; rfl, nodup_snoc ng fun h => ?_, nodup_snoc nd fun h => ?_, fun g h => ?_, fun g h => ?_, fun i g d' hg' hd' => ?_⟩
        · obtain ⟨o, e⟩ := eg y h
          rw [ny] at e; cases e
        · obtain ⟨o, e⟩ := ed d h
          rw [hd2] at e; cases e
        · by_cases c : g = D
          · rw [c]; exact ⟨_, upd_same⟩
          · rcases List.mem_append.mp h with h | h
            · obtain ⟨o, e⟩ := eg g h
              exact ⟨o, keep _ _ _ (s4 _ _ e) c⟩
            · rw [List.mem_singleton.mp h]; exact ⟨_, keep _ _ _ e1 yD⟩
        · by_cases c : g = D
          · rw [c]; exact ⟨_, upd_same⟩
          · rcases List.mem_append.mp h with h | h
            · obtain ⟨o, e⟩ := ed g h
              exact ⟨o, keep _ _ _ (s4 _ _ e) c⟩
            · rw [List.mem_singleton.mp h]; exact ⟨_, keep _ _ _ e2 dD⟩
        · rcases get_snoc la5 hg' with c1 | ⟨ej, c1⟩
          · have hi : i < gs.length := (List.getElem?_eq_some_iff.mp c1).1
            rcases get_snoc ld5 hd' with c2 | ⟨ej2, c2⟩
            · obtain ⟨⟨gx, b1⟩, b2⟩ := c5 i g d' c1 c2
              have b1' := s4 _ _ b1
              have b2' := s4 _ _ b2
              exact ⟨⟨gx, keep _ _ _ b1' (ne_of b1' e5' (by intro z; cases z))⟩, keep _ _ _ b2' (ne_of b2' e5' (by intro z; cases z))⟩
            · omega
          · rcases get_snoc ld5 hd' with c2 | ⟨ej2, c2⟩
            · have := (List.getElem?_eq_some_iff.mp c2).1
              omega
            · rw [← c1, ← c2]
              exact ⟨⟨yd, keep _ _ _ e1 yD⟩, keep _ _ _ e2 dD⟩
      · rintro D H' acc hD s5 la5 e5 ⟨gs, ds, rfl, ld5, ng, nd, eg, ed, c5⟩
        rw [List.length_map] at la5
        have e3' := s5 _ _ e3
        refine ⟨_, rfl, a, A.Reader, dx, _, rfl, e3', T.cl_Reader, T.na_Reader_groups, (by show 3 < 1000; decide), ?_⟩
        have k8 : Kp 3 H' (upd H' a (.ins A.Reader dx (putF "groups" (.ref D) (rdF fa (.ref x) gv)))) := Kp.upd Kp.refl e3' (kd_rd fa _ _)
        have e8 : (upd H' a (.ins A.Reader dx (putF "groups" (.ref D) (rdF fa (.ref x) gv)))) a = some (.ins A.Reader dx (rdF fa (.ref x) (.ref D))) := upd_same
        generalize upd H' a (.ins A.Reader dx (putF "groups" (.ref D) (rdF fa (.ref x) gv))) = H8 at k8 e8
        have kA : Kp 3 H3 H8 := (Kp.same s5).trans k8
        have ex8 : H8 x = some (.ins A.Size xd (szF k m n)) := kA _ _ ex3 (fun z => by cases z)
        refine ⟨_, rfl, x, xd, _, rfl, ex8, sz_no _ _ _ (by decide) (by decide) (by decide), x, _, _, _, rfl, ⟨xd, ex8⟩, (by omega), (by omega), (by show 1 ≤ sizeLine; decide), fun p hp => ?_⟩
        have s9 := same_upd (o := .lst [V.int (grp (k : Int) (n : Int) * ((k : Int) + (m : Int)))]) hp
        refine q p _ ((((Kp.same s2).trans k3).trans kA).trans (Kp.same s9)) ?_ (by rw [upd_same, str_eq m hk.1])
        refine RdAt.same (st := some ⟨⟨k, m, n⟩, []⟩) ?_ s9
        have f8 : FieldAt A H8 fa := f3.kp kA (by decide)
        have ok0 : ROk ⟨⟨k, m, n⟩, []⟩ := ⟨hg, List.Pairwise.nil, fun x hx => by cases hx⟩
        refine ⟨dx, fa, x, D, gs, ds, e8, f8, ⟨xd, ex8⟩, k8.lst (by decide) e5, la5, ld5, ng, nd, fun i g d hg' hd' => ?_, ok0⟩
        obtain ⟨⟨gx, b1⟩, b2⟩ := c5 i g d hg' hd'
        exact ⟨⟨gx, fa, .non, [], [], k8 _ _ b1 (by rw [kd_gr]; decide), f8, k8 _ _ b2 (by show (4 : Nat) ≠ 3; decide), .nil, List.Perm.refl _, .inl rfl⟩, sok ok0 i⟩
abbrev st_Reader_read : Stmt := (inClass (top 55) 2)
theorem sc_Reader_read : FnScope ["self", "letters", "content", "number"] ["self", "letters"] (defScope st_Reader_read) := ⟨rfl, rfl, rfl, by decide +kernel, rfl, by decide +kernel, by decide +kernel⟩
abbrev ps_Reader_read : List Str := ["self", "letters"]
theorem ok_Reader_read (F : Fun K "read" "Reader.read" st_Reader_read f fd) (T : Txt K mg A)
    (G_may_be_mended : Glb P w K mg base "may_be_mended" 2 ps_may_be_mended (sp_may_be_mended K))
    (G_mended_content : Glb P w K mg base "mended_content" 3 ps_mended_content (sp_mended_content K))
    (G_number_in : Glb P w K mg base "number_in" 1 ps_number_in (sp_number_in K))
    (G_load_in : Glb P w K mg base "load_in" 1 ps_load_in (sp_load_in K))
    (M_Size_strand_count : Mth P w K mg base A.Size "strand_count" 2 ps_Size_strand_count (sp_Size_strand_count A))
    (M_Reader_keep_strand : Mth P w K mg base A.Reader "keep_strand" 3 ps_Reader_keep_strand (sp_Reader_keep_strand A)) :
    FnOk P w K mg base CX0 4 f fd ps_Reader_read (sp_Reader_read A) := by
  refine F.ok sc_Reader_read (fun vs H Q E h => ?_) (fun cdv Ar outer s H vs Q E hr h => ?_)
  · obtain ⟨a, la, R, l, rfl, _⟩ := h
    rfl
  · obtain ⟨a, la, R, l, rfl, hR, hla, hl, q⟩ := h
    obtain ⟨dx, fa, sz, gl, gs, ds, X⟩ := id hR
    obtain ⟨hk, hm, hn, hS⟩ := good_iff.mp X.ok.good
    refine ⟨_, (pss_cons (ps_if (pt_not (pt_val (g_call G_may_be_mended hr (pa_cons (pv 1) pa_nil)))) (pss_one (ps_ret (pe_lst (pa_cons (g_int T.c_WRONG_LETTERS) pa_nil)))) pss_nil)
      (pss_cons (ps_set (i := 2) (sc_Reader_read).nd rfl (by first | exact Or.inl rfl | exact Or.inr rfl) (g_call G_mended_content hr (pa_cons (pv 1) pa_nil)))
      (pss_cons (ps_if (pt_cmpR op_isN (pv 2) pe_non (nomark _)) (pss_one (ps_ret (pe_lst (pa_cons (g_int T.c_NOT_MENDED) pa_nil)))) pss_nil)
      (pss_cons (ps_set (i := 3) (sc_Reader_read).nd rfl (by first | exact Or.inl rfl | exact Or.inr rfl) (g_call G_number_in hr (pa_cons (pv 2) pa_nil)))
      (pss_cons (ps_if (pt_cmpR op_ge (pv 3) (m_call0 M_Size_strand_count hr (pe_fld (pv 0) rfl)) (nomark _)) (pss_one (ps_ret (pe_lst (pa_cons (g_int T.c_NOT_MENDED) pa_nil)))) pss_nil)
      (pss_one (ps_ret (pe_lst (pa_cons (m_call M_Reader_keep_strand hr (pv 0) (pa_cons (pv 3) (pa_cons (g_call G_load_in hr (pa_cons (pv 2) pa_nil)) pa_nil))) pa_nil))))))))), ?_⟩
    refine ⟨_, rfl, la, l, rfl, SqL.of hla, hl, fun H1 s1 => ⟨_, rfl, ?_⟩⟩
    have only : ∀ (v : Int) (H' : Hp), Same H H' → Km348.rDoes R (.rRead l l.length) = (R, Km348.only v) → ∀ p, H' p = none → Q (.ref p) (upd H' p (.lst [.int v])) := fun v H' s' e p hp => by
      rw [e] at q
      have s3 := Same.upd (o := .lst [V.int v]) s' (s'.free hp)
      exact q p _ (Kp.same s3) (hR.same s3) upd_same
    by_cases c1 : 63 ≤ l.length ∧ l.length ≤ 65
    · have nc : ¬ (l.length < 63 ∨ 65 < l.length) := by omega
      cases hz : Km348.readAs l with
      | none =>
        have hb : l.all isL = false := by
          cases e : l.all isL with
          | false => rfl
          | true => exact absurd hz (all_isL.mp e)
        rw [hb, Bool.and_false]
        refine iteT ⟨(by show 1 ≤ sizeLine; decide), only (-22) H1 s1 ?_⟩
        unfold Km348.rDoes
        dsimp only
        rw [if_neg nc, hz]
      | some z =>
        have hb : l.all isL = true := all_isL.mpr (by rw [hz]; intro e; cases e)
        rw [hb, decide_eq_true c1]
        refine iteF ?_
        have eD : Km348.rDoes R (.rRead l l.length) = match (mendedC z).map fun l => (l.getD 0 0 + 256 * l.getD 1 0, l.drop 2) with
            | none => (R, Km348.only (-74))
            | some x => if R.size.strands ≤ x.1 then (R, Km348.only (-74)) else ((keptR R x).1, Km348.only (keptR R x).2) := by
          unfold Km348.rDoes
          dsimp only
          rw [if_neg nc, hz]
          dsimp only
          rw [bind_inside]
          cases (mendedC z).map fun l => (l.getD 0 0 + 256 * l.getD 1 0, l.drop 2) with
          | none => rfl
          | some x =>
            dsimp only
            by_cases c : R.size.strands ≤ x.1
            · rw [if_pos c, if_pos c]
            · rw [if_neg c, if_neg c]
              unfold keptR at_
              cases R.got.find? (fun y => y.1 == x.1) with
              | none => rfl
              | some y => rfl
        refine ⟨_, rfl, la, l, z, rfl, SqL.of (s1 _ _ hla), c1, hz, fun p2 H2 c hc s2 e2 => ?_, fun H2 hc s2 => ?_⟩
        · have s2' := s1.trans s2
          have X2 := X.same s2'
          obtain ⟨c14, cb⟩ := content_mended hc
          obtain ⟨dx2, h3⟩ := X2.siz
          rw [hc] at eD
          dsimp only [Option.map] at eD
          refine ⟨_, rfl, rfl, _, rfl, iteF ?_⟩
          refine ⟨_, rfl, p2, c, rfl, SqL.of e2, c14, ?_⟩
          generalize hN : c.getD 0 0 + 256 * c.getD 1 0 = N at eD
          refine ⟨_, rfl, _, rfl, a, A.Reader, dx, _, _, rfl, X2.obj, T.cl_Reader, T.na_Reader_size, rd_s fa _ _, sz, dx2, _, rfl, h3, sz_no _ _ _ (by decide) (by decide) (by decide), sz, _, _, _, rfl, ⟨dx2, h3⟩, (by omega), (by omega), _, _, rfl, rfl, _, rfl, ?_⟩
          rw [str_eq R.size.m hk.1]
          have ez : (⟨R.size.k, R.size.m, R.size.n⟩ : Km348.Size) = R.size := rfl
          rw [ez]
          refine rd_and (fun cN => ?_) (fun cN => ?_)
          · rw [if_pos (by omega)] at eD
            exact ⟨(by show 1 ≤ sizeLine; decide), only (-74) H2 s2' eD⟩
          · rw [if_neg (by omega)] at eD
            rw [eD] at q
            refine ⟨_, rfl, a, dx, _, rfl, X2.obj, rd_no fa _ _ (by decide) (by decide) (by decide), _, rfl, _, rfl, p2, c, rfl, SqL.of e2, fun p5 H5 hp5 s5 e5 => ?_⟩
            refine ⟨a, p5, R, N, c.drop 2, rfl, hR.same (s2'.trans s5), e5, (by omega), (by rw [List.length_drop, c14]), (fun b hb => cb b (List.mem_of_mem_drop hb)), fun H6 k6 R6 => ⟨(by show 1 ≤ sizeLine; decide), fun p hp => ?_⟩⟩
            have s7 := same_upd (o := .lst [V.int (keptR R (N, c.drop 2)).2]) hp
            exact q p _ (((Kp.same (s2'.trans s5)).trans k6).trans (Kp.same s7)) (R6.same s7) upd_same
        · rw [hc] at eD
          refine ⟨_, rfl, rfl, _, rfl, iteT ⟨(by show 1 ≤ sizeLine; decide), only (-74) H2 (s1.trans s2) eD⟩⟩
    · rw [decide_eq_false c1]
      refine iteT ⟨(by show 1 ≤ sizeLine; decide), only (-22) H1 s1 ?_⟩
      unfold Km348.rDoes
      dsimp only
      rw [if_pos (by omega)]
end
end SS
end
section
set_option maxRecDepth 100000
set_option maxHeartbeats 2000000
namespace SS
open PySem PySem.Spec PyProof.Rows L2
def sp_Reader_file_bytes (A : Ad) : Sp := fun vs H Q _ => ∃ (a : Addr) (R : Km348.Reader) (fi e : Nat), vs = [.ref a, .int (fi : Nat), .int (e : Nat)] ∧ RdAt A H a (some R) ∧ fi < R.size.n ∧ e = min (fi + 256) R.size.n ∧
  ∀ p H', Kp 4 H H' → RdAt A H' a (some R) → H' p = some (.lst (vN ((R.file.drop fi).take 256))) → Q (.ref p) H'
def sp_Reader_block (A : Ad) : Sp := fun vs H Q _ => ∃ (a : Addr) (R : Km348.Reader) (b : Nat), vs = [.ref a, .int (b : Nat)] ∧ RdAt A H a (some R) ∧
  ∀ p H', Kp 4 H H' → RdAt A H' a (some R) → H' p = some (.lst ((Km348Neutral.told (Km348.rDoes R (.rBytes b)).2).map V.int)) → Q (.ref p) H'
theorem rep0 (t : Nat) : (List.replicate t [V.int 0]).flatten = vN (List.replicate t 0) := by
  induction t with
  | zero => rfl
  | succ t ih => rw [List.replicate_succ, List.flatten_cons, ih, List.replicate_succ]; rfl
section
variable {P : Program} {w : World} {K : PySem.W.Frag} {mg : Str → Option Value} {base : Heap} {A : Ad} {f : Addr} {fd : FuncData}
abbrev st_Reader_file_bytes : Stmt := (inClass (top 55) 7)
theorem sc_Reader_file_bytes : FnScope ["self", "first", "end", "first_load", "content", "index", "skipped", "group"] ["self", "first", "end"] (defScope st_Reader_file_bytes) := ⟨rfl, rfl, rfl, by decide +kernel, rfl, by decide +kernel, by decide +kernel⟩
abbrev ps_Reader_file_bytes : List Str := ["self", "first", "end"]
theorem ok_Reader_file_bytes (F : Fun K "file_bytes" "Reader.file_bytes" st_Reader_file_bytes f fd) (T : Txt K mg A)
    (M_ReadGroup_filled_load : Mth P w K mg base A.ReadGroup "filled_load" 5 ps_ReadGroup_filled_load (sp_ReadGroup_filled_load A)) :
    FnOk P w K mg base CX0 6 f fd ps_Reader_file_bytes (sp_Reader_file_bytes A) := by
  refine F.ok sc_Reader_file_bytes (fun vs H Q E h => ?_) (fun cdv Ar outer s H vs Q E hr h => ?_)
  · obtain ⟨a, R, fi, e, rfl, _⟩ := h
    rfl
  · obtain ⟨a, R, fi, e, rfl, hR, hfi, he, q⟩ := h
    obtain ⟨dx, fa, sz, gl, gs, ds, X⟩ := hR
    obtain ⟨hk, hm, hn, hS⟩ := good_iff.mp X.ok.good
    have hch : ∀ i, (chunk R i).length = 12 := fun i => (loadAt_ok (fun x hx => (group_ok X.ok hk.1 (i / R.size.k)).2.1 x (List.mem_of_mem_take hx) |>.2) _).1
    have hcb : ∀ i, ∀ b ∈ chunk R i, b < 256 := fun i => (loadAt_ok (fun x hx => (group_ok X.ok hk.1 (i / R.size.k)).2.1 x (List.mem_of_mem_take hx) |>.2) _).2
    have hgn := groups_n (z := R.size) hk.1
    have hB := block_eq hch (T := R.size.groups * R.size.k) (n := R.size.n) (first := fi) (e := e) hgn (by omega) (by omega) (by omega) he
    rw [← file_eq hk.1] at hB
    refine ⟨_, (pss_cons (ps_set (i := 3) (sc_Reader_file_bytes).nd rfl (by first | exact Or.inl rfl | exact Or.inr rfl) (pe_op op_fdiv (pv 1) (g_int T.c_LOAD_LENGTH)))
      (pss_cons (ps_set (i := 4) (sc_Reader_file_bytes).nd rfl (by first | exact Or.inl rfl | exact Or.inr rfl) (pe_lst pa_nil))
      (pss_cons (ps_for PassesOwn.never rfl (pi_range2 rfl T.b_range (pa_cons (pv 3) (pa_cons (pe_op op_add (pe_op op_fdiv (pe_op op_sub (pv 2) pe_int) (g_int T.c_LOAD_LENGTH)) pe_int) pa_nil))) (pg_name (i := 5) (sc_Reader_file_bytes).nd rfl (by first | exact Or.inl rfl | exact Or.inr rfl))
        (pss_cons (ps_set (i := 7) (sc_Reader_file_bytes).nd rfl (by first | exact Or.inl rfl | exact Or.inr rfl) (pe_ix ix_list (pe_fld (pv 0) rfl) (pe_op op_fdiv (pv 5) (pe_fld (pe_fld (pv 0) rfl) rfl)) (fun _ _ => rfl)))
      (pss_one (ps_expr (pe_bm PySem.F.plainAttrs_list PySem.F.slot_list_extend PySem.F.type_list_extend mt_extend (pv 4) (pa_cons (pe_lock (m_call M_ReadGroup_filled_load hr (pv 7) (pa_cons (pe_op op_mod (pv 5) (pe_fld (pe_fld (pv 0) rfl) rfl)) pa_nil))) pa_nil))))))
      (pss_cons (ps_set (i := 6) (sc_Reader_file_bytes).nd rfl (by first | exact Or.inl rfl | exact Or.inr rfl) (pe_op op_mul (g_int T.c_LOAD_LENGTH) (pv 3)))
      (pss_one (ps_ret (pe_slice sl_list (pv 4) (po_some (pe_op op_sub (pv 1) (pv 6))) (po_some (pe_op op_sub (pv 2) (pv 6)))))))))), ?_⟩
    refine ⟨_, rfl, _, _, rfl, rfl, ⟨by decide, by decide⟩, ?_⟩
    have e12 : (fun i j : Int => V.int (i / j)) (fi : Int) 12 = V.int ((fi / 12 : Nat) : Int) := by show V.int ((fi : Int) / 12) = _; rw [show (fi : Int) / 12 = ((fi / 12 : Nat) : Int) by omega]
    rw [e12]
    refine ⟨Nat.zero_le _, fun c hc => ?_⟩
    refine ⟨_, rfl, _, rfl, _, _, rfl, rfl, _, _, rfl, rfl, ⟨by decide, by decide⟩, _, _, rfl, rfl, ((fi / 12 : Nat) : Int), (((e : Int) - 1) / 12 + 1), rfl, ⟨by omega, by omega, by omega, by omega⟩, ?_⟩
    have hcnt : ((((e : Int) - 1) / 12 + 1) - ((fi / 12 : Nat) : Int)).toNat = (e - 1) / 12 + 1 - fi / 12 := by omega
    rw [hcnt]
    have hT : fi / 12 + ((e - 1) / 12 + 1 - fi / 12) ≤ R.size.groups * R.size.k := by omega
    refine for_range (lo := ((fi / 12 : Nat) : Int)) (n := (e - 1) / 12 + 1 - fi / 12) (fun m σ H' => ∃ v5 v7 : Option V, σ = [some (.ref a), some (.int (fi : Nat)), some (.int (e : Nat)), some (.int ((fi / 12 : Nat) : Int)), some (.ref c), v5, none, v7] ∧ Kp 4 H H' ∧ H' c = some (.lst (vN ((List.range' (fi / 12) m).flatMap (chunk R)))) ∧
        ∀ od, RdX A (upd H' c (.frz od (.lst (vN ((List.range' (fi / 12) m).flatMap (chunk R)))))) a R dx fa sz gl gs ds)
      ?_ ?_ ?_
    · refine ⟨none, none, rfl, Kp.new Kp.refl hc, upd_same, fun od => ?_⟩
      rw [upd_upd]
      exact X.same (same_upd hc)
    · rintro m σ H' hm' ⟨v5, v7, rfl, k5, e5, X5⟩
      have od0 : Obj := { cls := .none, data := .seq #[] }
      have XU : RdX A H' a R dx fa sz gl gs ds := (X5 od0).kp Kp.unlock (by decide) (by decide) (by decide)
      obtain ⟨dx2, h3⟩ := XU.siz
      have ei : ((fi / 12 : Nat) : Int) + (m : Nat) = ((fi / 12 + m : Nat) : Int) := by omega
      rw [ei]
      have hix : (fi / 12 + m) / R.size.k < R.size.groups := by
        rw [Nat.div_lt_iff_lt_mul (by omega)]
        omega
      have hmx : (fi / 12 + m) % R.size.k < R.size.k := Nat.mod_lt _ (by omega)
      have ec : chunk R (fi / 12 + m) = Km348.loadAt ((R.group ((fi / 12 + m) / R.size.k)).take R.size.k) ((fi / 12 + m) % R.size.k) := rfl
      obtain ⟨g, hg⟩ : ∃ g, gs[(fi / 12 + m) / R.size.k]? = some g := ⟨_, List.getElem?_eq_getElem (by rw [X.lg]; exact hix)⟩
      obtain ⟨d, hd⟩ : ∃ d, ds[(fi / 12 + m) / R.size.k]? = some d := ⟨_, List.getElem?_eq_getElem (by rw [X.ld]; exact hix)⟩
      refine ⟨_, rfl, a, A.Reader, dx, _, _, rfl, XU.obj, T.cl_Reader, T.na_Reader_groups, rd_g fa _ _, _, rfl, _, rfl, a, A.Reader, dx, _, _, rfl, XU.obj, T.cl_Reader, T.na_Reader_size, rd_s fa _ _, sz, A.Size, dx2, _, _, rfl, h3, T.cl_Size, T.na_Size_k, sz_k _ _ _, _, _, rfl, rfl, ⟨by omega, by omega⟩, ?_⟩
      dsimp only
      rw [← Int.natCast_ediv]
      refine ⟨gl, _, _, .ref g, rfl, rfl, SqL.of XU.lst, atI_nat (by rw [List.getElem?_map, hg]; rfl), ?_⟩
      refine ⟨_, rfl, .inl ⟨rfl, _, SqL.of e5⟩, c, _, e5, True.intro, fun od => ?_⟩
      have XL := X5 od
      obtain ⟨dx3, h4⟩ := XL.siz
      have G := XL.grp _ g d hg hd
      obtain ⟨gx, fb, fl, kvs, ld, g1, _⟩ := G.ex
      refine ⟨_, rfl, g, gx, _, rfl, g1, gr_no fb _ _ _ (by decide) (by decide) (by decide) (by decide), _, rfl, _, rfl, a, A.Reader, dx, _, _, rfl, XL.obj, T.cl_Reader, T.na_Reader_size, rd_s fa _ _, sz, A.Size, dx3, _, _, rfl, h4, T.cl_Size, T.na_Size_k, sz_k _ _ _, _, _, rfl, rfl, (by omega), ?_⟩
      dsimp only
      rw [← Int.natCast_emod]
      refine ⟨g, d, _, _, _, rfl, G, hk.2, hmx, fun la H2 G2 kb e2 => ?_⟩
      have ecl : (upd H' c (.frz od (.lst (vN ((List.range' (fi / 12) m).flatMap (chunk R)))))) c = some (.frz od (.lst (vN ((List.range' (fi / 12) m).flatMap (chunk R))))) := upd_same
      have cg : c ≠ g := ne_of ecl g1 (by intro z; cases z)
      have e2c := kb _ _ ecl cg
      refine ⟨e2c, ?_⟩
      obtain ⟨X2, K4⟩ := XL.step (R' := R) hg hd (fun b o e h1 _ => kb b o e h1) G2 rfl (fun i _ => rfl) X.ok
      have lac : la ≠ c := ne_of e2 e2c (by intro z; cases z)
      refine ⟨c, la, _, _, rfl, rfl, upd_same, (by rw [upd_ne lac]; exact e2), ?_, ?_⟩
      · rw [vN_len, vN_len, flat_len hch, ← ec, hch]
        exact Nat.le_trans (show 12 * m + 12 ≤ 100000 by omega) (by decide)
      · rw [upd_upd, ← ec, ← vN_app]
        have es : (List.range' (fi / 12) m).flatMap (chunk R) ++ chunk R (fi / 12 + m) = (List.range' (fi / 12) (m + 1)).flatMap (chunk R) := by
          rw [List.range'_concat, List.flatMap_append, Nat.one_mul, List.flatMap_cons, List.flatMap_nil, List.append_nil]
        rw [es]
        have kH2 : Kp 4 H H2 := (Kp.new k5 hc).trans K4
        refine ⟨_, _, rfl, Kp.new kH2 hc, upd_same, fun od' => ?_⟩
        rw [upd_upd]
        exact X2.kp (Kp.relock e2c) (by decide) (by decide) (by decide)
    · rintro σ H' ⟨v5, v7, rfl, k5, e5, X5⟩
      have od0 : Obj := { cls := .none, data := .seq #[] }
      have XU : RdX A H' a R dx fa sz gl gs ds := (X5 od0).kp Kp.unlock (by decide) (by decide) (by decide)
      refine ⟨_, rfl, _, _, rfl, rfl, .inl (by decide), ?_⟩
      refine ⟨_, rfl, _, rfl, _, rfl, _, _, rfl, rfl, _, rfl, _, rfl, _, rfl, _, _, rfl, rfl, _, rfl, c, _, rfl, SqL.of e5, fun p hp => ?_⟩
      dsimp only
      have s6 := same_upd (o := .lst (vN ((R.file.drop fi).take 256))) hp
      have ee : cutV (vN ((List.range' (fi / 12) ((e - 1) / 12 + 1 - fi / 12)).flatMap (chunk R))) (some ((fi : Int) - 12 * ((fi / 12 : Nat) : Int))) (some ((e : Int) - 12 * ((fi / 12 : Nat) : Int))) = vN ((R.file.drop fi).take 256) := by
        rw [show (fi : Int) - 12 * ((fi / 12 : Nat) : Int) = ((fi - 12 * (fi / 12) : Nat) : Int) by omega, show (e : Int) - 12 * ((fi / 12 : Nat) : Int) = ((e - 12 * (fi / 12) : Nat) : Int) by omega, cut_nat, show e - 12 * (fi / 12) - (fi - 12 * (fi / 12)) = e - fi by omega, vN_drop, vN_take, hB]
      rw [ee]
      exact q p _ (k5.trans (Kp.same s6)) ⟨dx, fa, sz, gl, gs, ds, XU.same s6⟩ upd_same
abbrev st_Reader_block : Stmt := (inClass (top 55) 6)
theorem sc_Reader_block : FnScope ["self", "number", "first", "content"] ["self", "number"] (defScope st_Reader_block) := ⟨rfl, rfl, rfl, by decide +kernel, rfl, by decide +kernel, by decide +kernel⟩
abbrev ps_Reader_block : List Str := ["self", "number"]
theorem ok_Reader_block (F : Fun K "block" "Reader.block" st_Reader_block f fd) (T : Txt K mg A)
    (M_Reader_lacking_count : Mth P w K mg base A.Reader "lacking_count" 2 ps_Reader_lacking_count (sp_Reader_lacking_count A))
    (M_Reader_file_bytes : Mth P w K mg base A.Reader "file_bytes" 6 ps_Reader_file_bytes (sp_Reader_file_bytes A)) :
    FnOk P w K mg base CX0 7 f fd ps_Reader_block (sp_Reader_block A) := by
  refine F.ok sc_Reader_block (fun vs H Q E h => ?_) (fun cdv Ar outer s H vs Q E hr h => ?_)
  · obtain ⟨a, R, b, rfl, _⟩ := h
    rfl
  · obtain ⟨a, R, b, rfl, hR, q⟩ := h
    obtain ⟨dx, fa, sz, gl, gs, ds, X⟩ := id hR
    obtain ⟨hk, hm, hn, hS⟩ := good_iff.mp X.ok.good
    obtain ⟨dx2, h3⟩ := X.siz
    have eD : Km348.rDoes R (.rBytes b) = (R, if R.size.n ≤ 256 * b then Km348.only (-22) else if R.lacks ≠ 0 then Km348.only (-11) else Km348.part R.file b) := rfl
    rw [eD] at q
    refine ⟨_, (pss_cons (ps_set (i := 2) (sc_Reader_block).nd rfl (by first | exact Or.inl rfl | exact Or.inr rfl) (pe_op op_mul (g_int T.c_BLOCK_LENGTH) (pv 1)))
      (pss_cons (ps_if (pt_cmpR op_ge (pv 2) (pe_fld (pe_fld (pv 0) rfl) rfl) (nomark _)) (pss_one (ps_ret (pe_lst (pa_cons (g_int T.c_NO_BLOCK) pa_nil)))) pss_nil)
      (pss_cons (ps_if (pt_cmpR op_gt (m_call0 M_Reader_lacking_count hr (pv 0)) pe_int (nomark _)) (pss_one (ps_ret (pe_lst (pa_cons (g_int T.c_STRANDS_LACKING) pa_nil)))) pss_nil)
      (pss_cons (ps_set (i := 3) (sc_Reader_block).nd rfl (by first | exact Or.inl rfl | exact Or.inr rfl) (m_call M_Reader_file_bytes hr (pv 0) (pa_cons (pv 2) (pa_cons (pe_callB (call_min2 rfl) rfl T.b_min PyProof.Rows.boot_min (pa_cons (pe_op op_add (pv 2) (g_int T.c_BLOCK_LENGTH)) (pa_cons (pe_fld (pe_fld (pv 0) rfl) rfl) pa_nil))) pa_nil))))
      (pss_one (ps_ret (pe_op op_cat (pe_op op_cat (pe_lst (pa_cons (pe_callB call_len_seq rfl T.b_len PySem.boot_len (pa_cons (pv 3) pa_nil)) pa_nil)) (pv 3)) (pe_op op_rep (pe_lst (pa_cons pe_int pa_nil)) (pe_op op_sub (g_int T.c_BLOCK_LENGTH) (pe_callB call_len_seq rfl T.b_len PySem.boot_len (pa_cons (pv 3) pa_nil))))))))))), ?_⟩
    refine ⟨_, rfl, _, _, rfl, rfl, .inl (by decide), ?_⟩
    dsimp only
    rw [show (256 : Int) * (b : Nat) = ((256 * b : Nat) : Int) by omega]
    refine ⟨_, rfl, _, rfl, a, A.Reader, dx, _, _, rfl, X.obj, T.cl_Reader, T.na_Reader_size, rd_s fa _ _, sz, A.Size, dx2, _, _, rfl, h3, T.cl_Size, T.na_Size_n, sz_n _ _ _, _, _, rfl, rfl, _, rfl, rd_and (fun c => ?_) (fun c => ?_)⟩
    · rw [if_pos (by omega)] at q
      refine ⟨(by show 1 ≤ sizeLine; decide), fun p hp => ?_⟩
      have s1 := same_upd (o := .lst [V.int (-22)]) hp
      exact q p _ (Kp.same s1) (hR.same s1) upd_same
    · rw [if_neg (by omega)] at q
      refine ⟨_, rfl, a, dx, _, rfl, X.obj, rd_no fa _ _ (by decide) (by decide) (by decide), a, R, rfl, hR, fun H1 s1 => ⟨_, _, rfl, rfl, _, rfl, rd_and (fun c2 => ?_) (fun c2 => ?_)⟩⟩
      · rw [if_pos (by omega)] at q
        refine ⟨(by show 1 ≤ sizeLine; decide), fun p hp => ?_⟩
        have s2 := s1.trans (same_upd (o := .lst [V.int (-11)]) hp)
        exact q p _ (Kp.same s2) (hR.same s2) upd_same
      · rw [if_neg (by omega)] at q
        have X1 := X.same s1
        obtain ⟨dx3, h4⟩ := X1.siz
        refine ⟨_, rfl, a, dx, _, rfl, X1.obj, rd_no fa _ _ (by decide) (by decide) (by decide), _, rfl, _, rfl, _, _, rfl, rfl, _, rfl, a, A.Reader, dx, _, _, rfl, X1.obj, T.cl_Reader, T.na_Reader_size, rd_s fa _ _, sz, A.Size, dx3, _, _, rfl, h4, T.cl_Size, T.na_Size_n, sz_n _ _ _, _, _, rfl, ?_⟩
        refine ⟨a, R, 256 * b, min (256 * b + 256) R.size.n, ?_, hR.same s1, (by omega), rfl, fun p2 H2 k2 R2 e2 => ?_⟩
        · have : (if (R.size.n : Int) < ((256 * b : Nat) : Int) + 256 then (R.size.n : Int) else ((256 * b : Nat) : Int) + 256) = ((min (256 * b + 256) R.size.n : Nat) : Int) := by split <;> omega
          rw [← this]
          rfl
        have eP : Km348.part R.file b = { value := (((R.file.drop (256 * b)).take 256).length : Int), out := ((R.file.drop (256 * b)).take 256 ++ List.replicate 256 0).take 256 } := rfl
        rw [eP] at q
        have hL : ((R.file.drop (256 * b)).take 256).length ≤ 256 := by rw [List.length_take]; omega
        generalize (R.file.drop (256 * b)).take 256 = L at q e2 hL
        have eT : (L ++ List.replicate 256 0).take 256 = L ++ List.replicate (256 - L.length) 0 := by
          rw [List.take_append, List.take_of_length_le hL, List.take_replicate, Nat.min_eq_left (by omega)]
        rw [eT] at q
        refine ⟨_, rfl, p2, _, rfl, .inl (SqL.of e2), (by show 1 ≤ sizeLine; decide), fun p3 hp3 => ?_⟩
        rw [vN_len]
        have s3 := same_upd (o := .lst [V.int (L.length : Int)]) hp3
        refine ⟨_, rfl, p3, p2, _, _, rfl, rfl, upd_same, s3 _ _ e2, ?_, fun p4 hp4 => ?_⟩
        · rw [vN_len]
          exact Nat.le_trans (show 1 + L.length ≤ 1000 by omega) (by decide)
        have s4 := Same.upd (o := .lst ([V.int (L.length : Int)] ++ vN L)) s3 (s3.free hp4)
        have e4 : (upd (upd H2 p3 (.lst [V.int (L.length : Int)])) p4 (.lst ([V.int (L.length : Int)] ++ vN L))) p4 = some (.lst ([V.int (L.length : Int)] ++ vN L)) := upd_same
        generalize upd (upd H2 p3 (.lst [V.int (L.length : Int)])) p4 (.lst ([V.int (L.length : Int)] ++ vN L)) = H4 at s4 e4
        refine ⟨(by show 1 ≤ sizeLine; decide), fun z hz => ?_⟩
        have s5 := same_upd (o := .lst [V.int 0]) hz
        refine ⟨_, rfl, p2, _, rfl, .inl (SqL.of (s5 _ _ (s4 _ _ e2))), _, _, rfl, rfl, z, _, _, rfl, rfl, upd_same, ?_⟩
        rw [vN_len, show ((256 : Int) - (L.length : Int)).toNat = 256 - L.length by omega]
        refine ⟨by omega, by omega, ?_, fun r hr' => ?_⟩
        · exact Nat.le_trans (show 1 * (256 - L.length) ≤ 256 by omega) (by decide)
        rw [rep0]
        have s6 := Same.upd (o := .lst (vN (List.replicate (256 - L.length) 0))) s5 (s5.free hr')
        refine ⟨p4, r, _, _, rfl, rfl, s6 _ _ e4, upd_same, ?_, fun p hp => ?_⟩
        · rw [List.length_append, vN_len, vN_len, List.length_replicate]
          exact Nat.le_trans (show 1 + L.length + (256 - L.length) ≤ 1000 by omega) (by decide)
        have s7 := Same.upd (o := .lst ([V.int (L.length : Int)] ++ vN L ++ vN (List.replicate (256 - L.length) 0))) s6 (s6.free hp)
        have sA := s4.trans s7
        refine q p _ (((Kp.same s1).trans k2).trans (Kp.same sA)) (R2.same sA) ?_
        rw [upd_same, List.append_assoc, ← vN_app, vN_int]
        rfl
end
end SS
end
section
set_option maxRecDepth 100000
set_option maxHeartbeats 2000000
namespace SS
open PySem PySem.Spec PyProof.Rows L2
theorem drop_get {l r : List Int} {i : Nat} (h : l.drop i = r) (j : Nat) : l[i + j]? = r[j]? := by rw [← h, List.getElem?_drop]
theorem drop_more {l r : List Int} {i : Nat} (h : l.drop i = r) (j : Nat) : l.drop (i + j) = r.drop j := by rw [← h, List.drop_drop]
theorem call_cases {x : Int} {r t : List Int} {c : List (List Int)} (h : PyFlat.call PyKm348.shape (x :: r) = some (c, t)) :
    (x = 0 ∧ ∃ (k m : Int) (n : Nat) (r3 : List Int), r = k :: m :: (n : Int) :: r3 ∧ n ≤ r3.length ∧ c = [[0, k, m], r3.take n] ∧ t = r3.drop n) ∨
    (x = 1 ∧ ∃ q : Int, r = q :: t ∧ c = [[1, q]]) ∨ (x = 2 ∧ ∃ k m n : Int, r = k :: m :: n :: t ∧ c = [[2, k, m, n]]) ∨
    (x = 3 ∧ ∃ (n : Nat) (r1 : List Int), r = (n : Int) :: r1 ∧ n ≤ r1.length ∧ c = [[3], r1.take n] ∧ t = r1.drop n) ∨
    (x = 4 ∧ t = r ∧ c = [[4]]) ∨ (x = 5 ∧ ∃ b : Int, r = b :: t ∧ c = [[5, b]]) := by
  have row1 : ∀ {r : List Int} {y : List (List Int)} {t : List Int}, PyFlat.rows 1 r = some (y, t) → ∃ (n : Nat) (r1 : List Int), r = (n : Int) :: r1 ∧ n ≤ r1.length ∧ y = [r1.take n] ∧ t = r1.drop n := by
    intro r y t h
    unfold PyFlat.rows at h
    cases r with
    | nil => simp [PyFlat.row] at h
    | cons n r1 =>
      unfold PyFlat.row at h
      dsimp only at h
      by_cases cc : 0 ≤ n ∧ n.toNat ≤ r1.length
      · rw [if_pos cc] at h
        unfold PyFlat.rows at h
        simp only [Option.some.injEq, Prod.mk.injEq] at h
        exact ⟨n.toNat, r1, by rw [show ((n.toNat : Nat) : Int) = n by omega], cc.2, h.1.symm, h.2.symm⟩
      · rw [if_neg cc] at h
        cases h
  have row0 : ∀ {r : List Int} {y : List (List Int)} {t : List Int}, PyFlat.rows 0 r = some (y, t) → y = [] ∧ t = r := by
    intro r y t h
    unfold PyFlat.rows at h
    simp only [Option.some.injEq, Prod.mk.injEq] at h
    exact ⟨h.1.symm, h.2.symm⟩
  unfold PyFlat.call at h
  dsimp only at h
  unfold PyKm348.shape at h
  by_cases c0 : x = 0
  · rw [if_pos c0] at h
    dsimp only at h
    by_cases cl : r.length < 2
    · rw [if_pos cl] at h; cases h
    · rw [if_neg cl] at h
      match r, cl with
      | k :: m :: r2, _ =>
        cases e : PyFlat.rows 1 ((k :: m :: r2).drop 2) with
        | none => rw [e] at h; cases h
        | some yt =>
          obtain ⟨y, t'⟩ := yt
          rw [e] at h
          obtain ⟨n, r3, e1, e2, e3, e4⟩ := row1 e
          have e1 : r2 = (n : Int) :: r3 := e1
          simp only [Option.some.injEq, Prod.mk.injEq] at h
          refine .inl ⟨c0, k, m, n, r3, by rw [e1], e2, ?_, by rw [← h.2, e4]⟩
          rw [← h.1, e3, c0]; rfl
      | [], h => simp at h
      | [_], h => simp at h
  · rw [if_neg c0] at h
    by_cases c1 : x = 1
    · rw [if_pos c1] at h
      dsimp only at h
      by_cases cl : r.length < 1
      · rw [if_pos cl] at h; cases h
      · rw [if_neg cl] at h
        match r, cl with
        | k :: r2, _ =>
          cases e : PyFlat.rows 0 ((k :: r2).drop 1) with
          | none => rw [e] at h; cases h
          | some yt =>
            obtain ⟨y, t'⟩ := yt
            rw [e] at h
            obtain ⟨e1, e2⟩ := row0 e
            simp only [Option.some.injEq, Prod.mk.injEq] at h
            refine .inr (.inl ⟨c1, k, by rw [← h.2, e2]; rfl, ?_⟩)
            rw [← h.1, e1, c1]; rfl
        | [], h => simp at h
    · rw [if_neg c1] at h
      by_cases c2 : x = 2
      · rw [if_pos c2] at h
        dsimp only at h
        by_cases cl : r.length < 3
        · rw [if_pos cl] at h; cases h
        · rw [if_neg cl] at h
          match r, cl with
          | k :: m :: n :: r2, _ =>
            cases e : PyFlat.rows 0 ((k :: m :: n :: r2).drop 3) with
            | none => rw [e] at h; cases h
            | some yt =>
              obtain ⟨y, t'⟩ := yt
              rw [e] at h
              obtain ⟨e1, e2⟩ := row0 e
              simp only [Option.some.injEq, Prod.mk.injEq] at h
              refine .inr (.inr (.inl ⟨c2, k, m, n, by rw [← h.2, e2]; rfl, ?_⟩))
              rw [← h.1, e1, c2]; rfl
          | [], h => simp at h
          | [_], h => simp at h
          | [_, _], h => simp at h
      · rw [if_neg c2] at h
        by_cases c3 : x = 3
        · rw [if_pos c3] at h
          dsimp only at h
          rw [if_neg (by omega)] at h
          cases e : PyFlat.rows 1 (r.drop 0) with
          | none => rw [e] at h; cases h
          | some yt =>
            obtain ⟨y, t'⟩ := yt
            rw [e] at h
            rw [List.drop_zero] at e
            obtain ⟨n, r3, e1, e2, e3, e4⟩ := row1 e
            simp only [Option.some.injEq, Prod.mk.injEq] at h
            refine .inr (.inr (.inr (.inl ⟨c3, n, r3, e1, e2, ?_, by rw [← h.2, e4]⟩)))
            rw [← h.1, e3, c3]; rfl
        · rw [if_neg c3] at h
          by_cases c4 : x = 4
          · rw [if_pos c4] at h
            dsimp only at h
            rw [if_neg (by omega)] at h
            cases e : PyFlat.rows 0 (r.drop 0) with
            | none => rw [e] at h; cases h
            | some yt =>
              obtain ⟨y, t'⟩ := yt
              rw [e] at h
              obtain ⟨e1, e2⟩ := row0 e
              simp only [Option.some.injEq, Prod.mk.injEq] at h
              refine .inr (.inr (.inr (.inr (.inl ⟨c4, by rw [← h.2, e2]; rfl, ?_⟩))))
              rw [← h.1, e1, c4]; rfl
          · rw [if_neg c4] at h
            by_cases c5 : x = 5
            · rw [if_pos c5] at h
              dsimp only at h
              by_cases cl : r.length < 1
              · rw [if_pos cl] at h; cases h
              · rw [if_neg cl] at h
                match r, cl with
                | k :: r2, _ =>
                  cases e : PyFlat.rows 0 ((k :: r2).drop 1) with
                  | none => rw [e] at h; cases h
                  | some yt =>
                    obtain ⟨y, t'⟩ := yt
                    rw [e] at h
                    obtain ⟨e1, e2⟩ := row0 e
                    simp only [Option.some.injEq, Prod.mk.injEq] at h
                    refine .inr (.inr (.inr (.inr (.inr ⟨c5, k, by rw [← h.2, e2]; rfl, ?_⟩))))
                    rw [← h.1, e1, c5]; rfl
                | [], h => simp at h
            · rw [if_neg c5] at h
              cases h
def sp_sk_start (K : PySem.W.Frag) (A : Ad) : Sp := fun vs H Q _ => ∃ (a w dx cl : Addr) (ns : List Int) (i k m n : Nat) (ws : Option Km348.Writer) (l : List Nat), vs = [.ref a, .ref w] ∧ H a = some (.ins A.CallNumbers dx (cnF cl i)) ∧ SqL K H cl (ns.map V.int) ∧
  ns[i]? = some (k : Int) ∧ ns[i + 1]? = some (m : Int) ∧ ns[i + 2]? = some (n : Int) ∧ i + 3 + n ≤ ns.length ∧ (ns.drop (i + 3)).take n = l.map (fun n : Nat => (n : Int)) ∧ (∀ b ∈ l, b < 256) ∧ WrAt A H w ws ∧
  ∀ p H1 H', Kp 1 H H1 → H1 a = some (.ins A.CallNumbers dx (cnF cl ((i + 3 + n : Nat) : Int))) → Kp 2 H1 H' → WrAt A H' w (if (⟨k, m, l.length⟩ : Km348.Size).good = true then some ⟨⟨k, m, l.length⟩, l⟩ else ws) → H' p = some (.lst [.int (if (⟨k, m, l.length⟩ : Km348.Size).good = true then (((⟨k, m, l.length⟩ : Km348.Size).strands : Nat) : Int) else -22)]) → Q (.ref p) H'
def sp_sr_start (K : PySem.W.Frag) (A : Ad) : Sp := fun vs H Q _ => ∃ (a r dx cl : Addr) (ns : List Int) (i k m n : Nat) (rs : Option Km348.Reader), vs = [.ref a, .ref r] ∧ H a = some (.ins A.CallNumbers dx (cnF cl i)) ∧ SqL K H cl (ns.map V.int) ∧
  ns[i]? = some (k : Int) ∧ ns[i + 1]? = some (m : Int) ∧ ns[i + 2]? = some (n : Int) ∧ RdAt A H r rs ∧
  ∀ p H1 H', Kp 1 H H1 → H1 a = some (.ins A.CallNumbers dx (cnF cl ((i + 3 : Nat) : Int))) → Kp 3 H1 H' → RdAt A H' r (if (⟨k, m, n⟩ : Km348.Size).good = true then some ⟨⟨k, m, n⟩, []⟩ else rs) → H' p = some (.lst [.int (if (⟨k, m, n⟩ : Km348.Size).good = true then (((⟨k, m, n⟩ : Km348.Size).strands : Nat) : Int) else -22)]) → Q (.ref p) H'
section
variable {P : Program} {w : World} {K : PySem.W.Frag} {mg : Str → Option Value} {base : Heap} {A : Ad} {f : Addr} {fd : FuncData}
abbrev st_sk_start : Stmt := (top 67)
theorem sc_sk_start : FnScope ["numbers", "writer", "k", "m"] ["numbers", "writer"] (defScope st_sk_start) := ⟨rfl, rfl, rfl, by decide +kernel, rfl, by decide +kernel, by decide +kernel⟩
abbrev ps_sk_start : List Str := ["numbers", "writer"]
theorem ok_sk_start (F : Fun K "sk_start" "sk_start" st_sk_start f fd) (T : Txt K mg A)
    (M_CallNumbers_take_number : Mth P w K mg base A.CallNumbers "take_number" 1 ps_CallNumbers_take_number (sp_CallNumbers_take_number K A))
    (M_CallNumbers_take_row : Mth P w K mg base A.CallNumbers "take_row" 2 ps_CallNumbers_take_row (sp_CallNumbers_take_row K A))
    (M_Writer_begin : Mth P w K mg base A.Writer "begin" 4 ps_Writer_begin (sp_Writer_begin A)) :
    FnOk P w K mg base CX0 5 f fd ps_sk_start (sp_sk_start K A) := by
  refine F.ok sc_sk_start (fun vs H Q E h => ?_) (fun cdv Ar outer s H vs Q E hr h => ?_)
  · obtain ⟨a, w, dx, cl, ns, i, k, m, n, ws, l, rfl, _⟩ := h
    rfl
  · obtain ⟨a, wa, dx, cl, ns, i, k, m, n, ws, l, rfl, ha, hs, hk, hm, hn, hl, el, hb, hW, q⟩ := h
    refine ⟨_, (pss_cons (ps_set (i := 2) (sc_sk_start).nd rfl (by first | exact Or.inl rfl | exact Or.inr rfl) (m_call0 M_CallNumbers_take_number hr (pv 0)))
      (pss_cons (ps_set (i := 3) (sc_sk_start).nd rfl (by first | exact Or.inl rfl | exact Or.inr rfl) (m_call0 M_CallNumbers_take_number hr (pv 0)))
      (pss_one (ps_ret (m_call M_Writer_begin hr (pv 1) (pa_cons (pv 2) (pa_cons (pv 3) (pa_cons (m_call0 M_CallNumbers_take_row hr (pv 0)) pa_nil)))))))), ?_⟩
    refine ⟨_, rfl, a, dx, _, rfl, ha, cn_no cl _ (by decide) (by decide), a, dx, cl, ns, i, _, rfl, ha, hs, hk, ?_⟩
    have k1 : Kp 1 H (upd H a (.ins A.CallNumbers dx (cnF cl ((i + 1 : Nat) : Int)))) := Kp.upd Kp.refl ha (kd_cn cl _)
    have e1 : (upd H a (.ins A.CallNumbers dx (cnF cl ((i + 1 : Nat) : Int)))) a = some (.ins A.CallNumbers dx (cnF cl ((i + 1 : Nat) : Int))) := upd_same
    have s1 := sqL_ins (o := .ins A.CallNumbers dx (cnF cl ((i + 1 : Nat) : Int))) hs ha
    generalize upd H a (.ins A.CallNumbers dx (cnF cl ((i + 1 : Nat) : Int))) = H1 at k1 e1 s1
    refine ⟨_, rfl, a, dx, _, rfl, e1, cn_no cl _ (by decide) (by decide), a, dx, cl, ns, i + 1, _, rfl, e1, s1, hm, ?_⟩
    have k2 : Kp 1 H1 (upd H1 a (.ins A.CallNumbers dx (cnF cl ((i + 1 + 1 : Nat) : Int)))) := Kp.upd Kp.refl e1 (kd_cn cl _)
    have e2 : (upd H1 a (.ins A.CallNumbers dx (cnF cl ((i + 1 + 1 : Nat) : Int)))) a = some (.ins A.CallNumbers dx (cnF cl ((i + 1 + 1 : Nat) : Int))) := upd_same
    have s2 := sqL_ins (o := .ins A.CallNumbers dx (cnF cl ((i + 1 + 1 : Nat) : Int))) s1 e1
    generalize upd H1 a (.ins A.CallNumbers dx (cnF cl ((i + 1 + 1 : Nat) : Int))) = H2 at k2 e2 s2
    have kA := k1.trans k2
    have hW2 := hW.kp kA (by decide) (by decide)
    obtain ⟨wx, fa, sv, pv', dv, h1, _⟩ := hW2.obj
    refine ⟨_, rfl, wa, wx, _, rfl, h1, wr_no fa _ _ _ (by decide) (by decide) (by decide) (by decide), _, rfl, _, rfl, _, rfl, a, dx, _, rfl, e2, cn_no cl _ (by decide) (by decide), a, dx, cl, ns, i + 1 + 1, n, rfl, e2, s2, hn, (by omega), fun p hp => ?_⟩
    have er : ((ns.drop (i + 1 + 1 + 1)).take n).map V.int = vN l := by
      rw [show i + 1 + 1 + 1 = i + 3 by omega, el, vN_int]
    have pa : p ≠ a := fun z => by rw [z, e2] at hp; cases hp
    have k3 : Kp 1 H2 (upd (upd H2 p (.lst (((ns.drop (i + 1 + 1 + 1)).take n).map V.int))) a (.ins A.CallNumbers dx (cnF cl ((i + 1 + 1 + 1 + n : Nat) : Int)))) := Kp.upd (Kp.new Kp.refl hp) e2 (kd_cn cl _)
    have kB := kA.trans k3
    refine ⟨wa, p, ws, k, m, l, rfl, hW2.kp k3 (by decide) (by decide), (by rw [upd_ne pa, upd_same, er]), hb, fun p' H' k4 W4 e4 => ?_⟩
    exact q p' _ H' kB (by rw [upd_same, show i + 1 + 1 + 1 + n = i + 3 + n by omega]) k4 W4 e4
abbrev st_sr_start : Stmt := (top 68)
theorem sc_sr_start : FnScope ["numbers", "reader", "k", "m"] ["numbers", "reader"] (defScope st_sr_start) := ⟨rfl, rfl, rfl, by decide +kernel, rfl, by decide +kernel, by decide +kernel⟩
abbrev ps_sr_start : List Str := ["numbers", "reader"]
theorem ok_sr_start (F : Fun K "sr_start" "sr_start" st_sr_start f fd) (T : Txt K mg A)
    (M_CallNumbers_take_number : Mth P w K mg base A.CallNumbers "take_number" 1 ps_CallNumbers_take_number (sp_CallNumbers_take_number K A))
    (M_Reader_begin : Mth P w K mg base A.Reader "begin" 4 ps_Reader_begin (sp_Reader_begin A)) :
    FnOk P w K mg base CX0 5 f fd ps_sr_start (sp_sr_start K A) := by
  refine F.ok sc_sr_start (fun vs H Q E h => ?_) (fun cdv Ar outer s H vs Q E hr h => ?_)
  · obtain ⟨a, r, dx, cl, ns, i, k, m, n, rs, rfl, _⟩ := h
    rfl
  · obtain ⟨a, ra, dx, cl, ns, i, k, m, n, rs, rfl, ha, hs, hk, hm, hn, hR, q⟩ := h
    refine ⟨_, (pss_cons (ps_set (i := 2) (sc_sr_start).nd rfl (by first | exact Or.inl rfl | exact Or.inr rfl) (m_call0 M_CallNumbers_take_number hr (pv 0)))
      (pss_cons (ps_set (i := 3) (sc_sr_start).nd rfl (by first | exact Or.inl rfl | exact Or.inr rfl) (m_call0 M_CallNumbers_take_number hr (pv 0)))
      (pss_one (ps_ret (m_call M_Reader_begin hr (pv 1) (pa_cons (pv 2) (pa_cons (pv 3) (pa_cons (m_call0 M_CallNumbers_take_number hr (pv 0)) pa_nil)))))))), ?_⟩
    refine ⟨_, rfl, a, dx, _, rfl, ha, cn_no cl _ (by decide) (by decide), a, dx, cl, ns, i, _, rfl, ha, hs, hk, ?_⟩
    have k1 : Kp 1 H (upd H a (.ins A.CallNumbers dx (cnF cl ((i + 1 : Nat) : Int)))) := Kp.upd Kp.refl ha (kd_cn cl _)
    have e1 : (upd H a (.ins A.CallNumbers dx (cnF cl ((i + 1 : Nat) : Int)))) a = some (.ins A.CallNumbers dx (cnF cl ((i + 1 : Nat) : Int))) := upd_same
    have s1 := sqL_ins (o := .ins A.CallNumbers dx (cnF cl ((i + 1 : Nat) : Int))) hs ha
    generalize upd H a (.ins A.CallNumbers dx (cnF cl ((i + 1 : Nat) : Int))) = H1 at k1 e1 s1
    refine ⟨_, rfl, a, dx, _, rfl, e1, cn_no cl _ (by decide) (by decide), a, dx, cl, ns, i + 1, _, rfl, e1, s1, hm, ?_⟩
    have k2 : Kp 1 H1 (upd H1 a (.ins A.CallNumbers dx (cnF cl ((i + 1 + 1 : Nat) : Int)))) := Kp.upd Kp.refl e1 (kd_cn cl _)
    have e2 : (upd H1 a (.ins A.CallNumbers dx (cnF cl ((i + 1 + 1 : Nat) : Int)))) a = some (.ins A.CallNumbers dx (cnF cl ((i + 1 + 1 : Nat) : Int))) := upd_same
    have s2 := sqL_ins (o := .ins A.CallNumbers dx (cnF cl ((i + 1 + 1 : Nat) : Int))) s1 e1
    generalize upd H1 a (.ins A.CallNumbers dx (cnF cl ((i + 1 + 1 : Nat) : Int))) = H2 at k2 e2 s2
    have kA := k1.trans k2
    have hR2 := hR.kp kA (by decide) (by decide) (by decide)
    obtain ⟨rx, fa, sv, gv, h1, _⟩ := hR2.obj
    refine ⟨_, rfl, ra, rx, _, rfl, h1, rd_no fa _ _ (by decide) (by decide) (by decide), _, rfl, _, rfl, _, rfl, a, dx, _, rfl, e2, cn_no cl _ (by decide) (by decide), a, dx, cl, ns, i + 1 + 1, _, rfl, e2, s2, hn, ?_⟩
    have k3 : Kp 1 H2 (upd H2 a (.ins A.CallNumbers dx (cnF cl ((i + 1 + 1 + 1 : Nat) : Int)))) := Kp.upd Kp.refl e2 (kd_cn cl _)
    refine ⟨ra, rs, k, m, n, rfl, hR2.kp k3 (by decide) (by decide) (by decide), fun p' H' k4 R4 e4 => ?_⟩
    exact q p' _ H' (kA.trans k3) (by rw [upd_same]) k4 R4 e4
end
def sp_answer_next (K : PySem.W.Frag) (A : Ad) : Sp := fun vs H Q _ => ∃ (a wa ra dx cl : Addr) (ns : List Int) (i : Nat) (ws : Option Km348.Writer) (rs : Option Km348.Reader) (c : List (List Int)) (t : List Int), vs = [.ref a, .ref wa, .ref ra] ∧ H a = some (.ins A.CallNumbers dx (cnF cl i)) ∧ SqL K H cl (ns.map V.int) ∧ WrAt A H wa ws ∧ RdAt A H ra rs ∧
  PyFlat.call PyKm348.shape (ns.drop i) = some (c, t) ∧ Km348Neutral.asked1 c = true ∧ (Km348Neutral.step ([ws], [rs]) c).2 ≠ [] ∧ ns.length ≤ 30000 ∧
  ∀ p H' j ws' rs' ans, i < j → j ≤ ns.length → ns.drop j = t → Km348Neutral.step ([ws], [rs]) c = (([ws'], [rs']), ans) → H' a = some (.ins A.CallNumbers dx (cnF cl (j : Nat))) → WrAt A H' wa ws' → RdAt A H' ra rs' → H' p = some (.lst (ans.map V.int)) → ans.length ≤ 257 → (∀ b o u, H b = some (.frz o u) → H' b = some (.frz o u)) → Q (.ref p) H'
theorem noI {u v : Int} (h : u ≠ v) : ¬ V.int u = V.int v := fun e => h (by injection e)
theorem frz2 {n m : Nat} {H H1 H' : Hp} (k1 : Kp n H H1) (k2 : Kp m H1 H') (hn : n ≠ 5) (hm : m ≠ 5) : ∀ b o u, H b = some (.frz o u) → H' b = some (.frz o u) := fun b o u e => k2.frz hm (k1.frz hn e)
theorem strand_len (z : Km348.Size) (l : List Nat) (q : Nat) : (Km348.writtenAs (Km348.written z l q)).length ≤ 64 := by
  unfold Km348.writtenAs Km348.written Km348.strand
  rw [List.length_map, List.length_map, List.length_zip]
  have bl : ∀ t, (Km348.balanced (Km348.place t 1 Km348.LETTERS)).length = 64 := fun t => by
    show (Km348.balanced (Km348.place t 1 64)).length = 64
    rw [balanced_eq, bal_len, place_len]
  rw [bl, bl]
  decide
theorem read_told (R : Km348.Reader) (l : List Nat) (n : Nat) : (Km348Neutral.told (Km348.rDoes R (.rRead l n)).2).length ≤ 257 := by
  unfold Km348.rDoes
  dsimp only
  split
  · exact (by decide : 1 ≤ 257)
  · split
    · exact (by decide : 1 ≤ 257)
    · split
      · exact (by decide : 1 ≤ 257)
      · split
        · exact (by decide : 1 ≤ 257)
        · split
          · exact (by decide : 1 ≤ 257)
          · exact (by decide : 1 ≤ 257)
theorem bytes_told (R : Km348.Reader) (b : Nat) : (Km348Neutral.told (Km348.rDoes R (.rBytes b)).2).length ≤ 257 := by
  have eD : Km348.rDoes R (.rBytes b) = (R, if R.size.n ≤ 256 * b then Km348.only (-22) else if R.lacks ≠ 0 then Km348.only (-11) else Km348.part R.file b) := rfl
  rw [eD]
  dsimp only
  split
  · exact (by decide : 1 ≤ 257)
  · split
    · exact (by decide : 1 ≤ 257)
    · unfold Km348Neutral.told Km348Neutral.nums Km348.part
      rw [List.length_cons, List.length_map]
      show (List.take 256 _).length + 1 ≤ 257
      rw [List.length_take]
      omega
section
variable {P : Program} {w : World} {K : PySem.W.Frag} {mg : Str → Option Value} {base : Heap} {A : Ad} {f : Addr} {fd : FuncData}
abbrev st_answer_next : Stmt := (top 69)
theorem sc_answer_next : FnScope ["numbers", "writer", "reader", "call"] ["numbers", "writer", "reader"] (defScope st_answer_next) := ⟨rfl, rfl, rfl, by decide +kernel, rfl, by decide +kernel, by decide +kernel⟩
abbrev ps_answer_next : List Str := ["numbers", "writer", "reader"]
theorem ok_answer_next (F : Fun K "answer_next" "answer_next" st_answer_next f fd) (T : Txt K mg A)
    (M_CallNumbers_take_number : Mth P w K mg base A.CallNumbers "take_number" 1 ps_CallNumbers_take_number (sp_CallNumbers_take_number K A))
    (M_CallNumbers_take_row : Mth P w K mg base A.CallNumbers "take_row" 2 ps_CallNumbers_take_row (sp_CallNumbers_take_row K A))
    (G_sk_start : Glb P w K mg base "sk_start" 5 ps_sk_start (sp_sk_start K A))
    (G_sr_start : Glb P w K mg base "sr_start" 5 ps_sr_start (sp_sr_start K A))
    (M_Writer_strand : Mth P w K mg base A.Writer "strand" 5 ps_Writer_strand (sp_Writer_strand A))
    (M_Reader_read : Mth P w K mg base A.Reader "read" 4 ps_Reader_read (sp_Reader_read A))
    (M_Reader_lacks : Mth P w K mg base A.Reader "lacks" 3 ps_Reader_lacks (sp_Reader_lacks A))
    (M_Reader_block : Mth P w K mg base A.Reader "block" 7 ps_Reader_block (sp_Reader_block A)) :
    FnOk P w K mg base CX0 8 f fd ps_answer_next (sp_answer_next K A) := by
  refine F.ok sc_answer_next (fun vs H Q E h => ?_) (fun cdv Ar outer s H vs Q E hr h => ?_)
  · obtain ⟨a, wa, ra, dx, cl, ns, i, ws, rs, c, t, rfl, _⟩ := h
    rfl
  · obtain ⟨a, wa, ra, dx, cl, ns, i, ws, rs, c, t, rfl, ha, hs, hW, hR, hc, hq, hne, hlen, q⟩ := h
    refine ⟨_, (pss_cons (ps_set (i := 3) (sc_answer_next).nd rfl (by first | exact Or.inl rfl | exact Or.inr rfl) (m_call0 M_CallNumbers_take_number hr (pv 0)))
      (pss_cons (ps_if (pt_cmpR op_eq (pv 3) (g_int T.c_SK_START) (nomark _)) (pss_one (ps_ret (g_call G_sk_start hr (pa_cons (pv 0) (pa_cons (pv 1) pa_nil))))) pss_nil)
      (pss_cons (ps_if (pt_cmpR op_eq (pv 3) (g_int T.c_SK_STRAND) (nomark _)) (pss_one (ps_ret (m_call M_Writer_strand hr (pv 1) (pa_cons (m_call0 M_CallNumbers_take_number hr (pv 0)) pa_nil)))) pss_nil)
      (pss_cons (ps_if (pt_cmpR op_eq (pv 3) (g_int T.c_SR_START) (nomark _)) (pss_one (ps_ret (g_call G_sr_start hr (pa_cons (pv 0) (pa_cons (pv 2) pa_nil))))) pss_nil)
      (pss_cons (ps_if (pt_cmpR op_eq (pv 3) (g_int T.c_SR_READ) (nomark _)) (pss_one (ps_ret (m_call M_Reader_read hr (pv 2) (pa_cons (m_call0 M_CallNumbers_take_row hr (pv 0)) pa_nil)))) pss_nil)
      (pss_cons (ps_if (pt_cmpR op_eq (pv 3) (g_int T.c_SR_LACKS) (nomark _)) (pss_one (ps_ret (m_call0 M_Reader_lacks hr (pv 2)))) pss_nil)
      (pss_cons (ps_if (pt_cmpR op_eq (pv 3) (g_int T.c_SR_BYTES) (nomark _)) (pss_one (ps_ret (m_call M_Reader_block hr (pv 2) (pa_cons (m_call0 M_CallNumbers_take_number hr (pv 0)) pa_nil)))) pss_nil)
      (pss_one ps_never)))))))), ?_⟩
    cases ed : ns.drop i with
    | nil => rw [ed] at hc; cases hc
    | cons x r =>
      rw [ed] at hc
      have hx : ns[i]? = some x := by have := drop_get ed 0; simpa using this
      have hr1 : ns.drop (i + 1) = r := by have := drop_more ed 1; simpa using this
      have hil : i < ns.length := (List.getElem?_eq_some_iff.mp hx).1
      refine ⟨_, rfl, a, dx, _, rfl, ha, cn_no cl _ (by decide) (by decide), a, dx, cl, ns, i, _, rfl, ha, hs, hx, ?_⟩
      have k1 : Kp 1 H (upd H a (.ins A.CallNumbers dx (cnF cl ((i + 1 : Nat) : Int)))) := Kp.upd Kp.refl ha (kd_cn cl _)
      have e1 : (upd H a (.ins A.CallNumbers dx (cnF cl ((i + 1 : Nat) : Int)))) a = some (.ins A.CallNumbers dx (cnF cl ((i + 1 : Nat) : Int))) := upd_same
      have s1 := sqL_ins (o := .ins A.CallNumbers dx (cnF cl ((i + 1 : Nat) : Int))) hs ha
      generalize upd H a (.ins A.CallNumbers dx (cnF cl ((i + 1 : Nat) : Int))) = H1 at k1 e1 s1
      have W1 := hW.kp k1 (by decide) (by decide)
      have R1 := hR.kp k1 (by decide) (by decide) (by decide)
      rcases call_cases hc with ⟨rfl, k, m, n, r3, er, hn, rfl, et⟩ | ⟨rfl, z, er, rfl⟩ | ⟨rfl, k, m, n, er, rfl⟩ | ⟨rfl, n, r1, er, hn, rfl, et⟩ | ⟨rfl, et, rfl⟩ | ⟨rfl, z, er, rfl⟩
      · -- sk_start
        have hq : (Km348Neutral.natural k 32 && Km348Neutral.natural m 32 && (r3.take n).all (fun z => Km348Neutral.natural z 8)) = true := hq
        rw [Bool.and_eq_true, Bool.and_eq_true] at hq
        obtain ⟨k', rfl, _⟩ := natural_iff hq.1.1
        obtain ⟨m', rfl, _⟩ := natural_iff hq.1.2
        obtain ⟨hrow, hb⟩ := row_nats _ hq.2
        rw [er] at hr1
        have g0 := drop_get hr1 0
        have g1 := drop_get hr1 1
        have g2 := drop_get hr1 2
        have d3 : ns.drop (i + 1 + 3) = r3 := drop_more hr1 3
        have hl3 : i + 1 + 3 + r3.length = ns.length ∨ r3.length = 0 := by
          have := congrArg List.length d3
          rw [List.length_drop] at this
          omega
        have hL : i + 1 + 3 + n ≤ ns.length := by
          have := (List.getElem?_eq_some_iff.mp (show ns[i + 1 + 2]? = some (n : Int) from g2)).1
          omega
        refine ⟨_, rfl, rfl, _, rfl, rd_and (fun _ => ?_) (fun z => absurd rfl z)⟩
        refine ⟨_, rfl, _, rfl, a, wa, dx, cl, ns, i + 1, k', m', n, ws, Km348Neutral.nats (r3.take n), rfl, e1, s1, g0, g1, g2, hL, (by rw [d3]; exact hrow), hb, W1, fun p H2 H' k2 e2 k3 W3 e3 => ?_⟩
        have eS := step_0 ws rs (k' : Int) (m' : Int) (r3.take n)
        rw [Int.toNat_natCast, Int.toNat_natCast] at eS
        rw [nats_len] at W3 e3
        refine q p H' (i + 1 + 3 + n) _ _ _ (by omega) hL (by rw [et, ← d3, List.drop_drop]) eS (k3 _ _ e2 (by rw [kd_cn]; decide)) W3 ((hR.kp (k1.trans k2) (by decide) (by decide) (by decide)).kp k3 (by decide) (by decide) (by decide)) e3 (by show 1 ≤ 257; decide) (frz2 (k1.trans k2) k3 (by decide) (by decide))
      · -- sk_strand
        obtain ⟨z', rfl, _⟩ := natural_iff (show Km348Neutral.natural z 32 = true from hq)
        rw [er] at hr1
        have g0 := drop_get hr1 0
        cases ws with
        | none => exact absurd (step_1n rs _) hne
        | some W =>
          refine ⟨_, rfl, rfl, _, rfl, rd_and (fun z => absurd z (noI (by decide))) (fun _ => ⟨_, rfl, rfl, _, rfl, rd_and (fun _ => ?_) (fun z => absurd rfl z)⟩)⟩
          obtain ⟨wx, fa, sv, pv', dv, w1, _⟩ := W1.obj
          refine ⟨_, rfl, wa, wx, _, rfl, w1, wr_no fa _ _ _ (by decide) (by decide) (by decide) (by decide), _, rfl, a, dx, _, rfl, e1, cn_no cl _ (by decide) (by decide), a, dx, cl, ns, i + 1, _, rfl, e1, s1, g0, ?_⟩
          have k2 : Kp 1 H1 (upd H1 a (.ins A.CallNumbers dx (cnF cl ((i + 1 + 1 : Nat) : Int)))) := Kp.upd Kp.refl e1 (kd_cn cl _)
          refine ⟨wa, W, z', rfl, W1.kp k2 (by decide) (by decide), fun p H' s' e' => ?_⟩
          have eS := step_1 W rs (z' : Int)
          rw [Int.toNat_natCast] at eS
          have kS : Kp 1 H H' := (k1.trans k2).trans (Kp.same s')
          refine q p H' (i + 1 + 1) _ _ _ (by omega) (by have := (List.getElem?_eq_some_iff.mp g0).1; omega) (by have := drop_more hr1 1; simpa using this) eS (s' _ _ upd_same) (hW.kp kS (by decide) (by decide)) (hR.kp kS (by decide) (by decide) (by decide)) e' ?_ (fun b o u e => kS.frz (by decide) e)
          split
          · exact (by decide : 1 ≤ 257)
          · rw [List.length_cons, List.length_map]
            have := strand_len W.size W.bytes z'
            omega
      · -- sr_start
        have hq' : (Km348Neutral.natural k 32 && Km348Neutral.natural m 32 && Km348Neutral.natural n 32) = true := hq
        rw [Bool.and_eq_true, Bool.and_eq_true] at hq'
        obtain ⟨k', rfl, _⟩ := natural_iff hq'.1.1
        obtain ⟨m', rfl, _⟩ := natural_iff hq'.1.2
        obtain ⟨n', rfl, _⟩ := natural_iff hq'.2
        rw [er] at hr1
        have g0 := drop_get hr1 0
        have g1 := drop_get hr1 1
        have g2 := drop_get hr1 2
        refine ⟨_, rfl, rfl, _, rfl, rd_and (fun z => absurd z (noI (by decide))) (fun _ => ⟨_, rfl, rfl, _, rfl, rd_and (fun z => absurd z (noI (by decide))) (fun _ => ⟨_, rfl, rfl, _, rfl, rd_and (fun _ => ?_) (fun z => absurd rfl z)⟩)⟩)⟩
        refine ⟨_, rfl, _, rfl, a, ra, dx, cl, ns, i + 1, k', m', n', rs, rfl, e1, s1, g0, g1, g2, R1, fun p H2 H' k2 e2 k3 R3 e3 => ?_⟩
        have eS := step_2 ws rs (k' : Int) (m' : Int) (n' : Int)
        rw [Int.toNat_natCast, Int.toNat_natCast, Int.toNat_natCast] at eS
        refine q p H' (i + 1 + 3) _ _ _ (by omega) (by have := (List.getElem?_eq_some_iff.mp (show ns[i + 1 + 2]? = some (n' : Int) from g2)).1; omega) (drop_more hr1 3) eS (k3 _ _ e2 (by rw [kd_cn]; decide)) ((hW.kp (k1.trans k2) (by decide) (by decide)).kp k3 (by decide) (by decide)) R3 e3 (by show 1 ≤ 257; decide) (frz2 (k1.trans k2) k3 (by decide) (by decide))
      · -- sr_read
        obtain ⟨hrow, hb⟩ := row_nats _ (show (r1.take n).all (fun z => Km348Neutral.natural z 8) = true from hq)
        rw [er] at hr1
        have g0 := drop_get hr1 0
        have d1 : ns.drop (i + 1 + 1) = r1 := drop_more hr1 1
        have hL : i + 1 + 1 + n ≤ ns.length := by
          have := (List.getElem?_eq_some_iff.mp (show ns[i + 1 + 0]? = some (n : Int) from g0)).1
          have := congrArg List.length d1
          rw [List.length_drop] at this
          omega
        cases rs with
        | none => exact absurd (step_3n ws _) hne
        | some R =>
          refine ⟨_, rfl, rfl, _, rfl, rd_and (fun z => absurd z (noI (by decide))) (fun _ => ⟨_, rfl, rfl, _, rfl, rd_and (fun z => absurd z (noI (by decide))) (fun _ => ⟨_, rfl, rfl, _, rfl, rd_and (fun z => absurd z (noI (by decide))) (fun _ => ⟨_, rfl, rfl, _, rfl, rd_and (fun _ => ?_) (fun z => absurd rfl z)⟩)⟩)⟩)⟩
          obtain ⟨rx, fa, sv, gv, h1, _⟩ := R1.obj
          refine ⟨_, rfl, ra, rx, _, rfl, h1, rd_no fa _ _ (by decide) (by decide) (by decide), _, rfl, a, dx, _, rfl, e1, cn_no cl _ (by decide) (by decide), a, dx, cl, ns, i + 1, n, rfl, e1, s1, g0, hL, fun p hp => ?_⟩
          have er2 : ((ns.drop (i + 1 + 1)).take n).map V.int = vN (Km348Neutral.nats (r1.take n)) := by rw [d1, vN_int, ← hrow]
          have pa : p ≠ a := fun z => by rw [z, e1] at hp; cases hp
          have k2 : Kp 1 H1 (upd (upd H1 p (.lst (((ns.drop (i + 1 + 1)).take n).map V.int))) a (.ins A.CallNumbers dx (cnF cl ((i + 1 + 1 + n : Nat) : Int)))) := Kp.upd (Kp.new Kp.refl hp) e1 (kd_cn cl _)
          refine ⟨ra, p, R, Km348Neutral.nats (r1.take n), rfl, R1.kp k2 (by decide) (by decide) (by decide), (by rw [upd_ne pa, upd_same, er2]), ?_, fun p' H' k3 R3 e3 => ?_⟩
          · rw [nats_len, List.length_take]
            omega
          have eS := step_3 ws R (r1.take n)
          rw [← nats_len] at eS
          have kS : Kp 1 H _ := k1.trans k2
          refine q p' H' (i + 1 + 1 + n) _ _ _ (by omega) hL (by rw [et, ← d1, List.drop_drop]) eS (k3 _ _ upd_same (by rw [kd_cn]; decide)) ((hW.kp kS (by decide) (by decide)).kp k3 (by decide) (by decide)) R3 e3 (read_told _ _ _) (frz2 kS k3 (by decide) (by decide))
      · -- sr_lacks
        cases rs with
        | none => exact absurd (step_4n ws) hne
        | some R =>
          refine ⟨_, rfl, rfl, _, rfl, rd_and (fun z => absurd z (noI (by decide))) (fun _ => ⟨_, rfl, rfl, _, rfl, rd_and (fun z => absurd z (noI (by decide))) (fun _ => ⟨_, rfl, rfl, _, rfl, rd_and (fun z => absurd z (noI (by decide))) (fun _ => ⟨_, rfl, rfl, _, rfl, rd_and (fun z => absurd z (noI (by decide))) (fun _ => ⟨_, rfl, rfl, _, rfl, rd_and (fun _ => ?_) (fun z => absurd rfl z)⟩)⟩)⟩)⟩)⟩
          obtain ⟨rx, fa, sv, gv, h1, _⟩ := R1.obj
          refine ⟨_, rfl, ra, rx, _, rfl, h1, rd_no fa _ _ (by decide) (by decide) (by decide), ra, R, rfl, R1, fun p H' s' e' => ?_⟩
          have kS : Kp 1 H H' := k1.trans (Kp.same s')
          exact q p H' (i + 1) _ _ _ (by omega) (by omega) (by rw [hr1, et]) (step_4 ws R) (s' _ _ e1) (hW.kp kS (by decide) (by decide)) (hR.kp kS (by decide) (by decide) (by decide)) e' (by show 1 ≤ 257; decide) (fun b o u e => kS.frz (by decide) e)
      · -- sr_bytes
        obtain ⟨z', rfl, _⟩ := natural_iff (show Km348Neutral.natural z 32 = true from hq)
        rw [er] at hr1
        have g0 := drop_get hr1 0
        cases rs with
        | none => exact absurd (step_5n ws _) hne
        | some R =>
          refine ⟨_, rfl, rfl, _, rfl, rd_and (fun z => absurd z (noI (by decide))) (fun _ => ⟨_, rfl, rfl, _, rfl, rd_and (fun z => absurd z (noI (by decide))) (fun _ => ⟨_, rfl, rfl, _, rfl, rd_and (fun z => absurd z (noI (by decide))) (fun _ => ⟨_, rfl, rfl, _, rfl, rd_and (fun z => absurd z (noI (by decide))) (fun _ => ⟨_, rfl, rfl, _, rfl, rd_and (fun z => absurd z (noI (by decide))) (fun _ => ⟨_, rfl, rfl, _, rfl, rd_and (fun _ => ?_) (fun z => absurd rfl z)⟩)⟩)⟩)⟩)⟩)⟩
          obtain ⟨rx, fa, sv, gv, h1, _⟩ := R1.obj
          refine ⟨_, rfl, ra, rx, _, rfl, h1, rd_no fa _ _ (by decide) (by decide) (by decide), _, rfl, a, dx, _, rfl, e1, cn_no cl _ (by decide) (by decide), a, dx, cl, ns, i + 1, _, rfl, e1, s1, g0, ?_⟩
          have k2 : Kp 1 H1 (upd H1 a (.ins A.CallNumbers dx (cnF cl ((i + 1 + 1 : Nat) : Int)))) := Kp.upd Kp.refl e1 (kd_cn cl _)
          refine ⟨ra, R, z', rfl, R1.kp k2 (by decide) (by decide) (by decide), fun p H' k3 R3 e' => ?_⟩
          have eS := step_5 ws R (z' : Int)
          rw [Int.toNat_natCast] at eS
          have kS := k1.trans k2
          exact q p H' (i + 1 + 1) _ _ _ (by omega) (by have := (List.getElem?_eq_some_iff.mp (show ns[i + 1 + 0]? = some (z' : Int) from g0)).1; omega) (drop_more hr1 1) eS (k3 _ _ upd_same (by rw [kd_cn]; decide)) ((hW.kp kS (by decide) (by decide)).kp k3 (by decide) (by decide)) R3 e' (bytes_told R z') (frz2 kS k3 (by decide) (by decide))
end
end SS
end
section
set_option maxRecDepth 100000
set_option maxHeartbeats 2000000
namespace SS
open PySem PySem.Spec PyProof.Rows L2
theorem calls_nil {f : Nat} {cs : List (List (List Int))} (h : PyFlat.calls PyKm348.shape f [] = some cs) : cs = [] := by
  cases f with
  | zero => exact (Option.some.inj h).symm
  | succ f => exact (Option.some.inj h).symm
theorem calls_cons {f : Nat} {x : Int} {r : List Int} {cs : List (List (List Int))} (h : PyFlat.calls PyKm348.shape f (x :: r) = some cs) : ∃ c t cs' f', PyFlat.call PyKm348.shape (x :: r) = some (c, t) ∧ PyFlat.calls PyKm348.shape f' t = some cs' ∧ cs = c :: cs' := by
  cases f with
  | zero => cases h
  | succ f =>
    unfold PyFlat.calls at h
    cases e : PyFlat.call PyKm348.shape (x :: r) with
    | none => rw [e] at h; cases h
    | some ct =>
      obtain ⟨c, t⟩ := ct
      rw [e] at h
      dsimp only at h
      cases e2 : PyFlat.calls PyKm348.shape f t with
      | none => rw [e2] at h; cases h
      | some cs' =>
        rw [e2] at h
        exact ⟨c, t, cs', f, rfl, e2, (Option.some.inj h).symm⟩
def sp_answers (K : PySem.W.Frag) : Sp := fun vs H Q _ => ∃ (cl : Addr) (ns : List Int), vs = [.ref cl] ∧ OnlyF H ∧ SqL K H cl (ns.map V.int) ∧ ns.length ≤ 30000 ∧ PyKm348.answers_asked ns = true ∧ ∀ (H' : Hp) (p : Addr), H' p = some (.lst ((PyKm348.answers ns).map V.int)) → Q (.ref p) H'
theorem only_same {H0 H H' : Hp} (hO : OnlyF H0) (s : Same H0 H) (f : ∀ b o u, H b = some (.frz o u) → H' b = some (.frz o u)) : Same H0 H' := fun b o e => by
  rcases hO b with z | ⟨ob, u, z⟩
  · rw [e] at z; cases z
  · rw [e] at z
    cases z
    exact f b ob u (s b _ e)
def leftN (n : Nat) (c : Addr) (H : Hp) : Nat := match H c with
  | some (.ins _ _ fs) => match fs.lookup ("taken" : Str) with
    | some (.int i) => n - i.toNat
    | _ => 0
  | _ => 0
theorem left_at {n : Nat} {c C dx cl : Addr} {H : Hp} {i : Nat} (h : H c = some (.ins C dx (cnF cl (i : Nat)))) : leftN n c H = n - i := by
  unfold leftN
  rw [h]
  dsimp only
  rw [cn_i]
  dsimp only
  rw [Int.toNat_natCast]
structure Big (A : Ad) (H : Hp) (x xd cl wa ra : Addr) (i : Nat) (ws : Option Km348.Writer) (rs : Option Km348.Reader) : Prop where
  num : H x = some (.ins A.CallNumbers xd (cnF cl (i : Nat)))
  wr : WrAt A H wa ws
  rd : RdAt A H ra rs
theorem Big.kp5 {A : Ad} {H H' : Hp} {x xd cl wa ra : Addr} {i : Nat} {ws : Option Km348.Writer} {rs : Option Km348.Reader} (h : Big A H x xd cl wa ra i ws rs) (k : Kp 5 H H') : Big A H' x xd cl wa ra i ws rs :=
  ⟨k _ _ h.num (by rw [kd_cn]; decide), h.wr.kp k (by decide) (by decide), h.rd.kp k (by decide) (by decide) (by decide)⟩
section
variable {P : Program} {w : World} {K : PySem.W.Frag} {mg : Str → Option Value} {base : Heap} {A : Ad} {f : Addr} {fd : FuncData}
abbrev st_answers : Stmt := (top 70)
theorem sc_answers : FnScope ["calls", "numbers", "field", "writer", "reader", "answered", "answer"] ["calls"] (defScope st_answers) := ⟨rfl, rfl, rfl, by decide +kernel, rfl, by decide +kernel, by decide +kernel⟩
abbrev ps_answers : List Str := ["calls"]
theorem ok_answers (F : Fun K "answers" "answers" st_answers f fd) (T : Txt K mg A)
    (K_CallNumbers : Mak P w K mg base A.CallNumbers "CallNumbers" 1 ps_CallNumbers_init (sp_CallNumbers_init A))
    (K_Field : Mak P w K mg base A.Field "Field" 2 ps_Field_init (sp_Field_init A))
    (K_Writer : Mak P w K mg base A.Writer "Writer" 1 ps_Writer_init (sp_Writer_init A))
    (K_Reader : Mak P w K mg base A.Reader "Reader" 1 ps_Reader_init (sp_Reader_init A))
    (M_CallNumbers_is_taken : Mth P w K mg base A.CallNumbers "is_taken" 1 ps_CallNumbers_is_taken (sp_CallNumbers_is_taken K A))
    (G_answer_next : Glb P w K mg base "answer_next" 8 ps_answer_next (sp_answer_next K A)) :
    FnOk P w K mg base CX0 9 f fd ps_answers (sp_answers K) := by
  refine F.ok sc_answers (fun vs H Q E h => ?_) (fun cdv Ar outer s H vs Q E hr h => ?_)
  · obtain ⟨cl, ns, rfl, _⟩ := h
    rfl
  · obtain ⟨cl, ns, rfl, hO, hs, hlen, hask, q⟩ := h
    unfold PyKm348.answers_asked at hask
    have eA : ∀ cs, PyKm348.calls ns = some cs → PyKm348.answers ns = PyFlat.told (PyFlat.played Km348Neutral.step Km348Neutral.start cs) := fun cs e => by unfold PyKm348.answers; rw [e]
    cases ec : PyKm348.calls ns with
    | none => rw [ec] at hask; cases hask
    | some cs0 =>
      rw [ec] at hask
      have eA := eA cs0 ec
      have hask : (PyFlat.atMost 1000 cs0 && Km348Neutral.asked cs0) = true := hask
      rw [Bool.and_eq_true] at hask
      have h1000 : cs0.length ≤ 1000 := of_decide_eq_true hask.1
      have hask2 := hask.2
      unfold Km348Neutral.asked at hask2
      rw [Bool.and_eq_true, Bool.and_eq_true, Bool.and_eq_true] at hask2
      obtain ⟨_, _, hall, hmay⟩ := hask2
      have ecs : PyFlat.calls PyKm348.shape ns.length ns = some cs0 := by
        unfold PyKm348.calls at ec
        cases e : PyFlat.calls PyKm348.shape ns.length ns with
        | none => rw [e] at ec; cases ec
        | some cs =>
          rw [e] at ec
          have : cs.map PyKm348.whole = cs := by
            rw [show PyKm348.whole = id from funext whole_id, List.map_id]
          have ec : some (cs.map PyKm348.whole) = some cs0 := ec
          rw [this] at ec
          exact ec
      refine ⟨_, (pss_cons (ps_set (i := 1) (sc_answers).nd rfl (by first | exact Or.inl rfl | exact Or.inr rfl) (k_make K_CallNumbers hr (pa_cons (pv 0) pa_nil)))
      (pss_cons (ps_set (i := 2) (sc_answers).nd rfl (by first | exact Or.inl rfl | exact Or.inr rfl) (k_make0 K_Field hr))
      (pss_cons (ps_set (i := 3) (sc_answers).nd rfl (by first | exact Or.inl rfl | exact Or.inr rfl) (k_make K_Writer hr (pa_cons (pv 2) pa_nil)))
      (pss_cons (ps_set (i := 4) (sc_answers).nd rfl (by first | exact Or.inl rfl | exact Or.inr rfl) (k_make K_Reader hr (pa_cons (pv 2) pa_nil)))
      (pss_cons (ps_set (i := 5) (sc_answers).nd rfl (by first | exact Or.inl rfl | exact Or.inr rfl) (pe_lst pa_nil))
      (pss_cons (ps_while PassesOwn.never (pt_not (pt_val (m_call0 M_CallNumbers_is_taken hr (pv 1))))
        (pss_cons (ps_set (i := 6) (sc_answers).nd rfl (by first | exact Or.inl rfl | exact Or.inr rfl) (pe_lock (g_call G_answer_next hr (pa_cons (pv 1) (pa_cons (pv 3) (pa_cons (pv 4) pa_nil))))))
      (pss_cons (ps_expr (pe_bm PySem.F.plainAttrs_list PySem.F.slot_list_append PySem.F.type_list_append mt_append (pv 5) (pa_cons (pe_callB call_len_seq rfl T.b_len PySem.boot_len (pa_cons (pv 6) pa_nil)) pa_nil)))
      (pss_one (ps_expr (pe_bm PySem.F.plainAttrs_list PySem.F.slot_list_extend PySem.F.type_list_extend mt_extend (pv 5) (pa_cons (pv 6) pa_nil)))))))
      (pss_one (ps_ret (pv 5))))))))), ?_⟩
      refine ⟨_, rfl, ?_⟩
      intro x xd nx nxd nex
      refine ⟨x, xd, cl, rfl, upd_same, ⟨rfl, ?_⟩⟩
      rw [upd_upd]
      have s1 : Same H (upd (upd H xd (.own x)) x (.ins A.CallNumbers xd (cnF cl 0))) := Same.upd (same_upd nxd) nx
      have e1 : (upd (upd H xd (.own x)) x (.ins A.CallNumbers xd (cnF cl 0))) x = some (.ins A.CallNumbers xd (cnF cl ((0 : Nat) : Int))) := upd_same
      generalize upd (upd H xd (.own x)) x (.ins A.CallNumbers xd (cnF cl 0)) = H1 at s1 e1
      intro fa fx nf nfx nef
      refine ⟨fa, fx, rfl, upd_same, fun H2 F2 kb2 => ⟨rfl, ?_⟩⟩
      have s2 : Same H1 H2 := Same.made nf nfx kb2
      refine ⟨_, rfl, ?_⟩
      intro wa wx nw nwx new
      refine ⟨wa, wx, fa, rfl, upd_same, fun da H3 hda kb3 e3 => ⟨rfl, ?_⟩⟩
      have s3 : Same H2 H3 := Same.made nw nwx kb3
      refine ⟨_, rfl, ?_⟩
      intro ra rx nr nrx ner
      refine ⟨ra, rx, fa, rfl, upd_same, fun ga H4 hga kb4 e4 => ⟨rfl, ?_⟩⟩
      have s4 : Same H3 H4 := Same.made nr nrx kb4
      have sA : Same H H4 := s1.trans (s2.trans (s3.trans s4))
      refine ⟨Nat.zero_le _, fun al hal => ?_⟩
      have h0 : H al = none := sA.free hal
      have B0 : Big A H4 x xd cl wa ra 0 none none := ⟨s4 _ _ (s3 _ _ (s2 _ _ e1)), ⟨wx, fa, _, _, _, s4 _ _ e3, F2.same (s3.trans s4)⟩, ⟨rx, fa, _, _, e4, F2.same (s3.trans s4)⟩⟩
      refine while_by (fun σ H' => ∃ (i : Nat) (ws : Option Km348.Writer) (rs : Option Km348.Reader) (cs : List (List (List Int))) (L : List Int) (v6 : Option V), σ = [some (.ref cl), some (.ref x), some (.ref fa), some (.ref wa), some (.ref ra), some (.ref al), v6] ∧ Same H H' ∧ H' al = some (.lst (L.map V.int)) ∧ i ≤ ns.length ∧ (∃ fu, PyFlat.calls PyKm348.shape fu (ns.drop i) = some cs) ∧ cs.all Km348Neutral.asked1 = true ∧ Km348Neutral.may ([ws], [rs]) cs = true ∧
          PyKm348.answers ns = L ++ PyFlat.told (PyFlat.played Km348Neutral.step ([ws], [rs]) cs) ∧ L.length + 258 * cs.length ≤ 258000 ∧ ∀ od, Big A (upd H' al (.frz od (.lst (L.map V.int)))) x xd cl wa ra i ws rs)
        (fun _ H' => leftN ns.length x H') ?_ ?_ ?_
      · refine ⟨0, none, none, cs0, [], none, rfl, Same.upd sA h0, upd_same, Nat.zero_le _, ⟨_, ecs⟩, hall, hmay, eA, by rw [List.length_nil]; omega, fun od => ?_⟩
        rw [upd_upd]
        exact ⟨(same_upd hal) _ _ B0.num, B0.wr.same (same_upd hal), B0.rd.same (same_upd hal)⟩
      · rintro σ H' ⟨i, ws, rs, cs, L, v6, rfl, sH, eL, hi, ⟨fu, hcs⟩, hall', hmay', hans, hbd, B⟩
        have od0 : Obj := { cls := .none, data := .seq #[] }
        have BU : Big A H' x xd cl wa ra i ws rs := (B od0).kp5 Kp.unlock
        refine ⟨_, rfl, x, xd, _, rfl, BU.num, cn_no cl _ (by decide) (by decide), x, xd, cl, ns, i, rfl, BU.num, sH.seq hs, _, rfl, ?_⟩
        by_cases c : i = ns.length
        · rw [decide_eq_true c]
          refine iteF ?_
          rw [c, List.drop_length] at hcs
          have := calls_nil hcs
          subst this
          have hans : PyKm348.answers ns = L ++ [] := hans
          rw [List.append_nil] at hans
          exact ⟨_, rfl, q H' al (by rw [hans]; exact eL)⟩
        · rw [decide_eq_false c]
          refine iteT ?_
          cases ed : ns.drop i with
          | nil =>
            have := congrArg List.length ed
            rw [List.length_drop, List.length_nil] at this
            omega
          | cons y r =>
            rw [ed] at hcs
            obtain ⟨cc, t, cs', fu', hc1, hc2, rfl⟩ := calls_cons hcs
            rw [List.all_cons, Bool.and_eq_true] at hall'
            unfold Km348Neutral.may at hmay'
            rw [Bool.and_eq_true] at hmay'
            have hne : (Km348Neutral.step ([ws], [rs]) cc).2 ≠ [] := fun e => by
              have := hmay'.1
              rw [e] at this
              exact absurd this (by decide)
            refine ⟨al, _, eL, True.intro, fun od => ?_⟩
            have BL := B od
            have sL : Same H (upd H' al (.frz od (.lst (L.map V.int)))) := Same.upd sH h0
            refine ⟨_, rfl, _, rfl, _, rfl, x, wa, ra, xd, cl, ns, i, ws, rs, cc, t, rfl, BL.num, sL.seq hs, BL.wr, BL.rd, (by rw [ed]; exact hc1), hall'.1, hne, hlen, fun p H2 j ws' rs' ans hij hj ht hst e2 W2 R2 ep hal2 hfr => ?_⟩
            have eal : H2 al = some (.frz od (.lst (L.map V.int))) := hfr al od _ upd_same
            refine ⟨eal, ?_⟩
            have pal : p ≠ al := ne_of ep eal (by intro z; cases z)
            have ep' : (upd H2 al (.lst (L.map V.int))) p = some (.lst (ans.map V.int)) := by rw [upd_ne pal]; exact ep
            have hLl : L.length ≤ 258000 := by omega
            have hcl : (cc :: cs').length = cs'.length + 1 := List.length_cons
            rw [hcl] at hbd
            refine ⟨_, rfl, .inl ⟨rfl, _, SqL.of upd_same⟩, _, rfl, p, _, rfl, .inl (SqL.of ep'), al, _, _, rfl, rfl, upd_same, ?_, ?_⟩
            · rw [List.length_map]
              exact Nat.lt_of_le_of_lt hLl (by decide)
            rw [upd_upd, List.length_map]
            have ep2 : (upd H2 al (.lst (L.map V.int ++ [V.int (ans.length : Int)]))) p = some (.lst (ans.map V.int)) := by rw [upd_ne pal]; exact ep
            refine ⟨_, rfl, .inl ⟨rfl, _, SqL.of upd_same⟩, _, rfl, al, p, _, _, rfl, rfl, upd_same, ep2, ?_, ?_⟩
            · rw [List.length_append, List.length_map, List.length_map]
              exact Nat.le_trans (show L.length + 1 + ans.length ≤ 300000 by omega) (by decide)
            rw [upd_upd]
            have eN : L.map V.int ++ [V.int (ans.length : Int)] ++ ans.map V.int = (L ++ ((ans.length : Int) :: ans)).map V.int := by
              rw [List.map_append, List.append_assoc]; rfl
            rw [eN]
            have sH2 : Same H H2 := only_same hO sL hfr
            have xal : x ≠ al := ne_of e2 eal (by intro z; cases z)
            refine ⟨⟨j, ws', rs', cs', L ++ ((ans.length : Int) :: ans), _, rfl, Same.upd sH2 h0, upd_same, hj, ⟨fu', by rw [ht]; exact hc2⟩, hall'.2, ?_, ?_, ?_, fun od' => ?_⟩, ?_⟩
            · have := hmay'.2
              rw [hst] at this
              exact this
            · have ePl : PyFlat.played Km348Neutral.step ([ws], [rs]) (cc :: cs') = ans :: PyFlat.played Km348Neutral.step ([ws'], [rs']) cs' := by
                show (Km348Neutral.step ([ws], [rs]) cc).2 :: PyFlat.played Km348Neutral.step (Km348Neutral.step ([ws], [rs]) cc).1 cs' = _
                rw [hst]
              rw [hans, ePl, List.append_assoc]
              rfl
            · rw [List.length_append, List.length_cons]
              omega
            · rw [upd_upd]
              exact (show Big A H2 x xd cl wa ra j ws' rs' from ⟨e2, W2, R2⟩).kp5 (Kp.relock eal)
            · rw [left_at (show (upd H2 al _) x = _ by rw [upd_ne xal]; exact e2), left_at BU.num]
              omega
      · rintro σ H' Q1 Q2 hm ⟨v, hv, a', dx', fs', e1', e2', e3', a2, dx2, l2, ns2, i2, g1, g2, g3, b2, g4, g5⟩
        exact ⟨v, hv, a', dx', fs', e1', e2', e3', a2, dx2, l2, ns2, i2, g1, g2, g3, b2, g4, hm _ _ g5⟩
end
end SS
end
section
set_option maxRecDepth 100000
set_option maxHeartbeats 0
namespace SS
open PySem PySem.Spec PyProof.Rows L2
theorem tupC_of {K : PySem.W.Frag} {h : Heap} {mg : Str → Option Value} {x : Str} {a : Addr} {is : List Int} {its : Array Value} {n : Nat} {sl : Array (Option Value)} (X : K.In h) (G : h.Ns mainGlobals mg) (ha : PySem.W.nsIn K mainGlobals x = some (some (.ref a)))
    (hl : K.lookup a = some ⟨.type "tuple", Option.none, .seq its n, sl⟩) (hv : Vals (is.map V.int) its.toList) (hz : its.size ≤ sizeLine) : TupC K mg x is ∧ ∀ b, mg x = some (.ref b) → ∃ o, K.lookup b = some o ∧ o.cls = .type "tuple" ∧ o.dict = Option.none := by
  have e := PySem.W.mg_of X G ha
  refine ⟨⟨a, e, fun H => .inr ⟨_, its, n, hl, rfl, rfl, hz, hv⟩⟩, fun b hb => ?_⟩
  rw [e] at hb
  cases hb
  exact ⟨_, hl, rfl, rfl⟩
theorem all_mk {P : Program} {w : World} {K : PySem.W.Frag} {h : Heap} {mg : Str → Option Value} {fa : Addr} (X : K.In h) (G : h.Ns mainGlobals mg) (hfa : mg "answers" = some (.ref fa))
    {C_CallNumbers : Addr} {C_Field : Addr} {C_Size : Addr} {C_Polynomial : Addr} {C_ReadGroup : Addr} {C_Reader : Addr} {C_Writer : Addr} {ct_NUMBERS : Tok}
    {ct_NONZERO : Tok} {ct_MODULUS : Tok} {ct_LOAD_LENGTH : Tok} {ct_MOST_FILLED : Tok} {ct_MOST_SPARE : Tok} {ct_MOST_BYTES : Tok} {ct_MOST_STRANDS : Tok} {ct_WRONG_SIZE : Tok}
    {ta_LETTERS : Addr} {ts_LETTERS : Array (Option Value)} {tn_LETTERS : Nat} {tt_LETTERS_0 : Tok} {tt_LETTERS_1 : Tok} {tt_LETTERS_2 : Tok} {tt_LETTERS_3 : Tok} {ct_STRAND_LENGTH : Tok}
    {ct_WEIGHT_MODULUS : Tok} {ta_WEIGHT_PLACES : Addr} {ts_WEIGHT_PLACES : Array (Option Value)} {tn_WEIGHT_PLACES : Nat} {tt_WEIGHT_PLACES_0 : Tok} {tt_WEIGHT_PLACES_1 : Tok} {tt_WEIGHT_PLACES_2 : Tok} {tt_WEIGHT_PLACES_3 : Tok}
    {tt_WEIGHT_PLACES_4 : Tok} {tt_WEIGHT_PLACES_5 : Tok} {tt_WEIGHT_PLACES_6 : Tok} {ct_ROW_BITS : Tok} {ct_SHORTEST : Tok} {ct_LONGEST : Tok} {ct_BLOCK_LENGTH : Tok} {ct_WRONG_LETTERS : Tok}
    {ct_NOT_MENDED : Tok} {ct_ANOTHER_LOAD : Tok} {ct_READ_BEFORE : Tok} {ct_READ_NOW : Tok} {ct_NO_BLOCK : Tok} {ct_STRANDS_LACKING : Tok} {ct_NO_STRAND : Tok} {ct_SK_START : Tok}
    {ct_SK_STRAND : Tok} {ct_SR_START : Tok} {ct_SR_READ : Tok} {ct_SR_LACKS : Tok} {ct_SR_BYTES : Tok} {f_CallNumbers_init : Addr} {od_CallNumbers_init an_CallNumbers_init : Option Addr} {sl_CallNumbers_init : Array (Option Value)}
    {oc_CallNumbers_init kV_CallNumbers_init dc_CallNumbers_init pm_CallNumbers_init cd_CallNumbers_init ct_CallNumbers_init : Value} {f_times_x_plus_one : Addr} {od_times_x_plus_one an_times_x_plus_one : Option Addr} {sl_times_x_plus_one : Array (Option Value)} {oc_times_x_plus_one kV_times_x_plus_one dc_times_x_plus_one pm_times_x_plus_one cd_times_x_plus_one ct_times_x_plus_one : Value} {f_Field_init : Addr} {od_Field_init an_Field_init : Option Addr} {sl_Field_init : Array (Option Value)}
    {oc_Field_init kV_Field_init dc_Field_init pm_Field_init cd_Field_init ct_Field_init : Value} {f_Writer_init : Addr} {od_Writer_init an_Writer_init : Option Addr} {sl_Writer_init : Array (Option Value)} {oc_Writer_init kV_Writer_init dc_Writer_init pm_Writer_init cd_Writer_init ct_Writer_init : Value} {f_Reader_init : Addr} {od_Reader_init an_Reader_init : Option Addr} {sl_Reader_init : Array (Option Value)}
    {oc_Reader_init kV_Reader_init dc_Reader_init pm_Reader_init cd_Reader_init ct_Reader_init : Value} {f_CallNumbers_is_taken : Addr} {od_CallNumbers_is_taken an_CallNumbers_is_taken : Option Addr} {sl_CallNumbers_is_taken : Array (Option Value)} {oc_CallNumbers_is_taken kV_CallNumbers_is_taken dc_CallNumbers_is_taken pm_CallNumbers_is_taken cd_CallNumbers_is_taken ct_CallNumbers_is_taken : Value} {f_CallNumbers_take_number : Addr} {od_CallNumbers_take_number an_CallNumbers_take_number : Option Addr} {sl_CallNumbers_take_number : Array (Option Value)}
    {oc_CallNumbers_take_number kV_CallNumbers_take_number dc_CallNumbers_take_number pm_CallNumbers_take_number cd_CallNumbers_take_number ct_CallNumbers_take_number : Value} {f_CallNumbers_take_row : Addr} {od_CallNumbers_take_row an_CallNumbers_take_row : Option Addr} {sl_CallNumbers_take_row : Array (Option Value)} {oc_CallNumbers_take_row kV_CallNumbers_take_row dc_CallNumbers_take_row pm_CallNumbers_take_row cd_CallNumbers_take_row ct_CallNumbers_take_row : Value} {f_Size_init : Addr} {od_Size_init an_Size_init : Option Addr} {sl_Size_init : Array (Option Value)}
    {oc_Size_init kV_Size_init dc_Size_init pm_Size_init cd_Size_init ct_Size_init : Value} {f_Size_is_in_range : Addr} {od_Size_is_in_range an_Size_is_in_range : Option Addr} {sl_Size_is_in_range : Array (Option Value)} {oc_Size_is_in_range kV_Size_is_in_range dc_Size_is_in_range pm_Size_is_in_range cd_Size_is_in_range ct_Size_is_in_range : Value} {f_Size_group_count : Addr} {od_Size_group_count an_Size_group_count : Option Addr} {sl_Size_group_count : Array (Option Value)}
    {oc_Size_group_count kV_Size_group_count dc_Size_group_count pm_Size_group_count cd_Size_group_count ct_Size_group_count : Value} {f_Size_group_length : Addr} {od_Size_group_length an_Size_group_length : Option Addr} {sl_Size_group_length : Array (Option Value)} {oc_Size_group_length kV_Size_group_length dc_Size_group_length pm_Size_group_length cd_Size_group_length ct_Size_group_length : Value} {f_Size_strand_count : Addr} {od_Size_strand_count an_Size_strand_count : Option Addr} {sl_Size_strand_count : Array (Option Value)}
    {oc_Size_strand_count kV_Size_strand_count dc_Size_strand_count pm_Size_strand_count cd_Size_strand_count ct_Size_strand_count : Value} {f_Size_is_as_told : Addr} {od_Size_is_as_told an_Size_is_as_told : Option Addr} {sl_Size_is_as_told : Array (Option Value)} {oc_Size_is_as_told kV_Size_is_as_told dc_Size_is_as_told pm_Size_is_as_told cd_Size_is_as_told ct_Size_is_as_told : Value} {f_Polynomial_distance_log : Addr} {od_Polynomial_distance_log an_Polynomial_distance_log : Option Addr} {sl_Polynomial_distance_log : Array (Option Value)}
    {oc_Polynomial_distance_log kV_Polynomial_distance_log dc_Polynomial_distance_log pm_Polynomial_distance_log cd_Polynomial_distance_log ct_Polynomial_distance_log : Value} {f_Polynomial_init : Addr} {od_Polynomial_init an_Polynomial_init : Option Addr} {sl_Polynomial_init : Array (Option Value)} {oc_Polynomial_init kV_Polynomial_init dc_Polynomial_init pm_Polynomial_init cd_Polynomial_init ct_Polynomial_init : Value} {f_Writer_begin : Addr} {od_Writer_begin an_Writer_begin : Option Addr} {sl_Writer_begin : Array (Option Value)}
    {oc_Writer_begin kV_Writer_begin dc_Writer_begin pm_Writer_begin cd_Writer_begin ct_Writer_begin : Value} {f_sk_start : Addr} {od_sk_start an_sk_start : Option Addr} {sl_sk_start : Array (Option Value)} {oc_sk_start kV_sk_start dc_sk_start pm_sk_start cd_sk_start ct_sk_start : Value} {f_ReadGroup_init : Addr} {od_ReadGroup_init an_ReadGroup_init : Option Addr} {sl_ReadGroup_init : Array (Option Value)}
    {oc_ReadGroup_init kV_ReadGroup_init dc_ReadGroup_init pm_ReadGroup_init cd_ReadGroup_init ct_ReadGroup_init : Value} {f_Reader_begin : Addr} {od_Reader_begin an_Reader_begin : Option Addr} {sl_Reader_begin : Array (Option Value)} {oc_Reader_begin kV_Reader_begin dc_Reader_begin pm_Reader_begin cd_Reader_begin ct_Reader_begin : Value} {f_sr_start : Addr} {od_sr_start an_sr_start : Option Addr} {sl_sr_start : Array (Option Value)}
    {oc_sr_start kV_sr_start dc_sr_start pm_sr_start cd_sr_start ct_sr_start : Value} {f_Size_group_of : Addr} {od_Size_group_of an_Size_group_of : Option Addr} {sl_Size_group_of : Array (Option Value)} {oc_Size_group_of kV_Size_group_of dc_Size_group_of pm_Size_group_of cd_Size_group_of ct_Size_group_of : Value} {f_Size_place_of : Addr} {od_Size_place_of an_Size_place_of : Option Addr} {sl_Size_place_of : Array (Option Value)}
    {oc_Size_place_of kV_Size_place_of dc_Size_place_of pm_Size_place_of cd_Size_place_of ct_Size_place_of : Value} {f_Writer_filled_load : Addr} {od_Writer_filled_load an_Writer_filled_load : Option Addr} {sl_Writer_filled_load : Array (Option Value)} {oc_Writer_filled_load kV_Writer_filled_load dc_Writer_filled_load pm_Writer_filled_load cd_Writer_filled_load ct_Writer_filled_load : Value} {f_Field_power : Addr} {od_Field_power an_Field_power : Option Addr} {sl_Field_power : Array (Option Value)}
    {oc_Field_power kV_Field_power dc_Field_power pm_Field_power cd_Field_power ct_Field_power : Value} {f_Polynomial_weights_at : Addr} {od_Polynomial_weights_at an_Polynomial_weights_at : Option Addr} {sl_Polynomial_weights_at : Array (Option Value)} {oc_Polynomial_weights_at kV_Polynomial_weights_at dc_Polynomial_weights_at pm_Polynomial_weights_at cd_Polynomial_weights_at ct_Polynomial_weights_at : Value} {f_Field_multiply : Addr} {od_Field_multiply an_Field_multiply : Option Addr} {sl_Field_multiply : Array (Option Value)}
    {oc_Field_multiply kV_Field_multiply dc_Field_multiply pm_Field_multiply cd_Field_multiply ct_Field_multiply : Value} {f_Polynomial_load_at : Addr} {od_Polynomial_load_at an_Polynomial_load_at : Option Addr} {sl_Polynomial_load_at : Array (Option Value)} {oc_Polynomial_load_at kV_Polynomial_load_at dc_Polynomial_load_at pm_Polynomial_load_at cd_Polynomial_load_at ct_Polynomial_load_at : Value} {f_Writer_load_of : Addr} {od_Writer_load_of an_Writer_load_of : Option Addr} {sl_Writer_load_of : Array (Option Value)}
    {oc_Writer_load_of kV_Writer_load_of dc_Writer_load_of pm_Writer_load_of cd_Writer_load_of ct_Writer_load_of : Value} {f_bits_of : Addr} {od_bits_of an_bits_of : Option Addr} {sl_bits_of : Array (Option Value)} {oc_bits_of kV_bits_of dc_bits_of pm_bits_of cd_bits_of ct_bits_of : Value} {f_carrying_row : Addr} {od_carrying_row an_carrying_row : Option Addr} {sl_carrying_row : Array (Option Value)}
    {oc_carrying_row kV_carrying_row dc_carrying_row pm_carrying_row cd_carrying_row ct_carrying_row : Value} {f_row_weight : Addr} {od_row_weight an_row_weight : Option Addr} {sl_row_weight : Array (Option Value)} {oc_row_weight kV_row_weight dc_row_weight pm_row_weight cd_row_weight ct_row_weight : Value} {f_right_row : Addr} {od_right_row an_right_row : Option Addr} {sl_right_row : Array (Option Value)}
    {oc_right_row kV_right_row dc_right_row pm_right_row cd_right_row ct_right_row : Value} {f_strand_letters : Addr} {od_strand_letters an_strand_letters : Option Addr} {sl_strand_letters : Array (Option Value)} {oc_strand_letters kV_strand_letters dc_strand_letters pm_strand_letters cd_strand_letters ct_strand_letters : Value} {f_Writer_strand : Addr} {od_Writer_strand an_Writer_strand : Option Addr} {sl_Writer_strand : Array (Option Value)}
    {oc_Writer_strand kV_Writer_strand dc_Writer_strand pm_Writer_strand cd_Writer_strand ct_Writer_strand : Value} {f_are_letters : Addr} {od_are_letters an_are_letters : Option Addr} {sl_are_letters : Array (Option Value)} {oc_are_letters kV_are_letters dc_are_letters pm_are_letters cd_are_letters ct_are_letters : Value} {f_may_be_mended : Addr} {od_may_be_mended an_may_be_mended : Option Addr} {sl_may_be_mended : Array (Option Value)}
    {oc_may_be_mended kV_may_be_mended dc_may_be_mended pm_may_be_mended cd_may_be_mended ct_may_be_mended : Value} {f_upper_row_of : Addr} {od_upper_row_of an_upper_row_of : Option Addr} {sl_upper_row_of : Array (Option Value)} {oc_upper_row_of kV_upper_row_of dc_upper_row_of pm_upper_row_of cd_upper_row_of ct_upper_row_of : Value} {f_lower_row_of : Addr} {od_lower_row_of an_lower_row_of : Option Addr} {sl_lower_row_of : Array (Option Value)}
    {oc_lower_row_of kV_lower_row_of dc_lower_row_of pm_lower_row_of cd_lower_row_of ct_lower_row_of : Value} {f_tries_at : Addr} {od_tries_at an_tries_at : Option Addr} {sl_tries_at : Array (Option Value)} {oc_tries_at kV_tries_at dc_tries_at pm_tries_at cd_tries_at ct_tries_at : Value} {f_right_row_at : Addr} {od_right_row_at an_right_row_at : Option Addr} {sl_right_row_at : Array (Option Value)}
    {oc_right_row_at kV_right_row_at dc_right_row_at pm_right_row_at cd_right_row_at ct_right_row_at : Value} {f_carried_bits : Addr} {od_carried_bits an_carried_bits : Option Addr} {sl_carried_bits : Array (Option Value)} {oc_carried_bits kV_carried_bits dc_carried_bits pm_carried_bits cd_carried_bits ct_carried_bits : Value} {f_bytes_of : Addr} {od_bytes_of an_bytes_of : Option Addr} {sl_bytes_of : Array (Option Value)}
    {oc_bytes_of kV_bytes_of dc_bytes_of pm_bytes_of cd_bytes_of ct_bytes_of : Value} {f_strand_content : Addr} {od_strand_content an_strand_content : Option Addr} {sl_strand_content : Array (Option Value)} {oc_strand_content kV_strand_content dc_strand_content pm_strand_content cd_strand_content ct_strand_content : Value} {f_mended_content : Addr} {od_mended_content an_mended_content : Option Addr} {sl_mended_content : Array (Option Value)}
    {oc_mended_content kV_mended_content dc_mended_content pm_mended_content cd_mended_content ct_mended_content : Value} {f_number_in : Addr} {od_number_in an_number_in : Option Addr} {sl_number_in : Array (Option Value)} {oc_number_in kV_number_in dc_number_in pm_number_in cd_number_in ct_number_in : Value} {f_load_in : Addr} {od_load_in an_load_in : Option Addr} {sl_load_in : Array (Option Value)}
    {oc_load_in kV_load_in dc_load_in pm_load_in cd_load_in ct_load_in : Value} {f_ReadGroup_load_read_at : Addr} {od_ReadGroup_load_read_at an_ReadGroup_load_read_at : Option Addr} {sl_ReadGroup_load_read_at : Array (Option Value)} {oc_ReadGroup_load_read_at kV_ReadGroup_load_read_at dc_ReadGroup_load_read_at pm_ReadGroup_load_read_at cd_ReadGroup_load_read_at ct_ReadGroup_load_read_at : Value} {f_ReadGroup_keep_load : Addr} {od_ReadGroup_keep_load an_ReadGroup_keep_load : Option Addr} {sl_ReadGroup_keep_load : Array (Option Value)}
    {oc_ReadGroup_keep_load kV_ReadGroup_keep_load dc_ReadGroup_keep_load pm_ReadGroup_keep_load cd_ReadGroup_keep_load ct_ReadGroup_keep_load : Value} {f_Reader_keep_strand : Addr} {od_Reader_keep_strand an_Reader_keep_strand : Option Addr} {sl_Reader_keep_strand : Array (Option Value)} {oc_Reader_keep_strand kV_Reader_keep_strand dc_Reader_keep_strand pm_Reader_keep_strand cd_Reader_keep_strand ct_Reader_keep_strand : Value} {f_Reader_read : Addr} {od_Reader_read an_Reader_read : Option Addr} {sl_Reader_read : Array (Option Value)}
    {oc_Reader_read kV_Reader_read dc_Reader_read pm_Reader_read cd_Reader_read ct_Reader_read : Value} {f_ReadGroup_lacking_count : Addr} {od_ReadGroup_lacking_count an_ReadGroup_lacking_count : Option Addr} {sl_ReadGroup_lacking_count : Array (Option Value)} {oc_ReadGroup_lacking_count kV_ReadGroup_lacking_count dc_ReadGroup_lacking_count pm_ReadGroup_lacking_count cd_ReadGroup_lacking_count ct_ReadGroup_lacking_count : Value} {f_Reader_lacking_count : Addr} {od_Reader_lacking_count an_Reader_lacking_count : Option Addr} {sl_Reader_lacking_count : Array (Option Value)}
    {oc_Reader_lacking_count kV_Reader_lacking_count dc_Reader_lacking_count pm_Reader_lacking_count cd_Reader_lacking_count ct_Reader_lacking_count : Value} {f_Reader_lacks : Addr} {od_Reader_lacks an_Reader_lacks : Option Addr} {sl_Reader_lacks : Array (Option Value)} {oc_Reader_lacks kV_Reader_lacks dc_Reader_lacks pm_Reader_lacks cd_Reader_lacks ct_Reader_lacks : Value} {f_ReadGroup_worked_out_loads : Addr} {od_ReadGroup_worked_out_loads an_ReadGroup_worked_out_loads : Option Addr} {sl_ReadGroup_worked_out_loads : Array (Option Value)}
    {oc_ReadGroup_worked_out_loads kV_ReadGroup_worked_out_loads dc_ReadGroup_worked_out_loads pm_ReadGroup_worked_out_loads cd_ReadGroup_worked_out_loads ct_ReadGroup_worked_out_loads : Value} {f_ReadGroup_filled_load : Addr} {od_ReadGroup_filled_load an_ReadGroup_filled_load : Option Addr} {sl_ReadGroup_filled_load : Array (Option Value)} {oc_ReadGroup_filled_load kV_ReadGroup_filled_load dc_ReadGroup_filled_load pm_ReadGroup_filled_load cd_ReadGroup_filled_load ct_ReadGroup_filled_load : Value} {f_Reader_file_bytes : Addr} {od_Reader_file_bytes an_Reader_file_bytes : Option Addr} {sl_Reader_file_bytes : Array (Option Value)}
    {oc_Reader_file_bytes kV_Reader_file_bytes dc_Reader_file_bytes pm_Reader_file_bytes cd_Reader_file_bytes ct_Reader_file_bytes : Value} {f_Reader_block : Addr} {od_Reader_block an_Reader_block : Option Addr} {sl_Reader_block : Array (Option Value)} {oc_Reader_block kV_Reader_block dc_Reader_block pm_Reader_block cd_Reader_block ct_Reader_block : Value} {f_answer_next : Addr} {od_answer_next an_answer_next : Option Addr} {sl_answer_next : Array (Option Value)}
    {oc_answer_next kV_answer_next dc_answer_next pm_answer_next cd_answer_next ct_answer_next : Value} {f_answers : Addr} {od_answers an_answers : Option Addr} {sl_answers : Array (Option Value)} {oc_answers kV_answers dc_answers pm_answers cd_answers ct_answers : Value}
    (aC_CallNumbers : PySem.W.nsIn K mainGlobals "CallNumbers" = some (some (.ref C_CallNumbers)))
    (pg_CallNumbers : PySem.W.plainGet K C_CallNumbers Str.empty = true)
    (hd_CallNumbers : PySem.W.hasDictIn K C_CallNumbers = true)
    (po_CallNumbers : PySem.W.plainOver K C_CallNumbers = true)
    (sa_CallNumbers : PySem.W.findIn K (.ref C_CallNumbers) "__setattr__" = some (some (.builtin "object.__setattr__")))
    (mk_CallNumbers : PySem.W.makesIn K C_CallNumbers = true)
    (kc_CallNumbers : PySem.W.keepIn K (.ref C_CallNumbers) = true)
    (na_CallNumbers_numbers : PySem.W.findIn K (.ref C_CallNumbers) "numbers" = some none)
    (na_CallNumbers_taken : PySem.W.findIn K (.ref C_CallNumbers) "taken" = some none)
    (aC_Field : PySem.W.nsIn K mainGlobals "Field" = some (some (.ref C_Field)))
    (pg_Field : PySem.W.plainGet K C_Field Str.empty = true)
    (hd_Field : PySem.W.hasDictIn K C_Field = true)
    (po_Field : PySem.W.plainOver K C_Field = true)
    (sa_Field : PySem.W.findIn K (.ref C_Field) "__setattr__" = some (some (.builtin "object.__setattr__")))
    (mk_Field : PySem.W.makesIn K C_Field = true)
    (kc_Field : PySem.W.keepIn K (.ref C_Field) = true)
    (na_Field_powers : PySem.W.findIn K (.ref C_Field) "powers" = some none)
    (na_Field_logs : PySem.W.findIn K (.ref C_Field) "logs" = some none)
    (aC_Size : PySem.W.nsIn K mainGlobals "Size" = some (some (.ref C_Size)))
    (pg_Size : PySem.W.plainGet K C_Size Str.empty = true)
    (hd_Size : PySem.W.hasDictIn K C_Size = true)
    (po_Size : PySem.W.plainOver K C_Size = true)
    (sa_Size : PySem.W.findIn K (.ref C_Size) "__setattr__" = some (some (.builtin "object.__setattr__")))
    (mk_Size : PySem.W.makesIn K C_Size = true)
    (kc_Size : PySem.W.keepIn K (.ref C_Size) = true)
    (na_Size_k : PySem.W.findIn K (.ref C_Size) "k" = some none)
    (na_Size_m : PySem.W.findIn K (.ref C_Size) "m" = some none)
    (na_Size_n : PySem.W.findIn K (.ref C_Size) "n" = some none)
    (aC_Polynomial : PySem.W.nsIn K mainGlobals "Polynomial" = some (some (.ref C_Polynomial)))
    (pg_Polynomial : PySem.W.plainGet K C_Polynomial Str.empty = true)
    (hd_Polynomial : PySem.W.hasDictIn K C_Polynomial = true)
    (po_Polynomial : PySem.W.plainOver K C_Polynomial = true)
    (sa_Polynomial : PySem.W.findIn K (.ref C_Polynomial) "__setattr__" = some (some (.builtin "object.__setattr__")))
    (mk_Polynomial : PySem.W.makesIn K C_Polynomial = true)
    (kc_Polynomial : PySem.W.keepIn K (.ref C_Polynomial) = true)
    (na_Polynomial_field : PySem.W.findIn K (.ref C_Polynomial) "field" = some none)
    (na_Polynomial_places : PySem.W.findIn K (.ref C_Polynomial) "places" = some none)
    (na_Polynomial_divisor_logs : PySem.W.findIn K (.ref C_Polynomial) "divisor_logs" = some none)
    (aC_ReadGroup : PySem.W.nsIn K mainGlobals "ReadGroup" = some (some (.ref C_ReadGroup)))
    (pg_ReadGroup : PySem.W.plainGet K C_ReadGroup Str.empty = true)
    (hd_ReadGroup : PySem.W.hasDictIn K C_ReadGroup = true)
    (po_ReadGroup : PySem.W.plainOver K C_ReadGroup = true)
    (sa_ReadGroup : PySem.W.findIn K (.ref C_ReadGroup) "__setattr__" = some (some (.builtin "object.__setattr__")))
    (mk_ReadGroup : PySem.W.makesIn K C_ReadGroup = true)
    (kc_ReadGroup : PySem.W.keepIn K (.ref C_ReadGroup) = true)
    (na_ReadGroup_field : PySem.W.findIn K (.ref C_ReadGroup) "field" = some none)
    (na_ReadGroup_k : PySem.W.findIn K (.ref C_ReadGroup) "k" = some none)
    (na_ReadGroup_loads : PySem.W.findIn K (.ref C_ReadGroup) "loads" = some none)
    (na_ReadGroup_filled_loads : PySem.W.findIn K (.ref C_ReadGroup) "filled_loads" = some none)
    (aC_Reader : PySem.W.nsIn K mainGlobals "Reader" = some (some (.ref C_Reader)))
    (pg_Reader : PySem.W.plainGet K C_Reader Str.empty = true)
    (hd_Reader : PySem.W.hasDictIn K C_Reader = true)
    (po_Reader : PySem.W.plainOver K C_Reader = true)
    (sa_Reader : PySem.W.findIn K (.ref C_Reader) "__setattr__" = some (some (.builtin "object.__setattr__")))
    (mk_Reader : PySem.W.makesIn K C_Reader = true)
    (kc_Reader : PySem.W.keepIn K (.ref C_Reader) = true)
    (na_Reader_field : PySem.W.findIn K (.ref C_Reader) "field" = some none)
    (na_Reader_size : PySem.W.findIn K (.ref C_Reader) "size" = some none)
    (na_Reader_groups : PySem.W.findIn K (.ref C_Reader) "groups" = some none)
    (aC_Writer : PySem.W.nsIn K mainGlobals "Writer" = some (some (.ref C_Writer)))
    (pg_Writer : PySem.W.plainGet K C_Writer Str.empty = true)
    (hd_Writer : PySem.W.hasDictIn K C_Writer = true)
    (po_Writer : PySem.W.plainOver K C_Writer = true)
    (sa_Writer : PySem.W.findIn K (.ref C_Writer) "__setattr__" = some (some (.builtin "object.__setattr__")))
    (mk_Writer : PySem.W.makesIn K C_Writer = true)
    (kc_Writer : PySem.W.keepIn K (.ref C_Writer) = true)
    (na_Writer_field : PySem.W.findIn K (.ref C_Writer) "field" = some none)
    (na_Writer_size : PySem.W.findIn K (.ref C_Writer) "size" = some none)
    (na_Writer_polynomial : PySem.W.findIn K (.ref C_Writer) "polynomial" = some none)
    (na_Writer_data : PySem.W.findIn K (.ref C_Writer) "data" = some none)
    (b_len : PySem.W.nsIn K mainGlobals "len" = some none)
    (b_range : PySem.W.nsIn K mainGlobals "range" = some none)
    (b_sum : PySem.W.nsIn K mainGlobals "sum" = some none)
    (b_zip : PySem.W.nsIn K mainGlobals "zip" = some none)
    (b_max : PySem.W.nsIn K mainGlobals "max" = some none)
    (b_sorted : PySem.W.nsIn K mainGlobals "sorted" = some none)
    (b_enumerate : PySem.W.nsIn K mainGlobals "enumerate" = some none)
    (b_all : PySem.W.nsIn K mainGlobals "all" = some none)
    (b_min : PySem.W.nsIn K mainGlobals "min" = some none)
    (b_list : PySem.W.nsIn K mainGlobals "list" = some none)
    (c_NUMBERS : PySem.W.nsIn K mainGlobals "NUMBERS" = some (some (.int (256) ct_NUMBERS)))
    (c_NONZERO : PySem.W.nsIn K mainGlobals "NONZERO" = some (some (.int (255) ct_NONZERO)))
    (c_MODULUS : PySem.W.nsIn K mainGlobals "MODULUS" = some (some (.int (283) ct_MODULUS)))
    (c_LOAD_LENGTH : PySem.W.nsIn K mainGlobals "LOAD_LENGTH" = some (some (.int (12) ct_LOAD_LENGTH)))
    (c_MOST_FILLED : PySem.W.nsIn K mainGlobals "MOST_FILLED" = some (some (.int (64) ct_MOST_FILLED)))
    (c_MOST_SPARE : PySem.W.nsIn K mainGlobals "MOST_SPARE" = some (some (.int (32) ct_MOST_SPARE)))
    (c_MOST_BYTES : PySem.W.nsIn K mainGlobals "MOST_BYTES" = some (some (.int (16384) ct_MOST_BYTES)))
    (c_MOST_STRANDS : PySem.W.nsIn K mainGlobals "MOST_STRANDS" = some (some (.int (4096) ct_MOST_STRANDS)))
    (c_WRONG_SIZE : PySem.W.nsIn K mainGlobals "WRONG_SIZE" = some (some (.int (-22) ct_WRONG_SIZE)))
    (ca_LETTERS : PySem.W.nsIn K mainGlobals "LETTERS" = some (some (.ref ta_LETTERS)))
    (cl_LETTERS : K.lookup ta_LETTERS = some ⟨.type "tuple", Option.none, .seq #[.int 65 tt_LETTERS_0, .int 67 tt_LETTERS_1, .int 71 tt_LETTERS_2, .int 84 tt_LETTERS_3] tn_LETTERS, ts_LETTERS⟩)
    (c_STRAND_LENGTH : PySem.W.nsIn K mainGlobals "STRAND_LENGTH" = some (some (.int (64) ct_STRAND_LENGTH)))
    (c_WEIGHT_MODULUS : PySem.W.nsIn K mainGlobals "WEIGHT_MODULUS" = some (some (.int (128) ct_WEIGHT_MODULUS)))
    (ca_WEIGHT_PLACES : PySem.W.nsIn K mainGlobals "WEIGHT_PLACES" = some (some (.ref ta_WEIGHT_PLACES)))
    (cl_WEIGHT_PLACES : K.lookup ta_WEIGHT_PLACES = some ⟨.type "tuple", Option.none, .seq #[.int 1 tt_WEIGHT_PLACES_0, .int 2 tt_WEIGHT_PLACES_1, .int 4 tt_WEIGHT_PLACES_2, .int 8 tt_WEIGHT_PLACES_3, .int 16 tt_WEIGHT_PLACES_4, .int 32 tt_WEIGHT_PLACES_5, .int 64 tt_WEIGHT_PLACES_6] tn_WEIGHT_PLACES, ts_WEIGHT_PLACES⟩)
    (c_ROW_BITS : PySem.W.nsIn K mainGlobals "ROW_BITS" = some (some (.int (56) ct_ROW_BITS)))
    (c_SHORTEST : PySem.W.nsIn K mainGlobals "SHORTEST" = some (some (.int (63) ct_SHORTEST)))
    (c_LONGEST : PySem.W.nsIn K mainGlobals "LONGEST" = some (some (.int (65) ct_LONGEST)))
    (c_BLOCK_LENGTH : PySem.W.nsIn K mainGlobals "BLOCK_LENGTH" = some (some (.int (256) ct_BLOCK_LENGTH)))
    (c_WRONG_LETTERS : PySem.W.nsIn K mainGlobals "WRONG_LETTERS" = some (some (.int (-22) ct_WRONG_LETTERS)))
    (c_NOT_MENDED : PySem.W.nsIn K mainGlobals "NOT_MENDED" = some (some (.int (-74) ct_NOT_MENDED)))
    (c_ANOTHER_LOAD : PySem.W.nsIn K mainGlobals "ANOTHER_LOAD" = some (some (.int (-17) ct_ANOTHER_LOAD)))
    (c_READ_BEFORE : PySem.W.nsIn K mainGlobals "READ_BEFORE" = some (some (.int (0) ct_READ_BEFORE)))
    (c_READ_NOW : PySem.W.nsIn K mainGlobals "READ_NOW" = some (some (.int (1) ct_READ_NOW)))
    (c_NO_BLOCK : PySem.W.nsIn K mainGlobals "NO_BLOCK" = some (some (.int (-22) ct_NO_BLOCK)))
    (c_STRANDS_LACKING : PySem.W.nsIn K mainGlobals "STRANDS_LACKING" = some (some (.int (-11) ct_STRANDS_LACKING)))
    (c_NO_STRAND : PySem.W.nsIn K mainGlobals "NO_STRAND" = some (some (.int (-2) ct_NO_STRAND)))
    (c_SK_START : PySem.W.nsIn K mainGlobals "SK_START" = some (some (.int (0) ct_SK_START)))
    (c_SK_STRAND : PySem.W.nsIn K mainGlobals "SK_STRAND" = some (some (.int (1) ct_SK_STRAND)))
    (c_SR_START : PySem.W.nsIn K mainGlobals "SR_START" = some (some (.int (2) ct_SR_START)))
    (c_SR_READ : PySem.W.nsIn K mainGlobals "SR_READ" = some (some (.int (3) ct_SR_READ)))
    (c_SR_LACKS : PySem.W.nsIn K mainGlobals "SR_LACKS" = some (some (.int (4) ct_SR_LACKS)))
    (c_SR_BYTES : PySem.W.nsIn K mainGlobals "SR_BYTES" = some (some (.int (5) ct_SR_BYTES)))
    (a_CallNumbers_init : PySem.W.findIn K (.ref C_CallNumbers) "__init__" = some (some (.ref f_CallNumbers_init)))
    (i_CallNumbers_init : PySem.W.isFn K (.ref f_CallNumbers_init) = true)
    (l_CallNumbers_init : K.lookup f_CallNumbers_init = some ⟨oc_CallNumbers_init, od_CallNumbers_init, .func (PySem.W.fnOf "__init__" "CallNumbers.__init__" (defArgs st_CallNumbers_init) (defBody st_CallNumbers_init) (defScope st_CallNumbers_init) .none kV_CallNumbers_init dc_CallNumbers_init pm_CallNumbers_init an_CallNumbers_init cd_CallNumbers_init ct_CallNumbers_init), sl_CallNumbers_init⟩)
    (cc_CallNumbers_init : PySem.W.codeIn K cd_CallNumbers_init "CallNumbers.__init__" = true)
    (k_CallNumbers_init : PySem.W.keepIn K (.ref f_CallNumbers_init) = true)
    (a_times_x_plus_one : PySem.W.nsIn K mainGlobals "times_x_plus_one" = some (some (.ref f_times_x_plus_one)))
    (l_times_x_plus_one : K.lookup f_times_x_plus_one = some ⟨oc_times_x_plus_one, od_times_x_plus_one, .func (PySem.W.fnOf "times_x_plus_one" "times_x_plus_one" (defArgs st_times_x_plus_one) (defBody st_times_x_plus_one) (defScope st_times_x_plus_one) .none kV_times_x_plus_one dc_times_x_plus_one pm_times_x_plus_one an_times_x_plus_one cd_times_x_plus_one ct_times_x_plus_one), sl_times_x_plus_one⟩)
    (cc_times_x_plus_one : PySem.W.codeIn K cd_times_x_plus_one "times_x_plus_one" = true)
    (k_times_x_plus_one : PySem.W.keepIn K (.ref f_times_x_plus_one) = true)
    (a_Field_init : PySem.W.findIn K (.ref C_Field) "__init__" = some (some (.ref f_Field_init)))
    (i_Field_init : PySem.W.isFn K (.ref f_Field_init) = true)
    (l_Field_init : K.lookup f_Field_init = some ⟨oc_Field_init, od_Field_init, .func (PySem.W.fnOf "__init__" "Field.__init__" (defArgs st_Field_init) (defBody st_Field_init) (defScope st_Field_init) .none kV_Field_init dc_Field_init pm_Field_init an_Field_init cd_Field_init ct_Field_init), sl_Field_init⟩)
    (cc_Field_init : PySem.W.codeIn K cd_Field_init "Field.__init__" = true)
    (k_Field_init : PySem.W.keepIn K (.ref f_Field_init) = true)
    (a_Writer_init : PySem.W.findIn K (.ref C_Writer) "__init__" = some (some (.ref f_Writer_init)))
    (i_Writer_init : PySem.W.isFn K (.ref f_Writer_init) = true)
    (l_Writer_init : K.lookup f_Writer_init = some ⟨oc_Writer_init, od_Writer_init, .func (PySem.W.fnOf "__init__" "Writer.__init__" (defArgs st_Writer_init) (defBody st_Writer_init) (defScope st_Writer_init) .none kV_Writer_init dc_Writer_init pm_Writer_init an_Writer_init cd_Writer_init ct_Writer_init), sl_Writer_init⟩)
    (cc_Writer_init : PySem.W.codeIn K cd_Writer_init "Writer.__init__" = true)
    (k_Writer_init : PySem.W.keepIn K (.ref f_Writer_init) = true)
    (a_Reader_init : PySem.W.findIn K (.ref C_Reader) "__init__" = some (some (.ref f_Reader_init)))
    (i_Reader_init : PySem.W.isFn K (.ref f_Reader_init) = true)
    (l_Reader_init : K.lookup f_Reader_init = some ⟨oc_Reader_init, od_Reader_init, .func (PySem.W.fnOf "__init__" "Reader.__init__" (defArgs st_Reader_init) (defBody st_Reader_init) (defScope st_Reader_init) .none kV_Reader_init dc_Reader_init pm_Reader_init an_Reader_init cd_Reader_init ct_Reader_init), sl_Reader_init⟩)
    (cc_Reader_init : PySem.W.codeIn K cd_Reader_init "Reader.__init__" = true)
    (k_Reader_init : PySem.W.keepIn K (.ref f_Reader_init) = true)
    (a_CallNumbers_is_taken : PySem.W.findIn K (.ref C_CallNumbers) "is_taken" = some (some (.ref f_CallNumbers_is_taken)))
    (i_CallNumbers_is_taken : PySem.W.isFn K (.ref f_CallNumbers_is_taken) = true)
    (l_CallNumbers_is_taken : K.lookup f_CallNumbers_is_taken = some ⟨oc_CallNumbers_is_taken, od_CallNumbers_is_taken, .func (PySem.W.fnOf "is_taken" "CallNumbers.is_taken" (defArgs st_CallNumbers_is_taken) (defBody st_CallNumbers_is_taken) (defScope st_CallNumbers_is_taken) .none kV_CallNumbers_is_taken dc_CallNumbers_is_taken pm_CallNumbers_is_taken an_CallNumbers_is_taken cd_CallNumbers_is_taken ct_CallNumbers_is_taken), sl_CallNumbers_is_taken⟩)
    (cc_CallNumbers_is_taken : PySem.W.codeIn K cd_CallNumbers_is_taken "CallNumbers.is_taken" = true)
    (k_CallNumbers_is_taken : PySem.W.keepIn K (.ref f_CallNumbers_is_taken) = true)
    (a_CallNumbers_take_number : PySem.W.findIn K (.ref C_CallNumbers) "take_number" = some (some (.ref f_CallNumbers_take_number)))
    (i_CallNumbers_take_number : PySem.W.isFn K (.ref f_CallNumbers_take_number) = true)
    (l_CallNumbers_take_number : K.lookup f_CallNumbers_take_number = some ⟨oc_CallNumbers_take_number, od_CallNumbers_take_number, .func (PySem.W.fnOf "take_number" "CallNumbers.take_number" (defArgs st_CallNumbers_take_number) (defBody st_CallNumbers_take_number) (defScope st_CallNumbers_take_number) .none kV_CallNumbers_take_number dc_CallNumbers_take_number pm_CallNumbers_take_number an_CallNumbers_take_number cd_CallNumbers_take_number ct_CallNumbers_take_number), sl_CallNumbers_take_number⟩)
    (cc_CallNumbers_take_number : PySem.W.codeIn K cd_CallNumbers_take_number "CallNumbers.take_number" = true)
    (k_CallNumbers_take_number : PySem.W.keepIn K (.ref f_CallNumbers_take_number) = true)
    (a_CallNumbers_take_row : PySem.W.findIn K (.ref C_CallNumbers) "take_row" = some (some (.ref f_CallNumbers_take_row)))
    (i_CallNumbers_take_row : PySem.W.isFn K (.ref f_CallNumbers_take_row) = true)
    (l_CallNumbers_take_row : K.lookup f_CallNumbers_take_row = some ⟨oc_CallNumbers_take_row, od_CallNumbers_take_row, .func (PySem.W.fnOf "take_row" "CallNumbers.take_row" (defArgs st_CallNumbers_take_row) (defBody st_CallNumbers_take_row) (defScope st_CallNumbers_take_row) .none kV_CallNumbers_take_row dc_CallNumbers_take_row pm_CallNumbers_take_row an_CallNumbers_take_row cd_CallNumbers_take_row ct_CallNumbers_take_row), sl_CallNumbers_take_row⟩)
    (cc_CallNumbers_take_row : PySem.W.codeIn K cd_CallNumbers_take_row "CallNumbers.take_row" = true)
    (k_CallNumbers_take_row : PySem.W.keepIn K (.ref f_CallNumbers_take_row) = true)
    (a_Size_init : PySem.W.findIn K (.ref C_Size) "__init__" = some (some (.ref f_Size_init)))
    (i_Size_init : PySem.W.isFn K (.ref f_Size_init) = true)
    (l_Size_init : K.lookup f_Size_init = some ⟨oc_Size_init, od_Size_init, .func (PySem.W.fnOf "__init__" "Size.__init__" (defArgs st_Size_init) (defBody st_Size_init) (defScope st_Size_init) .none kV_Size_init dc_Size_init pm_Size_init an_Size_init cd_Size_init ct_Size_init), sl_Size_init⟩)
    (cc_Size_init : PySem.W.codeIn K cd_Size_init "Size.__init__" = true)
    (k_Size_init : PySem.W.keepIn K (.ref f_Size_init) = true)
    (a_Size_is_in_range : PySem.W.findIn K (.ref C_Size) "is_in_range" = some (some (.ref f_Size_is_in_range)))
    (i_Size_is_in_range : PySem.W.isFn K (.ref f_Size_is_in_range) = true)
    (l_Size_is_in_range : K.lookup f_Size_is_in_range = some ⟨oc_Size_is_in_range, od_Size_is_in_range, .func (PySem.W.fnOf "is_in_range" "Size.is_in_range" (defArgs st_Size_is_in_range) (defBody st_Size_is_in_range) (defScope st_Size_is_in_range) .none kV_Size_is_in_range dc_Size_is_in_range pm_Size_is_in_range an_Size_is_in_range cd_Size_is_in_range ct_Size_is_in_range), sl_Size_is_in_range⟩)
    (cc_Size_is_in_range : PySem.W.codeIn K cd_Size_is_in_range "Size.is_in_range" = true)
    (k_Size_is_in_range : PySem.W.keepIn K (.ref f_Size_is_in_range) = true)
    (a_Size_group_count : PySem.W.findIn K (.ref C_Size) "group_count" = some (some (.ref f_Size_group_count)))
    (i_Size_group_count : PySem.W.isFn K (.ref f_Size_group_count) = true)
    (l_Size_group_count : K.lookup f_Size_group_count = some ⟨oc_Size_group_count, od_Size_group_count, .func (PySem.W.fnOf "group_count" "Size.group_count" (defArgs st_Size_group_count) (defBody st_Size_group_count) (defScope st_Size_group_count) .none kV_Size_group_count dc_Size_group_count pm_Size_group_count an_Size_group_count cd_Size_group_count ct_Size_group_count), sl_Size_group_count⟩)
    (cc_Size_group_count : PySem.W.codeIn K cd_Size_group_count "Size.group_count" = true)
    (k_Size_group_count : PySem.W.keepIn K (.ref f_Size_group_count) = true)
    (a_Size_group_length : PySem.W.findIn K (.ref C_Size) "group_length" = some (some (.ref f_Size_group_length)))
    (i_Size_group_length : PySem.W.isFn K (.ref f_Size_group_length) = true)
    (l_Size_group_length : K.lookup f_Size_group_length = some ⟨oc_Size_group_length, od_Size_group_length, .func (PySem.W.fnOf "group_length" "Size.group_length" (defArgs st_Size_group_length) (defBody st_Size_group_length) (defScope st_Size_group_length) .none kV_Size_group_length dc_Size_group_length pm_Size_group_length an_Size_group_length cd_Size_group_length ct_Size_group_length), sl_Size_group_length⟩)
    (cc_Size_group_length : PySem.W.codeIn K cd_Size_group_length "Size.group_length" = true)
    (k_Size_group_length : PySem.W.keepIn K (.ref f_Size_group_length) = true)
    (a_Size_strand_count : PySem.W.findIn K (.ref C_Size) "strand_count" = some (some (.ref f_Size_strand_count)))
    (i_Size_strand_count : PySem.W.isFn K (.ref f_Size_strand_count) = true)
    (l_Size_strand_count : K.lookup f_Size_strand_count = some ⟨oc_Size_strand_count, od_Size_strand_count, .func (PySem.W.fnOf "strand_count" "Size.strand_count" (defArgs st_Size_strand_count) (defBody st_Size_strand_count) (defScope st_Size_strand_count) .none kV_Size_strand_count dc_Size_strand_count pm_Size_strand_count an_Size_strand_count cd_Size_strand_count ct_Size_strand_count), sl_Size_strand_count⟩)
    (cc_Size_strand_count : PySem.W.codeIn K cd_Size_strand_count "Size.strand_count" = true)
    (k_Size_strand_count : PySem.W.keepIn K (.ref f_Size_strand_count) = true)
    (a_Size_is_as_told : PySem.W.findIn K (.ref C_Size) "is_as_told" = some (some (.ref f_Size_is_as_told)))
    (i_Size_is_as_told : PySem.W.isFn K (.ref f_Size_is_as_told) = true)
    (l_Size_is_as_told : K.lookup f_Size_is_as_told = some ⟨oc_Size_is_as_told, od_Size_is_as_told, .func (PySem.W.fnOf "is_as_told" "Size.is_as_told" (defArgs st_Size_is_as_told) (defBody st_Size_is_as_told) (defScope st_Size_is_as_told) .none kV_Size_is_as_told dc_Size_is_as_told pm_Size_is_as_told an_Size_is_as_told cd_Size_is_as_told ct_Size_is_as_told), sl_Size_is_as_told⟩)
    (cc_Size_is_as_told : PySem.W.codeIn K cd_Size_is_as_told "Size.is_as_told" = true)
    (k_Size_is_as_told : PySem.W.keepIn K (.ref f_Size_is_as_told) = true)
    (a_Polynomial_distance_log : PySem.W.findIn K (.ref C_Polynomial) "distance_log" = some (some (.ref f_Polynomial_distance_log)))
    (i_Polynomial_distance_log : PySem.W.isFn K (.ref f_Polynomial_distance_log) = true)
    (l_Polynomial_distance_log : K.lookup f_Polynomial_distance_log = some ⟨oc_Polynomial_distance_log, od_Polynomial_distance_log, .func (PySem.W.fnOf "distance_log" "Polynomial.distance_log" (defArgs st_Polynomial_distance_log) (defBody st_Polynomial_distance_log) (defScope st_Polynomial_distance_log) .none kV_Polynomial_distance_log dc_Polynomial_distance_log pm_Polynomial_distance_log an_Polynomial_distance_log cd_Polynomial_distance_log ct_Polynomial_distance_log), sl_Polynomial_distance_log⟩)
    (cc_Polynomial_distance_log : PySem.W.codeIn K cd_Polynomial_distance_log "Polynomial.distance_log" = true)
    (k_Polynomial_distance_log : PySem.W.keepIn K (.ref f_Polynomial_distance_log) = true)
    (a_Polynomial_init : PySem.W.findIn K (.ref C_Polynomial) "__init__" = some (some (.ref f_Polynomial_init)))
    (i_Polynomial_init : PySem.W.isFn K (.ref f_Polynomial_init) = true)
    (l_Polynomial_init : K.lookup f_Polynomial_init = some ⟨oc_Polynomial_init, od_Polynomial_init, .func (PySem.W.fnOf "__init__" "Polynomial.__init__" (defArgs st_Polynomial_init) (defBody st_Polynomial_init) (defScope st_Polynomial_init) .none kV_Polynomial_init dc_Polynomial_init pm_Polynomial_init an_Polynomial_init cd_Polynomial_init ct_Polynomial_init), sl_Polynomial_init⟩)
    (cc_Polynomial_init : PySem.W.codeIn K cd_Polynomial_init "Polynomial.__init__" = true)
    (k_Polynomial_init : PySem.W.keepIn K (.ref f_Polynomial_init) = true)
    (a_Writer_begin : PySem.W.findIn K (.ref C_Writer) "begin" = some (some (.ref f_Writer_begin)))
    (i_Writer_begin : PySem.W.isFn K (.ref f_Writer_begin) = true)
    (l_Writer_begin : K.lookup f_Writer_begin = some ⟨oc_Writer_begin, od_Writer_begin, .func (PySem.W.fnOf "begin" "Writer.begin" (defArgs st_Writer_begin) (defBody st_Writer_begin) (defScope st_Writer_begin) .none kV_Writer_begin dc_Writer_begin pm_Writer_begin an_Writer_begin cd_Writer_begin ct_Writer_begin), sl_Writer_begin⟩)
    (cc_Writer_begin : PySem.W.codeIn K cd_Writer_begin "Writer.begin" = true)
    (k_Writer_begin : PySem.W.keepIn K (.ref f_Writer_begin) = true)
    (a_sk_start : PySem.W.nsIn K mainGlobals "sk_start" = some (some (.ref f_sk_start)))
    (l_sk_start : K.lookup f_sk_start = some ⟨oc_sk_start, od_sk_start, .func (PySem.W.fnOf "sk_start" "sk_start" (defArgs st_sk_start) (defBody st_sk_start) (defScope st_sk_start) .none kV_sk_start dc_sk_start pm_sk_start an_sk_start cd_sk_start ct_sk_start), sl_sk_start⟩)
    (cc_sk_start : PySem.W.codeIn K cd_sk_start "sk_start" = true)
    (k_sk_start : PySem.W.keepIn K (.ref f_sk_start) = true)
    (a_ReadGroup_init : PySem.W.findIn K (.ref C_ReadGroup) "__init__" = some (some (.ref f_ReadGroup_init)))
    (i_ReadGroup_init : PySem.W.isFn K (.ref f_ReadGroup_init) = true)
    (l_ReadGroup_init : K.lookup f_ReadGroup_init = some ⟨oc_ReadGroup_init, od_ReadGroup_init, .func (PySem.W.fnOf "__init__" "ReadGroup.__init__" (defArgs st_ReadGroup_init) (defBody st_ReadGroup_init) (defScope st_ReadGroup_init) .none kV_ReadGroup_init dc_ReadGroup_init pm_ReadGroup_init an_ReadGroup_init cd_ReadGroup_init ct_ReadGroup_init), sl_ReadGroup_init⟩)
    (cc_ReadGroup_init : PySem.W.codeIn K cd_ReadGroup_init "ReadGroup.__init__" = true)
    (k_ReadGroup_init : PySem.W.keepIn K (.ref f_ReadGroup_init) = true)
    (a_Reader_begin : PySem.W.findIn K (.ref C_Reader) "begin" = some (some (.ref f_Reader_begin)))
    (i_Reader_begin : PySem.W.isFn K (.ref f_Reader_begin) = true)
    (l_Reader_begin : K.lookup f_Reader_begin = some ⟨oc_Reader_begin, od_Reader_begin, .func (PySem.W.fnOf "begin" "Reader.begin" (defArgs st_Reader_begin) (defBody st_Reader_begin) (defScope st_Reader_begin) .none kV_Reader_begin dc_Reader_begin pm_Reader_begin an_Reader_begin cd_Reader_begin ct_Reader_begin), sl_Reader_begin⟩)
    (cc_Reader_begin : PySem.W.codeIn K cd_Reader_begin "Reader.begin" = true)
    (k_Reader_begin : PySem.W.keepIn K (.ref f_Reader_begin) = true)
    (a_sr_start : PySem.W.nsIn K mainGlobals "sr_start" = some (some (.ref f_sr_start)))
    (l_sr_start : K.lookup f_sr_start = some ⟨oc_sr_start, od_sr_start, .func (PySem.W.fnOf "sr_start" "sr_start" (defArgs st_sr_start) (defBody st_sr_start) (defScope st_sr_start) .none kV_sr_start dc_sr_start pm_sr_start an_sr_start cd_sr_start ct_sr_start), sl_sr_start⟩)
    (cc_sr_start : PySem.W.codeIn K cd_sr_start "sr_start" = true)
    (k_sr_start : PySem.W.keepIn K (.ref f_sr_start) = true)
    (a_Size_group_of : PySem.W.findIn K (.ref C_Size) "group_of" = some (some (.ref f_Size_group_of)))
    (i_Size_group_of : PySem.W.isFn K (.ref f_Size_group_of) = true)
    (l_Size_group_of : K.lookup f_Size_group_of = some ⟨oc_Size_group_of, od_Size_group_of, .func (PySem.W.fnOf "group_of" "Size.group_of" (defArgs st_Size_group_of) (defBody st_Size_group_of) (defScope st_Size_group_of) .none kV_Size_group_of dc_Size_group_of pm_Size_group_of an_Size_group_of cd_Size_group_of ct_Size_group_of), sl_Size_group_of⟩)
    (cc_Size_group_of : PySem.W.codeIn K cd_Size_group_of "Size.group_of" = true)
    (k_Size_group_of : PySem.W.keepIn K (.ref f_Size_group_of) = true)
    (a_Size_place_of : PySem.W.findIn K (.ref C_Size) "place_of" = some (some (.ref f_Size_place_of)))
    (i_Size_place_of : PySem.W.isFn K (.ref f_Size_place_of) = true)
    (l_Size_place_of : K.lookup f_Size_place_of = some ⟨oc_Size_place_of, od_Size_place_of, .func (PySem.W.fnOf "place_of" "Size.place_of" (defArgs st_Size_place_of) (defBody st_Size_place_of) (defScope st_Size_place_of) .none kV_Size_place_of dc_Size_place_of pm_Size_place_of an_Size_place_of cd_Size_place_of ct_Size_place_of), sl_Size_place_of⟩)
    (cc_Size_place_of : PySem.W.codeIn K cd_Size_place_of "Size.place_of" = true)
    (k_Size_place_of : PySem.W.keepIn K (.ref f_Size_place_of) = true)
    (a_Writer_filled_load : PySem.W.findIn K (.ref C_Writer) "filled_load" = some (some (.ref f_Writer_filled_load)))
    (i_Writer_filled_load : PySem.W.isFn K (.ref f_Writer_filled_load) = true)
    (l_Writer_filled_load : K.lookup f_Writer_filled_load = some ⟨oc_Writer_filled_load, od_Writer_filled_load, .func (PySem.W.fnOf "filled_load" "Writer.filled_load" (defArgs st_Writer_filled_load) (defBody st_Writer_filled_load) (defScope st_Writer_filled_load) .none kV_Writer_filled_load dc_Writer_filled_load pm_Writer_filled_load an_Writer_filled_load cd_Writer_filled_load ct_Writer_filled_load), sl_Writer_filled_load⟩)
    (cc_Writer_filled_load : PySem.W.codeIn K cd_Writer_filled_load "Writer.filled_load" = true)
    (k_Writer_filled_load : PySem.W.keepIn K (.ref f_Writer_filled_load) = true)
    (a_Field_power : PySem.W.findIn K (.ref C_Field) "power" = some (some (.ref f_Field_power)))
    (i_Field_power : PySem.W.isFn K (.ref f_Field_power) = true)
    (l_Field_power : K.lookup f_Field_power = some ⟨oc_Field_power, od_Field_power, .func (PySem.W.fnOf "power" "Field.power" (defArgs st_Field_power) (defBody st_Field_power) (defScope st_Field_power) .none kV_Field_power dc_Field_power pm_Field_power an_Field_power cd_Field_power ct_Field_power), sl_Field_power⟩)
    (cc_Field_power : PySem.W.codeIn K cd_Field_power "Field.power" = true)
    (k_Field_power : PySem.W.keepIn K (.ref f_Field_power) = true)
    (a_Polynomial_weights_at : PySem.W.findIn K (.ref C_Polynomial) "weights_at" = some (some (.ref f_Polynomial_weights_at)))
    (i_Polynomial_weights_at : PySem.W.isFn K (.ref f_Polynomial_weights_at) = true)
    (l_Polynomial_weights_at : K.lookup f_Polynomial_weights_at = some ⟨oc_Polynomial_weights_at, od_Polynomial_weights_at, .func (PySem.W.fnOf "weights_at" "Polynomial.weights_at" (defArgs st_Polynomial_weights_at) (defBody st_Polynomial_weights_at) (defScope st_Polynomial_weights_at) .none kV_Polynomial_weights_at dc_Polynomial_weights_at pm_Polynomial_weights_at an_Polynomial_weights_at cd_Polynomial_weights_at ct_Polynomial_weights_at), sl_Polynomial_weights_at⟩)
    (cc_Polynomial_weights_at : PySem.W.codeIn K cd_Polynomial_weights_at "Polynomial.weights_at" = true)
    (k_Polynomial_weights_at : PySem.W.keepIn K (.ref f_Polynomial_weights_at) = true)
    (a_Field_multiply : PySem.W.findIn K (.ref C_Field) "multiply" = some (some (.ref f_Field_multiply)))
    (i_Field_multiply : PySem.W.isFn K (.ref f_Field_multiply) = true)
    (l_Field_multiply : K.lookup f_Field_multiply = some ⟨oc_Field_multiply, od_Field_multiply, .func (PySem.W.fnOf "multiply" "Field.multiply" (defArgs st_Field_multiply) (defBody st_Field_multiply) (defScope st_Field_multiply) .none kV_Field_multiply dc_Field_multiply pm_Field_multiply an_Field_multiply cd_Field_multiply ct_Field_multiply), sl_Field_multiply⟩)
    (cc_Field_multiply : PySem.W.codeIn K cd_Field_multiply "Field.multiply" = true)
    (k_Field_multiply : PySem.W.keepIn K (.ref f_Field_multiply) = true)
    (a_Polynomial_load_at : PySem.W.findIn K (.ref C_Polynomial) "load_at" = some (some (.ref f_Polynomial_load_at)))
    (i_Polynomial_load_at : PySem.W.isFn K (.ref f_Polynomial_load_at) = true)
    (l_Polynomial_load_at : K.lookup f_Polynomial_load_at = some ⟨oc_Polynomial_load_at, od_Polynomial_load_at, .func (PySem.W.fnOf "load_at" "Polynomial.load_at" (defArgs st_Polynomial_load_at) (defBody st_Polynomial_load_at) (defScope st_Polynomial_load_at) .none kV_Polynomial_load_at dc_Polynomial_load_at pm_Polynomial_load_at an_Polynomial_load_at cd_Polynomial_load_at ct_Polynomial_load_at), sl_Polynomial_load_at⟩)
    (cc_Polynomial_load_at : PySem.W.codeIn K cd_Polynomial_load_at "Polynomial.load_at" = true)
    (k_Polynomial_load_at : PySem.W.keepIn K (.ref f_Polynomial_load_at) = true)
    (a_Writer_load_of : PySem.W.findIn K (.ref C_Writer) "load_of" = some (some (.ref f_Writer_load_of)))
    (i_Writer_load_of : PySem.W.isFn K (.ref f_Writer_load_of) = true)
    (l_Writer_load_of : K.lookup f_Writer_load_of = some ⟨oc_Writer_load_of, od_Writer_load_of, .func (PySem.W.fnOf "load_of" "Writer.load_of" (defArgs st_Writer_load_of) (defBody st_Writer_load_of) (defScope st_Writer_load_of) .none kV_Writer_load_of dc_Writer_load_of pm_Writer_load_of an_Writer_load_of cd_Writer_load_of ct_Writer_load_of), sl_Writer_load_of⟩)
    (cc_Writer_load_of : PySem.W.codeIn K cd_Writer_load_of "Writer.load_of" = true)
    (k_Writer_load_of : PySem.W.keepIn K (.ref f_Writer_load_of) = true)
    (a_bits_of : PySem.W.nsIn K mainGlobals "bits_of" = some (some (.ref f_bits_of)))
    (l_bits_of : K.lookup f_bits_of = some ⟨oc_bits_of, od_bits_of, .func (PySem.W.fnOf "bits_of" "bits_of" (defArgs st_bits_of) (defBody st_bits_of) (defScope st_bits_of) .none kV_bits_of dc_bits_of pm_bits_of an_bits_of cd_bits_of ct_bits_of), sl_bits_of⟩)
    (cc_bits_of : PySem.W.codeIn K cd_bits_of "bits_of" = true)
    (k_bits_of : PySem.W.keepIn K (.ref f_bits_of) = true)
    (a_carrying_row : PySem.W.nsIn K mainGlobals "carrying_row" = some (some (.ref f_carrying_row)))
    (l_carrying_row : K.lookup f_carrying_row = some ⟨oc_carrying_row, od_carrying_row, .func (PySem.W.fnOf "carrying_row" "carrying_row" (defArgs st_carrying_row) (defBody st_carrying_row) (defScope st_carrying_row) .none kV_carrying_row dc_carrying_row pm_carrying_row an_carrying_row cd_carrying_row ct_carrying_row), sl_carrying_row⟩)
    (cc_carrying_row : PySem.W.codeIn K cd_carrying_row "carrying_row" = true)
    (k_carrying_row : PySem.W.keepIn K (.ref f_carrying_row) = true)
    (a_row_weight : PySem.W.nsIn K mainGlobals "row_weight" = some (some (.ref f_row_weight)))
    (l_row_weight : K.lookup f_row_weight = some ⟨oc_row_weight, od_row_weight, .func (PySem.W.fnOf "row_weight" "row_weight" (defArgs st_row_weight) (defBody st_row_weight) (defScope st_row_weight) .none kV_row_weight dc_row_weight pm_row_weight an_row_weight cd_row_weight ct_row_weight), sl_row_weight⟩)
    (cc_row_weight : PySem.W.codeIn K cd_row_weight "row_weight" = true)
    (k_row_weight : PySem.W.keepIn K (.ref f_row_weight) = true)
    (a_right_row : PySem.W.nsIn K mainGlobals "right_row" = some (some (.ref f_right_row)))
    (l_right_row : K.lookup f_right_row = some ⟨oc_right_row, od_right_row, .func (PySem.W.fnOf "right_row" "right_row" (defArgs st_right_row) (defBody st_right_row) (defScope st_right_row) .none kV_right_row dc_right_row pm_right_row an_right_row cd_right_row ct_right_row), sl_right_row⟩)
    (cc_right_row : PySem.W.codeIn K cd_right_row "right_row" = true)
    (k_right_row : PySem.W.keepIn K (.ref f_right_row) = true)
    (a_strand_letters : PySem.W.nsIn K mainGlobals "strand_letters" = some (some (.ref f_strand_letters)))
    (l_strand_letters : K.lookup f_strand_letters = some ⟨oc_strand_letters, od_strand_letters, .func (PySem.W.fnOf "strand_letters" "strand_letters" (defArgs st_strand_letters) (defBody st_strand_letters) (defScope st_strand_letters) .none kV_strand_letters dc_strand_letters pm_strand_letters an_strand_letters cd_strand_letters ct_strand_letters), sl_strand_letters⟩)
    (cc_strand_letters : PySem.W.codeIn K cd_strand_letters "strand_letters" = true)
    (k_strand_letters : PySem.W.keepIn K (.ref f_strand_letters) = true)
    (a_Writer_strand : PySem.W.findIn K (.ref C_Writer) "strand" = some (some (.ref f_Writer_strand)))
    (i_Writer_strand : PySem.W.isFn K (.ref f_Writer_strand) = true)
    (l_Writer_strand : K.lookup f_Writer_strand = some ⟨oc_Writer_strand, od_Writer_strand, .func (PySem.W.fnOf "strand" "Writer.strand" (defArgs st_Writer_strand) (defBody st_Writer_strand) (defScope st_Writer_strand) .none kV_Writer_strand dc_Writer_strand pm_Writer_strand an_Writer_strand cd_Writer_strand ct_Writer_strand), sl_Writer_strand⟩)
    (cc_Writer_strand : PySem.W.codeIn K cd_Writer_strand "Writer.strand" = true)
    (k_Writer_strand : PySem.W.keepIn K (.ref f_Writer_strand) = true)
    (a_are_letters : PySem.W.nsIn K mainGlobals "are_letters" = some (some (.ref f_are_letters)))
    (l_are_letters : K.lookup f_are_letters = some ⟨oc_are_letters, od_are_letters, .func (PySem.W.fnOf "are_letters" "are_letters" (defArgs st_are_letters) (defBody st_are_letters) (defScope st_are_letters) .none kV_are_letters dc_are_letters pm_are_letters an_are_letters cd_are_letters ct_are_letters), sl_are_letters⟩)
    (cc_are_letters : PySem.W.codeIn K cd_are_letters "are_letters" = true)
    (k_are_letters : PySem.W.keepIn K (.ref f_are_letters) = true)
    (a_may_be_mended : PySem.W.nsIn K mainGlobals "may_be_mended" = some (some (.ref f_may_be_mended)))
    (l_may_be_mended : K.lookup f_may_be_mended = some ⟨oc_may_be_mended, od_may_be_mended, .func (PySem.W.fnOf "may_be_mended" "may_be_mended" (defArgs st_may_be_mended) (defBody st_may_be_mended) (defScope st_may_be_mended) .none kV_may_be_mended dc_may_be_mended pm_may_be_mended an_may_be_mended cd_may_be_mended ct_may_be_mended), sl_may_be_mended⟩)
    (cc_may_be_mended : PySem.W.codeIn K cd_may_be_mended "may_be_mended" = true)
    (k_may_be_mended : PySem.W.keepIn K (.ref f_may_be_mended) = true)
    (a_upper_row_of : PySem.W.nsIn K mainGlobals "upper_row_of" = some (some (.ref f_upper_row_of)))
    (l_upper_row_of : K.lookup f_upper_row_of = some ⟨oc_upper_row_of, od_upper_row_of, .func (PySem.W.fnOf "upper_row_of" "upper_row_of" (defArgs st_upper_row_of) (defBody st_upper_row_of) (defScope st_upper_row_of) .none kV_upper_row_of dc_upper_row_of pm_upper_row_of an_upper_row_of cd_upper_row_of ct_upper_row_of), sl_upper_row_of⟩)
    (cc_upper_row_of : PySem.W.codeIn K cd_upper_row_of "upper_row_of" = true)
    (k_upper_row_of : PySem.W.keepIn K (.ref f_upper_row_of) = true)
    (a_lower_row_of : PySem.W.nsIn K mainGlobals "lower_row_of" = some (some (.ref f_lower_row_of)))
    (l_lower_row_of : K.lookup f_lower_row_of = some ⟨oc_lower_row_of, od_lower_row_of, .func (PySem.W.fnOf "lower_row_of" "lower_row_of" (defArgs st_lower_row_of) (defBody st_lower_row_of) (defScope st_lower_row_of) .none kV_lower_row_of dc_lower_row_of pm_lower_row_of an_lower_row_of cd_lower_row_of ct_lower_row_of), sl_lower_row_of⟩)
    (cc_lower_row_of : PySem.W.codeIn K cd_lower_row_of "lower_row_of" = true)
    (k_lower_row_of : PySem.W.keepIn K (.ref f_lower_row_of) = true)
    (a_tries_at : PySem.W.nsIn K mainGlobals "tries_at" = some (some (.ref f_tries_at)))
    (l_tries_at : K.lookup f_tries_at = some ⟨oc_tries_at, od_tries_at, .func (PySem.W.fnOf "tries_at" "tries_at" (defArgs st_tries_at) (defBody st_tries_at) (defScope st_tries_at) .none kV_tries_at dc_tries_at pm_tries_at an_tries_at cd_tries_at ct_tries_at), sl_tries_at⟩)
    (cc_tries_at : PySem.W.codeIn K cd_tries_at "tries_at" = true)
    (k_tries_at : PySem.W.keepIn K (.ref f_tries_at) = true)
    (a_right_row_at : PySem.W.nsIn K mainGlobals "right_row_at" = some (some (.ref f_right_row_at)))
    (l_right_row_at : K.lookup f_right_row_at = some ⟨oc_right_row_at, od_right_row_at, .func (PySem.W.fnOf "right_row_at" "right_row_at" (defArgs st_right_row_at) (defBody st_right_row_at) (defScope st_right_row_at) .none kV_right_row_at dc_right_row_at pm_right_row_at an_right_row_at cd_right_row_at ct_right_row_at), sl_right_row_at⟩)
    (cc_right_row_at : PySem.W.codeIn K cd_right_row_at "right_row_at" = true)
    (k_right_row_at : PySem.W.keepIn K (.ref f_right_row_at) = true)
    (a_carried_bits : PySem.W.nsIn K mainGlobals "carried_bits" = some (some (.ref f_carried_bits)))
    (l_carried_bits : K.lookup f_carried_bits = some ⟨oc_carried_bits, od_carried_bits, .func (PySem.W.fnOf "carried_bits" "carried_bits" (defArgs st_carried_bits) (defBody st_carried_bits) (defScope st_carried_bits) .none kV_carried_bits dc_carried_bits pm_carried_bits an_carried_bits cd_carried_bits ct_carried_bits), sl_carried_bits⟩)
    (cc_carried_bits : PySem.W.codeIn K cd_carried_bits "carried_bits" = true)
    (k_carried_bits : PySem.W.keepIn K (.ref f_carried_bits) = true)
    (a_bytes_of : PySem.W.nsIn K mainGlobals "bytes_of" = some (some (.ref f_bytes_of)))
    (l_bytes_of : K.lookup f_bytes_of = some ⟨oc_bytes_of, od_bytes_of, .func (PySem.W.fnOf "bytes_of" "bytes_of" (defArgs st_bytes_of) (defBody st_bytes_of) (defScope st_bytes_of) .none kV_bytes_of dc_bytes_of pm_bytes_of an_bytes_of cd_bytes_of ct_bytes_of), sl_bytes_of⟩)
    (cc_bytes_of : PySem.W.codeIn K cd_bytes_of "bytes_of" = true)
    (k_bytes_of : PySem.W.keepIn K (.ref f_bytes_of) = true)
    (a_strand_content : PySem.W.nsIn K mainGlobals "strand_content" = some (some (.ref f_strand_content)))
    (l_strand_content : K.lookup f_strand_content = some ⟨oc_strand_content, od_strand_content, .func (PySem.W.fnOf "strand_content" "strand_content" (defArgs st_strand_content) (defBody st_strand_content) (defScope st_strand_content) .none kV_strand_content dc_strand_content pm_strand_content an_strand_content cd_strand_content ct_strand_content), sl_strand_content⟩)
    (cc_strand_content : PySem.W.codeIn K cd_strand_content "strand_content" = true)
    (k_strand_content : PySem.W.keepIn K (.ref f_strand_content) = true)
    (a_mended_content : PySem.W.nsIn K mainGlobals "mended_content" = some (some (.ref f_mended_content)))
    (l_mended_content : K.lookup f_mended_content = some ⟨oc_mended_content, od_mended_content, .func (PySem.W.fnOf "mended_content" "mended_content" (defArgs st_mended_content) (defBody st_mended_content) (defScope st_mended_content) .none kV_mended_content dc_mended_content pm_mended_content an_mended_content cd_mended_content ct_mended_content), sl_mended_content⟩)
    (cc_mended_content : PySem.W.codeIn K cd_mended_content "mended_content" = true)
    (k_mended_content : PySem.W.keepIn K (.ref f_mended_content) = true)
    (a_number_in : PySem.W.nsIn K mainGlobals "number_in" = some (some (.ref f_number_in)))
    (l_number_in : K.lookup f_number_in = some ⟨oc_number_in, od_number_in, .func (PySem.W.fnOf "number_in" "number_in" (defArgs st_number_in) (defBody st_number_in) (defScope st_number_in) .none kV_number_in dc_number_in pm_number_in an_number_in cd_number_in ct_number_in), sl_number_in⟩)
    (cc_number_in : PySem.W.codeIn K cd_number_in "number_in" = true)
    (k_number_in : PySem.W.keepIn K (.ref f_number_in) = true)
    (a_load_in : PySem.W.nsIn K mainGlobals "load_in" = some (some (.ref f_load_in)))
    (l_load_in : K.lookup f_load_in = some ⟨oc_load_in, od_load_in, .func (PySem.W.fnOf "load_in" "load_in" (defArgs st_load_in) (defBody st_load_in) (defScope st_load_in) .none kV_load_in dc_load_in pm_load_in an_load_in cd_load_in ct_load_in), sl_load_in⟩)
    (cc_load_in : PySem.W.codeIn K cd_load_in "load_in" = true)
    (k_load_in : PySem.W.keepIn K (.ref f_load_in) = true)
    (a_ReadGroup_load_read_at : PySem.W.findIn K (.ref C_ReadGroup) "load_read_at" = some (some (.ref f_ReadGroup_load_read_at)))
    (i_ReadGroup_load_read_at : PySem.W.isFn K (.ref f_ReadGroup_load_read_at) = true)
    (l_ReadGroup_load_read_at : K.lookup f_ReadGroup_load_read_at = some ⟨oc_ReadGroup_load_read_at, od_ReadGroup_load_read_at, .func (PySem.W.fnOf "load_read_at" "ReadGroup.load_read_at" (defArgs st_ReadGroup_load_read_at) (defBody st_ReadGroup_load_read_at) (defScope st_ReadGroup_load_read_at) .none kV_ReadGroup_load_read_at dc_ReadGroup_load_read_at pm_ReadGroup_load_read_at an_ReadGroup_load_read_at cd_ReadGroup_load_read_at ct_ReadGroup_load_read_at), sl_ReadGroup_load_read_at⟩)
    (cc_ReadGroup_load_read_at : PySem.W.codeIn K cd_ReadGroup_load_read_at "ReadGroup.load_read_at" = true)
    (k_ReadGroup_load_read_at : PySem.W.keepIn K (.ref f_ReadGroup_load_read_at) = true)
    (a_ReadGroup_keep_load : PySem.W.findIn K (.ref C_ReadGroup) "keep_load" = some (some (.ref f_ReadGroup_keep_load)))
    (i_ReadGroup_keep_load : PySem.W.isFn K (.ref f_ReadGroup_keep_load) = true)
    (l_ReadGroup_keep_load : K.lookup f_ReadGroup_keep_load = some ⟨oc_ReadGroup_keep_load, od_ReadGroup_keep_load, .func (PySem.W.fnOf "keep_load" "ReadGroup.keep_load" (defArgs st_ReadGroup_keep_load) (defBody st_ReadGroup_keep_load) (defScope st_ReadGroup_keep_load) .none kV_ReadGroup_keep_load dc_ReadGroup_keep_load pm_ReadGroup_keep_load an_ReadGroup_keep_load cd_ReadGroup_keep_load ct_ReadGroup_keep_load), sl_ReadGroup_keep_load⟩)
    (cc_ReadGroup_keep_load : PySem.W.codeIn K cd_ReadGroup_keep_load "ReadGroup.keep_load" = true)
    (k_ReadGroup_keep_load : PySem.W.keepIn K (.ref f_ReadGroup_keep_load) = true)
    (a_Reader_keep_strand : PySem.W.findIn K (.ref C_Reader) "keep_strand" = some (some (.ref f_Reader_keep_strand)))
    (i_Reader_keep_strand : PySem.W.isFn K (.ref f_Reader_keep_strand) = true)
    (l_Reader_keep_strand : K.lookup f_Reader_keep_strand = some ⟨oc_Reader_keep_strand, od_Reader_keep_strand, .func (PySem.W.fnOf "keep_strand" "Reader.keep_strand" (defArgs st_Reader_keep_strand) (defBody st_Reader_keep_strand) (defScope st_Reader_keep_strand) .none kV_Reader_keep_strand dc_Reader_keep_strand pm_Reader_keep_strand an_Reader_keep_strand cd_Reader_keep_strand ct_Reader_keep_strand), sl_Reader_keep_strand⟩)
    (cc_Reader_keep_strand : PySem.W.codeIn K cd_Reader_keep_strand "Reader.keep_strand" = true)
    (k_Reader_keep_strand : PySem.W.keepIn K (.ref f_Reader_keep_strand) = true)
    (a_Reader_read : PySem.W.findIn K (.ref C_Reader) "read" = some (some (.ref f_Reader_read)))
    (i_Reader_read : PySem.W.isFn K (.ref f_Reader_read) = true)
    (l_Reader_read : K.lookup f_Reader_read = some ⟨oc_Reader_read, od_Reader_read, .func (PySem.W.fnOf "read" "Reader.read" (defArgs st_Reader_read) (defBody st_Reader_read) (defScope st_Reader_read) .none kV_Reader_read dc_Reader_read pm_Reader_read an_Reader_read cd_Reader_read ct_Reader_read), sl_Reader_read⟩)
    (cc_Reader_read : PySem.W.codeIn K cd_Reader_read "Reader.read" = true)
    (k_Reader_read : PySem.W.keepIn K (.ref f_Reader_read) = true)
    (a_ReadGroup_lacking_count : PySem.W.findIn K (.ref C_ReadGroup) "lacking_count" = some (some (.ref f_ReadGroup_lacking_count)))
    (i_ReadGroup_lacking_count : PySem.W.isFn K (.ref f_ReadGroup_lacking_count) = true)
    (l_ReadGroup_lacking_count : K.lookup f_ReadGroup_lacking_count = some ⟨oc_ReadGroup_lacking_count, od_ReadGroup_lacking_count, .func (PySem.W.fnOf "lacking_count" "ReadGroup.lacking_count" (defArgs st_ReadGroup_lacking_count) (defBody st_ReadGroup_lacking_count) (defScope st_ReadGroup_lacking_count) .none kV_ReadGroup_lacking_count dc_ReadGroup_lacking_count pm_ReadGroup_lacking_count an_ReadGroup_lacking_count cd_ReadGroup_lacking_count ct_ReadGroup_lacking_count), sl_ReadGroup_lacking_count⟩)
    (cc_ReadGroup_lacking_count : PySem.W.codeIn K cd_ReadGroup_lacking_count "ReadGroup.lacking_count" = true)
    (k_ReadGroup_lacking_count : PySem.W.keepIn K (.ref f_ReadGroup_lacking_count) = true)
    (a_Reader_lacking_count : PySem.W.findIn K (.ref C_Reader) "lacking_count" = some (some (.ref f_Reader_lacking_count)))
    (i_Reader_lacking_count : PySem.W.isFn K (.ref f_Reader_lacking_count) = true)
    (l_Reader_lacking_count : K.lookup f_Reader_lacking_count = some ⟨oc_Reader_lacking_count, od_Reader_lacking_count, .func (PySem.W.fnOf "lacking_count" "Reader.lacking_count" (defArgs st_Reader_lacking_count) (defBody st_Reader_lacking_count) (defScope st_Reader_lacking_count) .none kV_Reader_lacking_count dc_Reader_lacking_count pm_Reader_lacking_count an_Reader_lacking_count cd_Reader_lacking_count ct_Reader_lacking_count), sl_Reader_lacking_count⟩)
    (cc_Reader_lacking_count : PySem.W.codeIn K cd_Reader_lacking_count "Reader.lacking_count" = true)
    (k_Reader_lacking_count : PySem.W.keepIn K (.ref f_Reader_lacking_count) = true)
    (a_Reader_lacks : PySem.W.findIn K (.ref C_Reader) "lacks" = some (some (.ref f_Reader_lacks)))
    (i_Reader_lacks : PySem.W.isFn K (.ref f_Reader_lacks) = true)
    (l_Reader_lacks : K.lookup f_Reader_lacks = some ⟨oc_Reader_lacks, od_Reader_lacks, .func (PySem.W.fnOf "lacks" "Reader.lacks" (defArgs st_Reader_lacks) (defBody st_Reader_lacks) (defScope st_Reader_lacks) .none kV_Reader_lacks dc_Reader_lacks pm_Reader_lacks an_Reader_lacks cd_Reader_lacks ct_Reader_lacks), sl_Reader_lacks⟩)
    (cc_Reader_lacks : PySem.W.codeIn K cd_Reader_lacks "Reader.lacks" = true)
    (k_Reader_lacks : PySem.W.keepIn K (.ref f_Reader_lacks) = true)
    (a_ReadGroup_worked_out_loads : PySem.W.findIn K (.ref C_ReadGroup) "worked_out_loads" = some (some (.ref f_ReadGroup_worked_out_loads)))
    (i_ReadGroup_worked_out_loads : PySem.W.isFn K (.ref f_ReadGroup_worked_out_loads) = true)
    (l_ReadGroup_worked_out_loads : K.lookup f_ReadGroup_worked_out_loads = some ⟨oc_ReadGroup_worked_out_loads, od_ReadGroup_worked_out_loads, .func (PySem.W.fnOf "worked_out_loads" "ReadGroup.worked_out_loads" (defArgs st_ReadGroup_worked_out_loads) (defBody st_ReadGroup_worked_out_loads) (defScope st_ReadGroup_worked_out_loads) .none kV_ReadGroup_worked_out_loads dc_ReadGroup_worked_out_loads pm_ReadGroup_worked_out_loads an_ReadGroup_worked_out_loads cd_ReadGroup_worked_out_loads ct_ReadGroup_worked_out_loads), sl_ReadGroup_worked_out_loads⟩)
    (cc_ReadGroup_worked_out_loads : PySem.W.codeIn K cd_ReadGroup_worked_out_loads "ReadGroup.worked_out_loads" = true)
    (k_ReadGroup_worked_out_loads : PySem.W.keepIn K (.ref f_ReadGroup_worked_out_loads) = true)
    (a_ReadGroup_filled_load : PySem.W.findIn K (.ref C_ReadGroup) "filled_load" = some (some (.ref f_ReadGroup_filled_load)))
    (i_ReadGroup_filled_load : PySem.W.isFn K (.ref f_ReadGroup_filled_load) = true)
    (l_ReadGroup_filled_load : K.lookup f_ReadGroup_filled_load = some ⟨oc_ReadGroup_filled_load, od_ReadGroup_filled_load, .func (PySem.W.fnOf "filled_load" "ReadGroup.filled_load" (defArgs st_ReadGroup_filled_load) (defBody st_ReadGroup_filled_load) (defScope st_ReadGroup_filled_load) .none kV_ReadGroup_filled_load dc_ReadGroup_filled_load pm_ReadGroup_filled_load an_ReadGroup_filled_load cd_ReadGroup_filled_load ct_ReadGroup_filled_load), sl_ReadGroup_filled_load⟩)
    (cc_ReadGroup_filled_load : PySem.W.codeIn K cd_ReadGroup_filled_load "ReadGroup.filled_load" = true)
    (k_ReadGroup_filled_load : PySem.W.keepIn K (.ref f_ReadGroup_filled_load) = true)
    (a_Reader_file_bytes : PySem.W.findIn K (.ref C_Reader) "file_bytes" = some (some (.ref f_Reader_file_bytes)))
    (i_Reader_file_bytes : PySem.W.isFn K (.ref f_Reader_file_bytes) = true)
    (l_Reader_file_bytes : K.lookup f_Reader_file_bytes = some ⟨oc_Reader_file_bytes, od_Reader_file_bytes, .func (PySem.W.fnOf "file_bytes" "Reader.file_bytes" (defArgs st_Reader_file_bytes) (defBody st_Reader_file_bytes) (defScope st_Reader_file_bytes) .none kV_Reader_file_bytes dc_Reader_file_bytes pm_Reader_file_bytes an_Reader_file_bytes cd_Reader_file_bytes ct_Reader_file_bytes), sl_Reader_file_bytes⟩)
    (cc_Reader_file_bytes : PySem.W.codeIn K cd_Reader_file_bytes "Reader.file_bytes" = true)
    (k_Reader_file_bytes : PySem.W.keepIn K (.ref f_Reader_file_bytes) = true)
    (a_Reader_block : PySem.W.findIn K (.ref C_Reader) "block" = some (some (.ref f_Reader_block)))
    (i_Reader_block : PySem.W.isFn K (.ref f_Reader_block) = true)
    (l_Reader_block : K.lookup f_Reader_block = some ⟨oc_Reader_block, od_Reader_block, .func (PySem.W.fnOf "block" "Reader.block" (defArgs st_Reader_block) (defBody st_Reader_block) (defScope st_Reader_block) .none kV_Reader_block dc_Reader_block pm_Reader_block an_Reader_block cd_Reader_block ct_Reader_block), sl_Reader_block⟩)
    (cc_Reader_block : PySem.W.codeIn K cd_Reader_block "Reader.block" = true)
    (k_Reader_block : PySem.W.keepIn K (.ref f_Reader_block) = true)
    (a_answer_next : PySem.W.nsIn K mainGlobals "answer_next" = some (some (.ref f_answer_next)))
    (l_answer_next : K.lookup f_answer_next = some ⟨oc_answer_next, od_answer_next, .func (PySem.W.fnOf "answer_next" "answer_next" (defArgs st_answer_next) (defBody st_answer_next) (defScope st_answer_next) .none kV_answer_next dc_answer_next pm_answer_next an_answer_next cd_answer_next ct_answer_next), sl_answer_next⟩)
    (cc_answer_next : PySem.W.codeIn K cd_answer_next "answer_next" = true)
    (k_answer_next : PySem.W.keepIn K (.ref f_answer_next) = true)
    (a_answers : PySem.W.nsIn K mainGlobals "answers" = some (some (.ref f_answers)))
    (l_answers : K.lookup f_answers = some ⟨oc_answers, od_answers, .func (PySem.W.fnOf "answers" "answers" (defArgs st_answers) (defBody st_answers) (defScope st_answers) .none kV_answers dc_answers pm_answers an_answers cd_answers ct_answers), sl_answers⟩)
    (cc_answers : PySem.W.codeIn K cd_answers "answers" = true)
    (k_answers : PySem.W.keepIn K (.ref f_answers) = true)
    : ∃ fd : FuncData, (∀ (s : Shared) (us : List Value), us.length = (["calls"] : List Str).length → BindsTo s fd ⟨us, []⟩ ((["calls"] : List Str).zip us)) ∧ ∀ base : Heap, K.In base → base.Ns mainGlobals mg → FnOk P w K mg base CX0 9 fa fd ["calls"] (sp_answers K) := by
  have e := hfa.symm.trans (PySem.W.mg_of X G a_answers)
  cases e
  have T_LETTERS : TupC K mg "LETTERS" [65, 67, 71, 84] ∧ _ := tupC_of X G ca_LETTERS cl_LETTERS (.cons ⟨_, rfl⟩ (.cons ⟨_, rfl⟩ (.cons ⟨_, rfl⟩ (.cons ⟨_, rfl⟩ (.nil))))) (by show 4 ≤ sizeLine; decide)
  have T_WEIGHT_PLACES : TupC K mg "WEIGHT_PLACES" [1, 2, 4, 8, 16, 32, 64] ∧ _ := tupC_of X G ca_WEIGHT_PLACES cl_WEIGHT_PLACES (.cons ⟨_, rfl⟩ (.cons ⟨_, rfl⟩ (.cons ⟨_, rfl⟩ (.cons ⟨_, rfl⟩ (.cons ⟨_, rfl⟩ (.cons ⟨_, rfl⟩ (.cons ⟨_, rfl⟩ (.nil)))))))) (by show 7 ≤ sizeLine; decide)
  have T : Txt K mg ⟨C_CallNumbers, C_Field, C_Size, C_Polynomial, C_ReadGroup, C_Reader, C_Writer⟩ :=
    { cl_CallNumbers := ⟨pg_CallNumbers, hd_CallNumbers, po_CallNumbers, sa_CallNumbers⟩
      na_CallNumbers_numbers := na_CallNumbers_numbers
      na_CallNumbers_taken := na_CallNumbers_taken
      cl_Field := ⟨pg_Field, hd_Field, po_Field, sa_Field⟩
      na_Field_powers := na_Field_powers
      na_Field_logs := na_Field_logs
      cl_Size := ⟨pg_Size, hd_Size, po_Size, sa_Size⟩
      na_Size_k := na_Size_k
      na_Size_m := na_Size_m
      na_Size_n := na_Size_n
      cl_Polynomial := ⟨pg_Polynomial, hd_Polynomial, po_Polynomial, sa_Polynomial⟩
      na_Polynomial_field := na_Polynomial_field
      na_Polynomial_places := na_Polynomial_places
      na_Polynomial_divisor_logs := na_Polynomial_divisor_logs
      cl_ReadGroup := ⟨pg_ReadGroup, hd_ReadGroup, po_ReadGroup, sa_ReadGroup⟩
      na_ReadGroup_field := na_ReadGroup_field
      na_ReadGroup_k := na_ReadGroup_k
      na_ReadGroup_loads := na_ReadGroup_loads
      na_ReadGroup_filled_loads := na_ReadGroup_filled_loads
      cl_Reader := ⟨pg_Reader, hd_Reader, po_Reader, sa_Reader⟩
      na_Reader_field := na_Reader_field
      na_Reader_size := na_Reader_size
      na_Reader_groups := na_Reader_groups
      cl_Writer := ⟨pg_Writer, hd_Writer, po_Writer, sa_Writer⟩
      na_Writer_field := na_Writer_field
      na_Writer_size := na_Writer_size
      na_Writer_polynomial := na_Writer_polynomial
      na_Writer_data := na_Writer_data
      b_len := PySem.W.mg_none_of X G b_len
      b_range := PySem.W.mg_none_of X G b_range
      b_sum := PySem.W.mg_none_of X G b_sum
      b_zip := PySem.W.mg_none_of X G b_zip
      b_max := PySem.W.mg_none_of X G b_max
      b_sorted := PySem.W.mg_none_of X G b_sorted
      b_enumerate := PySem.W.mg_none_of X G b_enumerate
      b_all := PySem.W.mg_none_of X G b_all
      b_min := PySem.W.mg_none_of X G b_min
      b_list := PySem.W.mg_none_of X G b_list
      c_NUMBERS := ⟨_, PySem.W.mg_of X G c_NUMBERS⟩
      c_NONZERO := ⟨_, PySem.W.mg_of X G c_NONZERO⟩
      c_MODULUS := ⟨_, PySem.W.mg_of X G c_MODULUS⟩
      c_LOAD_LENGTH := ⟨_, PySem.W.mg_of X G c_LOAD_LENGTH⟩
      c_MOST_FILLED := ⟨_, PySem.W.mg_of X G c_MOST_FILLED⟩
      c_MOST_SPARE := ⟨_, PySem.W.mg_of X G c_MOST_SPARE⟩
      c_MOST_BYTES := ⟨_, PySem.W.mg_of X G c_MOST_BYTES⟩
      c_MOST_STRANDS := ⟨_, PySem.W.mg_of X G c_MOST_STRANDS⟩
      c_WRONG_SIZE := ⟨_, PySem.W.mg_of X G c_WRONG_SIZE⟩
      t_LETTERS := T_LETTERS.1
      u_LETTERS := T_LETTERS.2
      c_STRAND_LENGTH := ⟨_, PySem.W.mg_of X G c_STRAND_LENGTH⟩
      c_WEIGHT_MODULUS := ⟨_, PySem.W.mg_of X G c_WEIGHT_MODULUS⟩
      t_WEIGHT_PLACES := T_WEIGHT_PLACES.1
      u_WEIGHT_PLACES := T_WEIGHT_PLACES.2
      c_ROW_BITS := ⟨_, PySem.W.mg_of X G c_ROW_BITS⟩
      c_SHORTEST := ⟨_, PySem.W.mg_of X G c_SHORTEST⟩
      c_LONGEST := ⟨_, PySem.W.mg_of X G c_LONGEST⟩
      c_BLOCK_LENGTH := ⟨_, PySem.W.mg_of X G c_BLOCK_LENGTH⟩
      c_WRONG_LETTERS := ⟨_, PySem.W.mg_of X G c_WRONG_LETTERS⟩
      c_NOT_MENDED := ⟨_, PySem.W.mg_of X G c_NOT_MENDED⟩
      c_ANOTHER_LOAD := ⟨_, PySem.W.mg_of X G c_ANOTHER_LOAD⟩
      c_READ_BEFORE := ⟨_, PySem.W.mg_of X G c_READ_BEFORE⟩
      c_READ_NOW := ⟨_, PySem.W.mg_of X G c_READ_NOW⟩
      c_NO_BLOCK := ⟨_, PySem.W.mg_of X G c_NO_BLOCK⟩
      c_STRANDS_LACKING := ⟨_, PySem.W.mg_of X G c_STRANDS_LACKING⟩
      c_NO_STRAND := ⟨_, PySem.W.mg_of X G c_NO_STRAND⟩
      c_SK_START := ⟨_, PySem.W.mg_of X G c_SK_START⟩
      c_SK_STRAND := ⟨_, PySem.W.mg_of X G c_SK_STRAND⟩
      c_SR_START := ⟨_, PySem.W.mg_of X G c_SR_START⟩
      c_SR_READ := ⟨_, PySem.W.mg_of X G c_SR_READ⟩
      c_SR_LACKS := ⟨_, PySem.W.mg_of X G c_SR_LACKS⟩
      c_SR_BYTES := ⟨_, PySem.W.mg_of X G c_SR_BYTES⟩ }
  have F_CallNumbers_init := fun_mk (st := st_CallNumbers_init) l_CallNumbers_init cc_CallNumbers_init k_CallNumbers_init
  have B_CallNumbers_init := F_CallNumbers_init.binds (ps := ps_CallNumbers_init) fun _ _ _ _ _ _ us hl => match us, hl with | [_, _], _ => rfl
  have F_times_x_plus_one := fun_mk (st := st_times_x_plus_one) l_times_x_plus_one cc_times_x_plus_one k_times_x_plus_one
  have B_times_x_plus_one := F_times_x_plus_one.binds (ps := ps_times_x_plus_one) fun _ _ _ _ _ _ us hl => match us, hl with | [_], _ => rfl
  have F_Field_init := fun_mk (st := st_Field_init) l_Field_init cc_Field_init k_Field_init
  have B_Field_init := F_Field_init.binds (ps := ps_Field_init) fun _ _ _ _ _ _ us hl => match us, hl with | [_], _ => rfl
  have F_Writer_init := fun_mk (st := st_Writer_init) l_Writer_init cc_Writer_init k_Writer_init
  have B_Writer_init := F_Writer_init.binds (ps := ps_Writer_init) fun _ _ _ _ _ _ us hl => match us, hl with | [_, _], _ => rfl
  have F_Reader_init := fun_mk (st := st_Reader_init) l_Reader_init cc_Reader_init k_Reader_init
  have B_Reader_init := F_Reader_init.binds (ps := ps_Reader_init) fun _ _ _ _ _ _ us hl => match us, hl with | [_, _], _ => rfl
  have F_CallNumbers_is_taken := fun_mk (st := st_CallNumbers_is_taken) l_CallNumbers_is_taken cc_CallNumbers_is_taken k_CallNumbers_is_taken
  have B_CallNumbers_is_taken := F_CallNumbers_is_taken.binds (ps := ps_CallNumbers_is_taken) fun _ _ _ _ _ _ us hl => match us, hl with | [_], _ => rfl
  have F_CallNumbers_take_number := fun_mk (st := st_CallNumbers_take_number) l_CallNumbers_take_number cc_CallNumbers_take_number k_CallNumbers_take_number
  have B_CallNumbers_take_number := F_CallNumbers_take_number.binds (ps := ps_CallNumbers_take_number) fun _ _ _ _ _ _ us hl => match us, hl with | [_], _ => rfl
  have F_CallNumbers_take_row := fun_mk (st := st_CallNumbers_take_row) l_CallNumbers_take_row cc_CallNumbers_take_row k_CallNumbers_take_row
  have B_CallNumbers_take_row := F_CallNumbers_take_row.binds (ps := ps_CallNumbers_take_row) fun _ _ _ _ _ _ us hl => match us, hl with | [_], _ => rfl
  have F_Size_init := fun_mk (st := st_Size_init) l_Size_init cc_Size_init k_Size_init
  have B_Size_init := F_Size_init.binds (ps := ps_Size_init) fun _ _ _ _ _ _ us hl => match us, hl with | [_, _, _, _], _ => rfl
  have F_Size_is_in_range := fun_mk (st := st_Size_is_in_range) l_Size_is_in_range cc_Size_is_in_range k_Size_is_in_range
  have B_Size_is_in_range := F_Size_is_in_range.binds (ps := ps_Size_is_in_range) fun _ _ _ _ _ _ us hl => match us, hl with | [_], _ => rfl
  have F_Size_group_count := fun_mk (st := st_Size_group_count) l_Size_group_count cc_Size_group_count k_Size_group_count
  have B_Size_group_count := F_Size_group_count.binds (ps := ps_Size_group_count) fun _ _ _ _ _ _ us hl => match us, hl with | [_], _ => rfl
  have F_Size_group_length := fun_mk (st := st_Size_group_length) l_Size_group_length cc_Size_group_length k_Size_group_length
  have B_Size_group_length := F_Size_group_length.binds (ps := ps_Size_group_length) fun _ _ _ _ _ _ us hl => match us, hl with | [_], _ => rfl
  have F_Size_strand_count := fun_mk (st := st_Size_strand_count) l_Size_strand_count cc_Size_strand_count k_Size_strand_count
  have B_Size_strand_count := F_Size_strand_count.binds (ps := ps_Size_strand_count) fun _ _ _ _ _ _ us hl => match us, hl with | [_], _ => rfl
  have F_Size_is_as_told := fun_mk (st := st_Size_is_as_told) l_Size_is_as_told cc_Size_is_as_told k_Size_is_as_told
  have B_Size_is_as_told := F_Size_is_as_told.binds (ps := ps_Size_is_as_told) fun _ _ _ _ _ _ us hl => match us, hl with | [_], _ => rfl
  have F_Polynomial_distance_log := fun_mk (st := st_Polynomial_distance_log) l_Polynomial_distance_log cc_Polynomial_distance_log k_Polynomial_distance_log
  have B_Polynomial_distance_log := F_Polynomial_distance_log.binds (ps := ps_Polynomial_distance_log) fun _ _ _ _ _ _ us hl => match us, hl with | [_, _], _ => rfl
  have F_Polynomial_init := fun_mk (st := st_Polynomial_init) l_Polynomial_init cc_Polynomial_init k_Polynomial_init
  have B_Polynomial_init := F_Polynomial_init.binds (ps := ps_Polynomial_init) fun _ _ _ _ _ _ us hl => match us, hl with | [_, _, _], _ => rfl
  have F_Writer_begin := fun_mk (st := st_Writer_begin) l_Writer_begin cc_Writer_begin k_Writer_begin
  have B_Writer_begin := F_Writer_begin.binds (ps := ps_Writer_begin) fun _ _ _ _ _ _ us hl => match us, hl with | [_, _, _, _], _ => rfl
  have F_sk_start := fun_mk (st := st_sk_start) l_sk_start cc_sk_start k_sk_start
  have B_sk_start := F_sk_start.binds (ps := ps_sk_start) fun _ _ _ _ _ _ us hl => match us, hl with | [_, _], _ => rfl
  have F_ReadGroup_init := fun_mk (st := st_ReadGroup_init) l_ReadGroup_init cc_ReadGroup_init k_ReadGroup_init
  have B_ReadGroup_init := F_ReadGroup_init.binds (ps := ps_ReadGroup_init) fun _ _ _ _ _ _ us hl => match us, hl with | [_, _, _], _ => rfl
  have F_Reader_begin := fun_mk (st := st_Reader_begin) l_Reader_begin cc_Reader_begin k_Reader_begin
  have B_Reader_begin := F_Reader_begin.binds (ps := ps_Reader_begin) fun _ _ _ _ _ _ us hl => match us, hl with | [_, _, _, _], _ => rfl
  have F_sr_start := fun_mk (st := st_sr_start) l_sr_start cc_sr_start k_sr_start
  have B_sr_start := F_sr_start.binds (ps := ps_sr_start) fun _ _ _ _ _ _ us hl => match us, hl with | [_, _], _ => rfl
  have F_Size_group_of := fun_mk (st := st_Size_group_of) l_Size_group_of cc_Size_group_of k_Size_group_of
  have B_Size_group_of := F_Size_group_of.binds (ps := ps_Size_group_of) fun _ _ _ _ _ _ us hl => match us, hl with | [_, _], _ => rfl
  have F_Size_place_of := fun_mk (st := st_Size_place_of) l_Size_place_of cc_Size_place_of k_Size_place_of
  have B_Size_place_of := F_Size_place_of.binds (ps := ps_Size_place_of) fun _ _ _ _ _ _ us hl => match us, hl with | [_, _], _ => rfl
  have F_Writer_filled_load := fun_mk (st := st_Writer_filled_load) l_Writer_filled_load cc_Writer_filled_load k_Writer_filled_load
  have B_Writer_filled_load := F_Writer_filled_load.binds (ps := ps_Writer_filled_load) fun _ _ _ _ _ _ us hl => match us, hl with | [_, _, _], _ => rfl
  have F_Field_power := fun_mk (st := st_Field_power) l_Field_power cc_Field_power k_Field_power
  have B_Field_power := F_Field_power.binds (ps := ps_Field_power) fun _ _ _ _ _ _ us hl => match us, hl with | [_, _], _ => rfl
  have F_Polynomial_weights_at := fun_mk (st := st_Polynomial_weights_at) l_Polynomial_weights_at cc_Polynomial_weights_at k_Polynomial_weights_at
  have B_Polynomial_weights_at := F_Polynomial_weights_at.binds (ps := ps_Polynomial_weights_at) fun _ _ _ _ _ _ us hl => match us, hl with | [_, _], _ => rfl
  have F_Field_multiply := fun_mk (st := st_Field_multiply) l_Field_multiply cc_Field_multiply k_Field_multiply
  have B_Field_multiply := F_Field_multiply.binds (ps := ps_Field_multiply) fun _ _ _ _ _ _ us hl => match us, hl with | [_, _, _], _ => rfl
  have F_Polynomial_load_at := fun_mk (st := st_Polynomial_load_at) l_Polynomial_load_at cc_Polynomial_load_at k_Polynomial_load_at
  have B_Polynomial_load_at := F_Polynomial_load_at.binds (ps := ps_Polynomial_load_at) fun _ _ _ _ _ _ us hl => match us, hl with | [_, _, _], _ => rfl
  have F_Writer_load_of := fun_mk (st := st_Writer_load_of) l_Writer_load_of cc_Writer_load_of k_Writer_load_of
  have B_Writer_load_of := F_Writer_load_of.binds (ps := ps_Writer_load_of) fun _ _ _ _ _ _ us hl => match us, hl with | [_, _], _ => rfl
  have F_bits_of := fun_mk (st := st_bits_of) l_bits_of cc_bits_of k_bits_of
  have B_bits_of := F_bits_of.binds (ps := ps_bits_of) fun _ _ _ _ _ _ us hl => match us, hl with | [_], _ => rfl
  have F_carrying_row := fun_mk (st := st_carrying_row) l_carrying_row cc_carrying_row k_carrying_row
  have B_carrying_row := F_carrying_row.binds (ps := ps_carrying_row) fun _ _ _ _ _ _ us hl => match us, hl with | [_], _ => rfl
  have F_row_weight := fun_mk (st := st_row_weight) l_row_weight cc_row_weight k_row_weight
  have B_row_weight := F_row_weight.binds (ps := ps_row_weight) fun _ _ _ _ _ _ us hl => match us, hl with | [_], _ => rfl
  have F_right_row := fun_mk (st := st_right_row) l_right_row cc_right_row k_right_row
  have B_right_row := F_right_row.binds (ps := ps_right_row) fun _ _ _ _ _ _ us hl => match us, hl with | [_], _ => rfl
  have F_strand_letters := fun_mk (st := st_strand_letters) l_strand_letters cc_strand_letters k_strand_letters
  have B_strand_letters := F_strand_letters.binds (ps := ps_strand_letters) fun _ _ _ _ _ _ us hl => match us, hl with | [_, _], _ => rfl
  have F_Writer_strand := fun_mk (st := st_Writer_strand) l_Writer_strand cc_Writer_strand k_Writer_strand
  have B_Writer_strand := F_Writer_strand.binds (ps := ps_Writer_strand) fun _ _ _ _ _ _ us hl => match us, hl with | [_, _], _ => rfl
  have F_are_letters := fun_mk (st := st_are_letters) l_are_letters cc_are_letters k_are_letters
  have B_are_letters := F_are_letters.binds (ps := ps_are_letters) fun _ _ _ _ _ _ us hl => match us, hl with | [_], _ => rfl
  have F_may_be_mended := fun_mk (st := st_may_be_mended) l_may_be_mended cc_may_be_mended k_may_be_mended
  have B_may_be_mended := F_may_be_mended.binds (ps := ps_may_be_mended) fun _ _ _ _ _ _ us hl => match us, hl with | [_], _ => rfl
  have F_upper_row_of := fun_mk (st := st_upper_row_of) l_upper_row_of cc_upper_row_of k_upper_row_of
  have B_upper_row_of := F_upper_row_of.binds (ps := ps_upper_row_of) fun _ _ _ _ _ _ us hl => match us, hl with | [_], _ => rfl
  have F_lower_row_of := fun_mk (st := st_lower_row_of) l_lower_row_of cc_lower_row_of k_lower_row_of
  have B_lower_row_of := F_lower_row_of.binds (ps := ps_lower_row_of) fun _ _ _ _ _ _ us hl => match us, hl with | [_], _ => rfl
  have F_tries_at := fun_mk (st := st_tries_at) l_tries_at cc_tries_at k_tries_at
  have B_tries_at := F_tries_at.binds (ps := ps_tries_at) fun _ _ _ _ _ _ us hl => match us, hl with | [_, _], _ => rfl
  have F_right_row_at := fun_mk (st := st_right_row_at) l_right_row_at cc_right_row_at k_right_row_at
  have B_right_row_at := F_right_row_at.binds (ps := ps_right_row_at) fun _ _ _ _ _ _ us hl => match us, hl with | [_, _], _ => rfl
  have F_carried_bits := fun_mk (st := st_carried_bits) l_carried_bits cc_carried_bits k_carried_bits
  have B_carried_bits := F_carried_bits.binds (ps := ps_carried_bits) fun _ _ _ _ _ _ us hl => match us, hl with | [_], _ => rfl
  have F_bytes_of := fun_mk (st := st_bytes_of) l_bytes_of cc_bytes_of k_bytes_of
  have B_bytes_of := F_bytes_of.binds (ps := ps_bytes_of) fun _ _ _ _ _ _ us hl => match us, hl with | [_], _ => rfl
  have F_strand_content := fun_mk (st := st_strand_content) l_strand_content cc_strand_content k_strand_content
  have B_strand_content := F_strand_content.binds (ps := ps_strand_content) fun _ _ _ _ _ _ us hl => match us, hl with | [_, _], _ => rfl
  have F_mended_content := fun_mk (st := st_mended_content) l_mended_content cc_mended_content k_mended_content
  have B_mended_content := F_mended_content.binds (ps := ps_mended_content) fun _ _ _ _ _ _ us hl => match us, hl with | [_], _ => rfl
  have F_number_in := fun_mk (st := st_number_in) l_number_in cc_number_in k_number_in
  have B_number_in := F_number_in.binds (ps := ps_number_in) fun _ _ _ _ _ _ us hl => match us, hl with | [_], _ => rfl
  have F_load_in := fun_mk (st := st_load_in) l_load_in cc_load_in k_load_in
  have B_load_in := F_load_in.binds (ps := ps_load_in) fun _ _ _ _ _ _ us hl => match us, hl with | [_], _ => rfl
  have F_ReadGroup_load_read_at := fun_mk (st := st_ReadGroup_load_read_at) l_ReadGroup_load_read_at cc_ReadGroup_load_read_at k_ReadGroup_load_read_at
  have B_ReadGroup_load_read_at := F_ReadGroup_load_read_at.binds (ps := ps_ReadGroup_load_read_at) fun _ _ _ _ _ _ us hl => match us, hl with | [_, _], _ => rfl
  have F_ReadGroup_keep_load := fun_mk (st := st_ReadGroup_keep_load) l_ReadGroup_keep_load cc_ReadGroup_keep_load k_ReadGroup_keep_load
  have B_ReadGroup_keep_load := F_ReadGroup_keep_load.binds (ps := ps_ReadGroup_keep_load) fun _ _ _ _ _ _ us hl => match us, hl with | [_, _, _], _ => rfl
  have F_Reader_keep_strand := fun_mk (st := st_Reader_keep_strand) l_Reader_keep_strand cc_Reader_keep_strand k_Reader_keep_strand
  have B_Reader_keep_strand := F_Reader_keep_strand.binds (ps := ps_Reader_keep_strand) fun _ _ _ _ _ _ us hl => match us, hl with | [_, _, _], _ => rfl
  have F_Reader_read := fun_mk (st := st_Reader_read) l_Reader_read cc_Reader_read k_Reader_read
  have B_Reader_read := F_Reader_read.binds (ps := ps_Reader_read) fun _ _ _ _ _ _ us hl => match us, hl with | [_, _], _ => rfl
  have F_ReadGroup_lacking_count := fun_mk (st := st_ReadGroup_lacking_count) l_ReadGroup_lacking_count cc_ReadGroup_lacking_count k_ReadGroup_lacking_count
  have B_ReadGroup_lacking_count := F_ReadGroup_lacking_count.binds (ps := ps_ReadGroup_lacking_count) fun _ _ _ _ _ _ us hl => match us, hl with | [_], _ => rfl
  have F_Reader_lacking_count := fun_mk (st := st_Reader_lacking_count) l_Reader_lacking_count cc_Reader_lacking_count k_Reader_lacking_count
  have B_Reader_lacking_count := F_Reader_lacking_count.binds (ps := ps_Reader_lacking_count) fun _ _ _ _ _ _ us hl => match us, hl with | [_], _ => rfl
  have F_Reader_lacks := fun_mk (st := st_Reader_lacks) l_Reader_lacks cc_Reader_lacks k_Reader_lacks
  have B_Reader_lacks := F_Reader_lacks.binds (ps := ps_Reader_lacks) fun _ _ _ _ _ _ us hl => match us, hl with | [_], _ => rfl
  have F_ReadGroup_worked_out_loads := fun_mk (st := st_ReadGroup_worked_out_loads) l_ReadGroup_worked_out_loads cc_ReadGroup_worked_out_loads k_ReadGroup_worked_out_loads
  have B_ReadGroup_worked_out_loads := F_ReadGroup_worked_out_loads.binds (ps := ps_ReadGroup_worked_out_loads) fun _ _ _ _ _ _ us hl => match us, hl with | [_], _ => rfl
  have F_ReadGroup_filled_load := fun_mk (st := st_ReadGroup_filled_load) l_ReadGroup_filled_load cc_ReadGroup_filled_load k_ReadGroup_filled_load
  have B_ReadGroup_filled_load := F_ReadGroup_filled_load.binds (ps := ps_ReadGroup_filled_load) fun _ _ _ _ _ _ us hl => match us, hl with | [_, _], _ => rfl
  have F_Reader_file_bytes := fun_mk (st := st_Reader_file_bytes) l_Reader_file_bytes cc_Reader_file_bytes k_Reader_file_bytes
  have B_Reader_file_bytes := F_Reader_file_bytes.binds (ps := ps_Reader_file_bytes) fun _ _ _ _ _ _ us hl => match us, hl with | [_, _, _], _ => rfl
  have F_Reader_block := fun_mk (st := st_Reader_block) l_Reader_block cc_Reader_block k_Reader_block
  have B_Reader_block := F_Reader_block.binds (ps := ps_Reader_block) fun _ _ _ _ _ _ us hl => match us, hl with | [_, _], _ => rfl
  have F_answer_next := fun_mk (st := st_answer_next) l_answer_next cc_answer_next k_answer_next
  have B_answer_next := F_answer_next.binds (ps := ps_answer_next) fun _ _ _ _ _ _ us hl => match us, hl with | [_, _, _], _ => rfl
  have F_answers := fun_mk (st := st_answers) l_answers cc_answers k_answers
  have B_answers := F_answers.binds (ps := ps_answers) fun _ _ _ _ _ _ us hl => match us, hl with | [_], _ => rfl
  refine ⟨PySem.W.fnOf "answers" "answers" (defArgs st_answers) (defBody st_answers) (defScope st_answers) .none kV_answers dc_answers pm_answers an_answers cd_answers ct_answers, fun s us hu => match us, hu with | [_], _ => .of_eq rfl, fun base _ _ => ?_⟩
  have O_CallNumbers_init := ok_CallNumbers_init (P := P) (w := w) (base := base) F_CallNumbers_init T 
  have K_CallNumbers : Mak P w K mg base C_CallNumbers "CallNumbers" _ _ _ := ⟨⟨_, _, O_CallNumbers_init, ⟨mk_CallNumbers, a_CallNumbers_init, i_CallNumbers_init, kc_CallNumbers⟩, B_CallNumbers_init⟩, PySem.W.mg_of X G aC_CallNumbers⟩
  have O_times_x_plus_one := ok_times_x_plus_one (P := P) (w := w) (base := base) F_times_x_plus_one T 
  have G_times_x_plus_one : Glb P w K mg base "times_x_plus_one" _ _ _ := ⟨⟨_, _, O_times_x_plus_one, PySem.W.mg_of X G a_times_x_plus_one, k_times_x_plus_one, B_times_x_plus_one⟩⟩
  have O_Field_init := ok_Field_init (P := P) (w := w) (base := base) F_Field_init T G_times_x_plus_one
  have K_Field : Mak P w K mg base C_Field "Field" _ _ _ := ⟨⟨_, _, O_Field_init, ⟨mk_Field, a_Field_init, i_Field_init, kc_Field⟩, B_Field_init⟩, PySem.W.mg_of X G aC_Field⟩
  have O_Writer_init := ok_Writer_init (P := P) (w := w) (base := base) F_Writer_init T 
  have K_Writer : Mak P w K mg base C_Writer "Writer" _ _ _ := ⟨⟨_, _, O_Writer_init, ⟨mk_Writer, a_Writer_init, i_Writer_init, kc_Writer⟩, B_Writer_init⟩, PySem.W.mg_of X G aC_Writer⟩
  have O_Reader_init := ok_Reader_init (P := P) (w := w) (base := base) F_Reader_init T 
  have K_Reader : Mak P w K mg base C_Reader "Reader" _ _ _ := ⟨⟨_, _, O_Reader_init, ⟨mk_Reader, a_Reader_init, i_Reader_init, kc_Reader⟩, B_Reader_init⟩, PySem.W.mg_of X G aC_Reader⟩
  have O_CallNumbers_is_taken := ok_CallNumbers_is_taken (P := P) (w := w) (base := base) F_CallNumbers_is_taken T 
  have M_CallNumbers_is_taken : Mth P w K mg base C_CallNumbers "is_taken" _ _ _ := ⟨⟨_, _, O_CallNumbers_is_taken, ⟨a_CallNumbers_is_taken, i_CallNumbers_is_taken, k_CallNumbers_is_taken⟩, B_CallNumbers_is_taken⟩, T.cl_CallNumbers⟩
  have O_CallNumbers_take_number := ok_CallNumbers_take_number (P := P) (w := w) (base := base) F_CallNumbers_take_number T 
  have M_CallNumbers_take_number : Mth P w K mg base C_CallNumbers "take_number" _ _ _ := ⟨⟨_, _, O_CallNumbers_take_number, ⟨a_CallNumbers_take_number, i_CallNumbers_take_number, k_CallNumbers_take_number⟩, B_CallNumbers_take_number⟩, T.cl_CallNumbers⟩
  have O_CallNumbers_take_row := ok_CallNumbers_take_row (P := P) (w := w) (base := base) F_CallNumbers_take_row T M_CallNumbers_take_number
  have M_CallNumbers_take_row : Mth P w K mg base C_CallNumbers "take_row" _ _ _ := ⟨⟨_, _, O_CallNumbers_take_row, ⟨a_CallNumbers_take_row, i_CallNumbers_take_row, k_CallNumbers_take_row⟩, B_CallNumbers_take_row⟩, T.cl_CallNumbers⟩
  have O_Size_init := ok_Size_init (P := P) (w := w) (base := base) F_Size_init T 
  have K_Size : Mak P w K mg base C_Size "Size" _ _ _ := ⟨⟨_, _, O_Size_init, ⟨mk_Size, a_Size_init, i_Size_init, kc_Size⟩, B_Size_init⟩, PySem.W.mg_of X G aC_Size⟩
  have O_Size_is_in_range := ok_Size_is_in_range (P := P) (w := w) (base := base) F_Size_is_in_range T 
  have M_Size_is_in_range : Mth P w K mg base C_Size "is_in_range" _ _ _ := ⟨⟨_, _, O_Size_is_in_range, ⟨a_Size_is_in_range, i_Size_is_in_range, k_Size_is_in_range⟩, B_Size_is_in_range⟩, T.cl_Size⟩
  have O_Size_group_count := ok_Size_group_count (P := P) (w := w) (base := base) F_Size_group_count T 
  have M_Size_group_count : Mth P w K mg base C_Size "group_count" _ _ _ := ⟨⟨_, _, O_Size_group_count, ⟨a_Size_group_count, i_Size_group_count, k_Size_group_count⟩, B_Size_group_count⟩, T.cl_Size⟩
  have O_Size_group_length := ok_Size_group_length (P := P) (w := w) (base := base) F_Size_group_length T 
  have M_Size_group_length : Mth P w K mg base C_Size "group_length" _ _ _ := ⟨⟨_, _, O_Size_group_length, ⟨a_Size_group_length, i_Size_group_length, k_Size_group_length⟩, B_Size_group_length⟩, T.cl_Size⟩
  have O_Size_strand_count := ok_Size_strand_count (P := P) (w := w) (base := base) F_Size_strand_count T M_Size_group_count M_Size_group_length
  have M_Size_strand_count : Mth P w K mg base C_Size "strand_count" _ _ _ := ⟨⟨_, _, O_Size_strand_count, ⟨a_Size_strand_count, i_Size_strand_count, k_Size_strand_count⟩, B_Size_strand_count⟩, T.cl_Size⟩
  have O_Size_is_as_told := ok_Size_is_as_told (P := P) (w := w) (base := base) F_Size_is_as_told T M_Size_is_in_range M_Size_strand_count
  have M_Size_is_as_told : Mth P w K mg base C_Size "is_as_told" _ _ _ := ⟨⟨_, _, O_Size_is_as_told, ⟨a_Size_is_as_told, i_Size_is_as_told, k_Size_is_as_told⟩, B_Size_is_as_told⟩, T.cl_Size⟩
  have O_Polynomial_distance_log := ok_Polynomial_distance_log (P := P) (w := w) (base := base) F_Polynomial_distance_log T 
  have M_Polynomial_distance_log : Mth P w K mg base C_Polynomial "distance_log" _ _ _ := ⟨⟨_, _, O_Polynomial_distance_log, ⟨a_Polynomial_distance_log, i_Polynomial_distance_log, k_Polynomial_distance_log⟩, B_Polynomial_distance_log⟩, T.cl_Polynomial⟩
  have O_Polynomial_init := ok_Polynomial_init (P := P) (w := w) (base := base) F_Polynomial_init T M_Polynomial_distance_log
  have K_Polynomial : Mak P w K mg base C_Polynomial "Polynomial" _ _ _ := ⟨⟨_, _, O_Polynomial_init, ⟨mk_Polynomial, a_Polynomial_init, i_Polynomial_init, kc_Polynomial⟩, B_Polynomial_init⟩, PySem.W.mg_of X G aC_Polynomial⟩
  have O_Writer_begin := ok_Writer_begin (P := P) (w := w) (base := base) F_Writer_begin T K_Size M_Size_is_as_told M_Size_strand_count K_Polynomial
  have M_Writer_begin : Mth P w K mg base C_Writer "begin" _ _ _ := ⟨⟨_, _, O_Writer_begin, ⟨a_Writer_begin, i_Writer_begin, k_Writer_begin⟩, B_Writer_begin⟩, T.cl_Writer⟩
  have O_sk_start := ok_sk_start (P := P) (w := w) (base := base) F_sk_start T M_CallNumbers_take_number M_CallNumbers_take_row M_Writer_begin
  have G_sk_start : Glb P w K mg base "sk_start" _ _ _ := ⟨⟨_, _, O_sk_start, PySem.W.mg_of X G a_sk_start, k_sk_start, B_sk_start⟩⟩
  have O_ReadGroup_init := ok_ReadGroup_init (P := P) (w := w) (base := base) F_ReadGroup_init T 
  have K_ReadGroup : Mak P w K mg base C_ReadGroup "ReadGroup" _ _ _ := ⟨⟨_, _, O_ReadGroup_init, ⟨mk_ReadGroup, a_ReadGroup_init, i_ReadGroup_init, kc_ReadGroup⟩, B_ReadGroup_init⟩, PySem.W.mg_of X G aC_ReadGroup⟩
  have O_Reader_begin := ok_Reader_begin (P := P) (w := w) (base := base) F_Reader_begin T K_Size M_Size_is_as_told M_Size_strand_count M_Size_group_count K_ReadGroup
  have M_Reader_begin : Mth P w K mg base C_Reader "begin" _ _ _ := ⟨⟨_, _, O_Reader_begin, ⟨a_Reader_begin, i_Reader_begin, k_Reader_begin⟩, B_Reader_begin⟩, T.cl_Reader⟩
  have O_sr_start := ok_sr_start (P := P) (w := w) (base := base) F_sr_start T M_CallNumbers_take_number M_Reader_begin
  have G_sr_start : Glb P w K mg base "sr_start" _ _ _ := ⟨⟨_, _, O_sr_start, PySem.W.mg_of X G a_sr_start, k_sr_start, B_sr_start⟩⟩
  have O_Size_group_of := ok_Size_group_of (P := P) (w := w) (base := base) F_Size_group_of T M_Size_group_length
  have M_Size_group_of : Mth P w K mg base C_Size "group_of" _ _ _ := ⟨⟨_, _, O_Size_group_of, ⟨a_Size_group_of, i_Size_group_of, k_Size_group_of⟩, B_Size_group_of⟩, T.cl_Size⟩
  have O_Size_place_of := ok_Size_place_of (P := P) (w := w) (base := base) F_Size_place_of T M_Size_group_length
  have M_Size_place_of : Mth P w K mg base C_Size "place_of" _ _ _ := ⟨⟨_, _, O_Size_place_of, ⟨a_Size_place_of, i_Size_place_of, k_Size_place_of⟩, B_Size_place_of⟩, T.cl_Size⟩
  have O_Writer_filled_load := ok_Writer_filled_load (P := P) (w := w) (base := base) F_Writer_filled_load T 
  have M_Writer_filled_load : Mth P w K mg base C_Writer "filled_load" _ _ _ := ⟨⟨_, _, O_Writer_filled_load, ⟨a_Writer_filled_load, i_Writer_filled_load, k_Writer_filled_load⟩, B_Writer_filled_load⟩, T.cl_Writer⟩
  have O_Field_power := ok_Field_power (P := P) (w := w) (base := base) F_Field_power T 
  have M_Field_power : Mth P w K mg base C_Field "power" _ _ _ := ⟨⟨_, _, O_Field_power, ⟨a_Field_power, i_Field_power, k_Field_power⟩, B_Field_power⟩, T.cl_Field⟩
  have O_Polynomial_weights_at := ok_Polynomial_weights_at (P := P) (w := w) (base := base) F_Polynomial_weights_at T M_Polynomial_distance_log M_Field_power
  have M_Polynomial_weights_at : Mth P w K mg base C_Polynomial "weights_at" _ _ _ := ⟨⟨_, _, O_Polynomial_weights_at, ⟨a_Polynomial_weights_at, i_Polynomial_weights_at, k_Polynomial_weights_at⟩, B_Polynomial_weights_at⟩, T.cl_Polynomial⟩
  have O_Field_multiply := ok_Field_multiply (P := P) (w := w) (base := base) F_Field_multiply T M_Field_power
  have M_Field_multiply : Mth P w K mg base C_Field "multiply" _ _ _ := ⟨⟨_, _, O_Field_multiply, ⟨a_Field_multiply, i_Field_multiply, k_Field_multiply⟩, B_Field_multiply⟩, T.cl_Field⟩
  have O_Polynomial_load_at := ok_Polynomial_load_at (P := P) (w := w) (base := base) F_Polynomial_load_at T M_Polynomial_weights_at M_Field_multiply
  have M_Polynomial_load_at : Mth P w K mg base C_Polynomial "load_at" _ _ _ := ⟨⟨_, _, O_Polynomial_load_at, ⟨a_Polynomial_load_at, i_Polynomial_load_at, k_Polynomial_load_at⟩, B_Polynomial_load_at⟩, T.cl_Polynomial⟩
  have O_Writer_load_of := ok_Writer_load_of (P := P) (w := w) (base := base) F_Writer_load_of T M_Size_group_of M_Size_place_of M_Writer_filled_load M_Polynomial_load_at
  have M_Writer_load_of : Mth P w K mg base C_Writer "load_of" _ _ _ := ⟨⟨_, _, O_Writer_load_of, ⟨a_Writer_load_of, i_Writer_load_of, k_Writer_load_of⟩, B_Writer_load_of⟩, T.cl_Writer⟩
  have O_bits_of := ok_bits_of (P := P) (w := w) (base := base) F_bits_of T 
  have G_bits_of : Glb P w K mg base "bits_of" _ _ _ := ⟨⟨_, _, O_bits_of, PySem.W.mg_of X G a_bits_of, k_bits_of, B_bits_of⟩⟩
  have O_carrying_row := ok_carrying_row (P := P) (w := w) (base := base) F_carrying_row T 
  have G_carrying_row : Glb P w K mg base "carrying_row" _ _ _ := ⟨⟨_, _, O_carrying_row, PySem.W.mg_of X G a_carrying_row, k_carrying_row, B_carrying_row⟩⟩
  have O_row_weight := ok_row_weight (P := P) (w := w) (base := base) F_row_weight T 
  have G_row_weight : Glb P w K mg base "row_weight" _ _ _ := ⟨⟨_, _, O_row_weight, PySem.W.mg_of X G a_row_weight, k_row_weight, B_row_weight⟩⟩
  have O_right_row := ok_right_row (P := P) (w := w) (base := base) F_right_row T G_carrying_row G_row_weight
  have G_right_row : Glb P w K mg base "right_row" _ _ _ := ⟨⟨_, _, O_right_row, PySem.W.mg_of X G a_right_row, k_right_row, B_right_row⟩⟩
  have O_strand_letters := ok_strand_letters (P := P) (w := w) (base := base) F_strand_letters T G_bits_of G_right_row
  have G_strand_letters : Glb P w K mg base "strand_letters" _ _ _ := ⟨⟨_, _, O_strand_letters, PySem.W.mg_of X G a_strand_letters, k_strand_letters, B_strand_letters⟩⟩
  have O_Writer_strand := ok_Writer_strand (P := P) (w := w) (base := base) F_Writer_strand T M_Size_strand_count M_Writer_load_of G_strand_letters
  have M_Writer_strand : Mth P w K mg base C_Writer "strand" _ _ _ := ⟨⟨_, _, O_Writer_strand, ⟨a_Writer_strand, i_Writer_strand, k_Writer_strand⟩, B_Writer_strand⟩, T.cl_Writer⟩
  have O_are_letters := ok_are_letters (P := P) (w := w) (base := base) F_are_letters T 
  have G_are_letters : Glb P w K mg base "are_letters" _ _ _ := ⟨⟨_, _, O_are_letters, PySem.W.mg_of X G a_are_letters, k_are_letters, B_are_letters⟩⟩
  have O_may_be_mended := ok_may_be_mended (P := P) (w := w) (base := base) F_may_be_mended T G_are_letters
  have G_may_be_mended : Glb P w K mg base "may_be_mended" _ _ _ := ⟨⟨_, _, O_may_be_mended, PySem.W.mg_of X G a_may_be_mended, k_may_be_mended, B_may_be_mended⟩⟩
  have O_upper_row_of := ok_upper_row_of (P := P) (w := w) (base := base) F_upper_row_of T 
  have G_upper_row_of : Glb P w K mg base "upper_row_of" _ _ _ := ⟨⟨_, _, O_upper_row_of, PySem.W.mg_of X G a_upper_row_of, k_upper_row_of, B_upper_row_of⟩⟩
  have O_lower_row_of := ok_lower_row_of (P := P) (w := w) (base := base) F_lower_row_of T 
  have G_lower_row_of : Glb P w K mg base "lower_row_of" _ _ _ := ⟨⟨_, _, O_lower_row_of, PySem.W.mg_of X G a_lower_row_of, k_lower_row_of, B_lower_row_of⟩⟩
  have O_tries_at := ok_tries_at (P := P) (w := w) (base := base) F_tries_at T 
  have G_tries_at : Glb P w K mg base "tries_at" _ _ _ := ⟨⟨_, _, O_tries_at, PySem.W.mg_of X G a_tries_at, k_tries_at, B_tries_at⟩⟩
  have O_right_row_at := ok_right_row_at (P := P) (w := w) (base := base) F_right_row_at T G_tries_at G_row_weight
  have G_right_row_at : Glb P w K mg base "right_row_at" _ _ _ := ⟨⟨_, _, O_right_row_at, PySem.W.mg_of X G a_right_row_at, k_right_row_at, B_right_row_at⟩⟩
  have O_carried_bits := ok_carried_bits (P := P) (w := w) (base := base) F_carried_bits T 
  have G_carried_bits : Glb P w K mg base "carried_bits" _ _ _ := ⟨⟨_, _, O_carried_bits, PySem.W.mg_of X G a_carried_bits, k_carried_bits, B_carried_bits⟩⟩
  have O_bytes_of := ok_bytes_of (P := P) (w := w) (base := base) F_bytes_of T 
  have G_bytes_of : Glb P w K mg base "bytes_of" _ _ _ := ⟨⟨_, _, O_bytes_of, PySem.W.mg_of X G a_bytes_of, k_bytes_of, B_bytes_of⟩⟩
  have O_strand_content := ok_strand_content (P := P) (w := w) (base := base) F_strand_content T G_carried_bits G_bytes_of
  have G_strand_content : Glb P w K mg base "strand_content" _ _ _ := ⟨⟨_, _, O_strand_content, PySem.W.mg_of X G a_strand_content, k_strand_content, B_strand_content⟩⟩
  have O_mended_content := ok_mended_content (P := P) (w := w) (base := base) F_mended_content T G_upper_row_of G_lower_row_of G_right_row_at G_strand_content
  have G_mended_content : Glb P w K mg base "mended_content" _ _ _ := ⟨⟨_, _, O_mended_content, PySem.W.mg_of X G a_mended_content, k_mended_content, B_mended_content⟩⟩
  have O_number_in := ok_number_in (P := P) (w := w) (base := base) F_number_in T 
  have G_number_in : Glb P w K mg base "number_in" _ _ _ := ⟨⟨_, _, O_number_in, PySem.W.mg_of X G a_number_in, k_number_in, B_number_in⟩⟩
  have O_load_in := ok_load_in (P := P) (w := w) (base := base) F_load_in T 
  have G_load_in : Glb P w K mg base "load_in" _ _ _ := ⟨⟨_, _, O_load_in, PySem.W.mg_of X G a_load_in, k_load_in, B_load_in⟩⟩
  have O_ReadGroup_load_read_at := ok_ReadGroup_load_read_at (P := P) (w := w) (base := base) F_ReadGroup_load_read_at T 
  have M_ReadGroup_load_read_at : Mth P w K mg base C_ReadGroup "load_read_at" _ _ _ := ⟨⟨_, _, O_ReadGroup_load_read_at, ⟨a_ReadGroup_load_read_at, i_ReadGroup_load_read_at, k_ReadGroup_load_read_at⟩, B_ReadGroup_load_read_at⟩, T.cl_ReadGroup⟩
  have O_ReadGroup_keep_load := ok_ReadGroup_keep_load (P := P) (w := w) (base := base) F_ReadGroup_keep_load T 
  have M_ReadGroup_keep_load : Mth P w K mg base C_ReadGroup "keep_load" _ _ _ := ⟨⟨_, _, O_ReadGroup_keep_load, ⟨a_ReadGroup_keep_load, i_ReadGroup_keep_load, k_ReadGroup_keep_load⟩, B_ReadGroup_keep_load⟩, T.cl_ReadGroup⟩
  have O_Reader_keep_strand := ok_Reader_keep_strand (P := P) (w := w) (base := base) F_Reader_keep_strand T M_Size_group_of M_Size_place_of M_ReadGroup_load_read_at M_ReadGroup_keep_load
  have M_Reader_keep_strand : Mth P w K mg base C_Reader "keep_strand" _ _ _ := ⟨⟨_, _, O_Reader_keep_strand, ⟨a_Reader_keep_strand, i_Reader_keep_strand, k_Reader_keep_strand⟩, B_Reader_keep_strand⟩, T.cl_Reader⟩
  have O_Reader_read := ok_Reader_read (P := P) (w := w) (base := base) F_Reader_read T G_may_be_mended G_mended_content G_number_in G_load_in M_Size_strand_count M_Reader_keep_strand
  have M_Reader_read : Mth P w K mg base C_Reader "read" _ _ _ := ⟨⟨_, _, O_Reader_read, ⟨a_Reader_read, i_Reader_read, k_Reader_read⟩, B_Reader_read⟩, T.cl_Reader⟩
  have O_ReadGroup_lacking_count := ok_ReadGroup_lacking_count (P := P) (w := w) (base := base) F_ReadGroup_lacking_count T 
  have M_ReadGroup_lacking_count : Mth P w K mg base C_ReadGroup "lacking_count" _ _ _ := ⟨⟨_, _, O_ReadGroup_lacking_count, ⟨a_ReadGroup_lacking_count, i_ReadGroup_lacking_count, k_ReadGroup_lacking_count⟩, B_ReadGroup_lacking_count⟩, T.cl_ReadGroup⟩
  have O_Reader_lacking_count := ok_Reader_lacking_count (P := P) (w := w) (base := base) F_Reader_lacking_count T M_ReadGroup_lacking_count
  have M_Reader_lacking_count : Mth P w K mg base C_Reader "lacking_count" _ _ _ := ⟨⟨_, _, O_Reader_lacking_count, ⟨a_Reader_lacking_count, i_Reader_lacking_count, k_Reader_lacking_count⟩, B_Reader_lacking_count⟩, T.cl_Reader⟩
  have O_Reader_lacks := ok_Reader_lacks (P := P) (w := w) (base := base) F_Reader_lacks T M_Reader_lacking_count
  have M_Reader_lacks : Mth P w K mg base C_Reader "lacks" _ _ _ := ⟨⟨_, _, O_Reader_lacks, ⟨a_Reader_lacks, i_Reader_lacks, k_Reader_lacks⟩, B_Reader_lacks⟩, T.cl_Reader⟩
  have O_ReadGroup_worked_out_loads := ok_ReadGroup_worked_out_loads (P := P) (w := w) (base := base) F_ReadGroup_worked_out_loads T K_Polynomial M_Polynomial_load_at
  have M_ReadGroup_worked_out_loads : Mth P w K mg base C_ReadGroup "worked_out_loads" _ _ _ := ⟨⟨_, _, O_ReadGroup_worked_out_loads, ⟨a_ReadGroup_worked_out_loads, i_ReadGroup_worked_out_loads, k_ReadGroup_worked_out_loads⟩, B_ReadGroup_worked_out_loads⟩, T.cl_ReadGroup⟩
  have O_ReadGroup_filled_load := ok_ReadGroup_filled_load (P := P) (w := w) (base := base) F_ReadGroup_filled_load T M_ReadGroup_worked_out_loads
  have M_ReadGroup_filled_load : Mth P w K mg base C_ReadGroup "filled_load" _ _ _ := ⟨⟨_, _, O_ReadGroup_filled_load, ⟨a_ReadGroup_filled_load, i_ReadGroup_filled_load, k_ReadGroup_filled_load⟩, B_ReadGroup_filled_load⟩, T.cl_ReadGroup⟩
  have O_Reader_file_bytes := ok_Reader_file_bytes (P := P) (w := w) (base := base) F_Reader_file_bytes T M_ReadGroup_filled_load
  have M_Reader_file_bytes : Mth P w K mg base C_Reader "file_bytes" _ _ _ := ⟨⟨_, _, O_Reader_file_bytes, ⟨a_Reader_file_bytes, i_Reader_file_bytes, k_Reader_file_bytes⟩, B_Reader_file_bytes⟩, T.cl_Reader⟩
  have O_Reader_block := ok_Reader_block (P := P) (w := w) (base := base) F_Reader_block T M_Reader_lacking_count M_Reader_file_bytes
  have M_Reader_block : Mth P w K mg base C_Reader "block" _ _ _ := ⟨⟨_, _, O_Reader_block, ⟨a_Reader_block, i_Reader_block, k_Reader_block⟩, B_Reader_block⟩, T.cl_Reader⟩
  have O_answer_next := ok_answer_next (P := P) (w := w) (base := base) F_answer_next T M_CallNumbers_take_number M_CallNumbers_take_row G_sk_start G_sr_start M_Writer_strand M_Reader_read M_Reader_lacks M_Reader_block
  have G_answer_next : Glb P w K mg base "answer_next" _ _ _ := ⟨⟨_, _, O_answer_next, PySem.W.mg_of X G a_answer_next, k_answer_next, B_answer_next⟩⟩
  have O_answers := ok_answers (P := P) (w := w) (base := base) F_answers T K_CallNumbers K_Field K_Writer K_Reader M_CallNumbers_is_taken G_answer_next
  have G_answers : Glb P w K mg base "answers" _ _ _ := ⟨⟨_, _, O_answers, PySem.W.mg_of X G a_answers, k_answers, B_answers⟩⟩
  exact O_answers
end SS
end
def PySem.W.Fast.tw7670680741956402512 : Nat := 0
def PySem.W.Fast.tw5132563944006897031 : Nat := 0
def PySem.W.Fast.tw2246342885588514141 : Nat := 0
def PySem.W.Fast.tw11651175971047600493 : Nat := 0
def PySem.W.Fast.tw5409232917762585164 : Nat := 0
def PySem.W.Fast.tw13841823317441576040 : Nat := 0
def PySem.W.Fast.tw15739357856138225892 : Nat := 0
def PySem.W.Fast.tw8498576795333409724 : Nat := 0
def PySem.W.Fast.tw16061850949234698527 : Nat := 0
def PySem.W.Fast.tw13846887424088780637 : Nat := 0
def PySem.W.Fast.tw9106676831199437382 : Nat := 0
def PySem.W.Fast.tw14857613952211724398 : Nat := 0
def PySem.W.Fast.tw10311737870353273637 : Nat := 0
def PySem.W.Fast.tw12731084742871895349 : Nat := 0
def PySem.W.Fast.tw15927994144654734237 : Nat := 0
def PySem.W.Fast.tw14940948555708292613 : Nat := 0
open PySem PySem.W PyProof.Rows
set_option maxRecDepth 100000 in
set_option maxHeartbeats 0 in
theorem PySem.Challenge.cw_strandstore_s01_answers_holds : PySem.Challenge.rw_strandstore_s01_answers.Holds := by
  w_on; k_headS; (case hw => exact ⟨[.list [.int 2, .int 1, .int 0, .int 1]], by decide +kernel, by decide +kernel⟩)
  k_fillS
  refine L2.walk_specK (r := PySem.Challenge.rw_strandstore_s01_answers) (k := 9) (CX := L2.CX0) (ps := ["calls"]) (sp := SS.sp_answers) (by decide +kernel) rfl rfl ⟨rfl, by decide, by decide⟩ (fun w h Y => PySem.W.kIn_of Y) ?F ?S (fun _ _ _ _ z => z)
  case F =>
    intro w mg fa h Y KX G hmg
    refine' SS.all_mk KX G hmg ?aC_CallNumbers ?pg_CallNumbers ?hd_CallNumbers ?po_CallNumbers ?sa_CallNumbers ?mk_CallNumbers ?kc_CallNumbers ?na_CallNumbers_numbers ?na_CallNumbers_taken ?aC_Field ?pg_Field ?hd_Field ?po_Field ?sa_Field ?mk_Field ?kc_Field ?na_Field_powers ?na_Field_logs ?aC_Size ?pg_Size ?hd_Size ?po_Size ?sa_Size ?mk_Size ?kc_Size ?na_Size_k ?na_Size_m ?na_Size_n ?aC_Polynomial ?pg_Polynomial ?hd_Polynomial ?po_Polynomial ?sa_Polynomial ?mk_Polynomial ?kc_Polynomial ?na_Polynomial_field ?na_Polynomial_places ?na_Polynomial_divisor_logs ?aC_ReadGroup ?pg_ReadGroup ?hd_ReadGroup ?po_ReadGroup ?sa_ReadGroup ?mk_ReadGroup ?kc_ReadGroup ?na_ReadGroup_field ?na_ReadGroup_k ?na_ReadGroup_loads ?na_ReadGroup_filled_loads ?aC_Reader ?pg_Reader ?hd_Reader ?po_Reader ?sa_Reader ?mk_Reader ?kc_Reader ?na_Reader_field ?na_Reader_size ?na_Reader_groups ?aC_Writer ?pg_Writer ?hd_Writer ?po_Writer ?sa_Writer ?mk_Writer ?kc_Writer ?na_Writer_field ?na_Writer_size ?na_Writer_polynomial ?na_Writer_data ?b_len ?b_range ?b_sum ?b_zip ?b_max ?b_sorted ?b_enumerate ?b_all ?b_min ?b_list ?c_NUMBERS ?c_NONZERO ?c_MODULUS ?c_LOAD_LENGTH ?c_MOST_FILLED ?c_MOST_SPARE ?c_MOST_BYTES ?c_MOST_STRANDS ?c_WRONG_SIZE ?ca_LETTERS ?cl_LETTERS ?c_STRAND_LENGTH ?c_WEIGHT_MODULUS ?ca_WEIGHT_PLACES ?cl_WEIGHT_PLACES ?c_ROW_BITS ?c_SHORTEST ?c_LONGEST ?c_BLOCK_LENGTH ?c_WRONG_LETTERS ?c_NOT_MENDED ?c_ANOTHER_LOAD ?c_READ_BEFORE ?c_READ_NOW ?c_NO_BLOCK ?c_STRANDS_LACKING ?c_NO_STRAND ?c_SK_START ?c_SK_STRAND ?c_SR_START ?c_SR_READ ?c_SR_LACKS ?c_SR_BYTES ?a_CallNumbers_init ?i_CallNumbers_init ?l_CallNumbers_init ?cc_CallNumbers_init ?k_CallNumbers_init ?a_times_x_plus_one ?l_times_x_plus_one ?cc_times_x_plus_one ?k_times_x_plus_one ?a_Field_init ?i_Field_init ?l_Field_init ?cc_Field_init ?k_Field_init ?a_Writer_init ?i_Writer_init ?l_Writer_init ?cc_Writer_init ?k_Writer_init ?a_Reader_init ?i_Reader_init ?l_Reader_init ?cc_Reader_init ?k_Reader_init ?a_CallNumbers_is_taken ?i_CallNumbers_is_taken ?l_CallNumbers_is_taken ?cc_CallNumbers_is_taken ?k_CallNumbers_is_taken ?a_CallNumbers_take_number ?i_CallNumbers_take_number ?l_CallNumbers_take_number ?cc_CallNumbers_take_number ?k_CallNumbers_take_number ?a_CallNumbers_take_row ?i_CallNumbers_take_row ?l_CallNumbers_take_row ?cc_CallNumbers_take_row ?k_CallNumbers_take_row ?a_Size_init ?i_Size_init ?l_Size_init ?cc_Size_init ?k_Size_init ?a_Size_is_in_range ?i_Size_is_in_range ?l_Size_is_in_range ?cc_Size_is_in_range ?k_Size_is_in_range ?a_Size_group_count ?i_Size_group_count ?l_Size_group_count ?cc_Size_group_count ?k_Size_group_count ?a_Size_group_length ?i_Size_group_length ?l_Size_group_length ?cc_Size_group_length ?k_Size_group_length ?a_Size_strand_count ?i_Size_strand_count ?l_Size_strand_count ?cc_Size_strand_count ?k_Size_strand_count ?a_Size_is_as_told ?i_Size_is_as_told ?l_Size_is_as_told ?cc_Size_is_as_told ?k_Size_is_as_told ?a_Polynomial_distance_log ?i_Polynomial_distance_log ?l_Polynomial_distance_log ?cc_Polynomial_distance_log ?k_Polynomial_distance_log ?a_Polynomial_init ?i_Polynomial_init ?l_Polynomial_init ?cc_Polynomial_init ?k_Polynomial_init ?a_Writer_begin ?i_Writer_begin ?l_Writer_begin ?cc_Writer_begin ?k_Writer_begin ?a_sk_start ?l_sk_start ?cc_sk_start ?k_sk_start ?a_ReadGroup_init ?i_ReadGroup_init ?l_ReadGroup_init ?cc_ReadGroup_init ?k_ReadGroup_init ?a_Reader_begin ?i_Reader_begin ?l_Reader_begin ?cc_Reader_begin ?k_Reader_begin ?a_sr_start ?l_sr_start ?cc_sr_start ?k_sr_start ?a_Size_group_of ?i_Size_group_of ?l_Size_group_of ?cc_Size_group_of ?k_Size_group_of ?a_Size_place_of ?i_Size_place_of ?l_Size_place_of ?cc_Size_place_of ?k_Size_place_of ?a_Writer_filled_load ?i_Writer_filled_load ?l_Writer_filled_load ?cc_Writer_filled_load ?k_Writer_filled_load ?a_Field_power ?i_Field_power ?l_Field_power ?cc_Field_power ?k_Field_power ?a_Polynomial_weights_at ?i_Polynomial_weights_at ?l_Polynomial_weights_at ?cc_Polynomial_weights_at ?k_Polynomial_weights_at ?a_Field_multiply ?i_Field_multiply ?l_Field_multiply ?cc_Field_multiply ?k_Field_multiply ?a_Polynomial_load_at ?i_Polynomial_load_at ?l_Polynomial_load_at ?cc_Polynomial_load_at ?k_Polynomial_load_at ?a_Writer_load_of ?i_Writer_load_of ?l_Writer_load_of ?cc_Writer_load_of ?k_Writer_load_of ?a_bits_of ?l_bits_of ?cc_bits_of ?k_bits_of ?a_carrying_row ?l_carrying_row ?cc_carrying_row ?k_carrying_row ?a_row_weight ?l_row_weight ?cc_row_weight ?k_row_weight ?a_right_row ?l_right_row ?cc_right_row ?k_right_row ?a_strand_letters ?l_strand_letters ?cc_strand_letters ?k_strand_letters ?a_Writer_strand ?i_Writer_strand ?l_Writer_strand ?cc_Writer_strand ?k_Writer_strand ?a_are_letters ?l_are_letters ?cc_are_letters ?k_are_letters ?a_may_be_mended ?l_may_be_mended ?cc_may_be_mended ?k_may_be_mended ?a_upper_row_of ?l_upper_row_of ?cc_upper_row_of ?k_upper_row_of ?a_lower_row_of ?l_lower_row_of ?cc_lower_row_of ?k_lower_row_of ?a_tries_at ?l_tries_at ?cc_tries_at ?k_tries_at ?a_right_row_at ?l_right_row_at ?cc_right_row_at ?k_right_row_at ?a_carried_bits ?l_carried_bits ?cc_carried_bits ?k_carried_bits ?a_bytes_of ?l_bytes_of ?cc_bytes_of ?k_bytes_of ?a_strand_content ?l_strand_content ?cc_strand_content ?k_strand_content ?a_mended_content ?l_mended_content ?cc_mended_content ?k_mended_content ?a_number_in ?l_number_in ?cc_number_in ?k_number_in ?a_load_in ?l_load_in ?cc_load_in ?k_load_in ?a_ReadGroup_load_read_at ?i_ReadGroup_load_read_at ?l_ReadGroup_load_read_at ?cc_ReadGroup_load_read_at ?k_ReadGroup_load_read_at ?a_ReadGroup_keep_load ?i_ReadGroup_keep_load ?l_ReadGroup_keep_load ?cc_ReadGroup_keep_load ?k_ReadGroup_keep_load ?a_Reader_keep_strand ?i_Reader_keep_strand ?l_Reader_keep_strand ?cc_Reader_keep_strand ?k_Reader_keep_strand ?a_Reader_read ?i_Reader_read ?l_Reader_read ?cc_Reader_read ?k_Reader_read ?a_ReadGroup_lacking_count ?i_ReadGroup_lacking_count ?l_ReadGroup_lacking_count ?cc_ReadGroup_lacking_count ?k_ReadGroup_lacking_count ?a_Reader_lacking_count ?i_Reader_lacking_count ?l_Reader_lacking_count ?cc_Reader_lacking_count ?k_Reader_lacking_count ?a_Reader_lacks ?i_Reader_lacks ?l_Reader_lacks ?cc_Reader_lacks ?k_Reader_lacks ?a_ReadGroup_worked_out_loads ?i_ReadGroup_worked_out_loads ?l_ReadGroup_worked_out_loads ?cc_ReadGroup_worked_out_loads ?k_ReadGroup_worked_out_loads ?a_ReadGroup_filled_load ?i_ReadGroup_filled_load ?l_ReadGroup_filled_load ?cc_ReadGroup_filled_load ?k_ReadGroup_filled_load ?a_Reader_file_bytes ?i_Reader_file_bytes ?l_Reader_file_bytes ?cc_Reader_file_bytes ?k_Reader_file_bytes ?a_Reader_block ?i_Reader_block ?l_Reader_block ?cc_Reader_block ?k_Reader_block ?a_answer_next ?l_answer_next ?cc_answer_next ?k_answer_next ?a_answers ?l_answers ?cc_answers ?k_answers
    (case aC_CallNumbers => k_is); (case pg_CallNumbers => k_is); (case hd_CallNumbers => k_is); (case po_CallNumbers => k_is); (case sa_CallNumbers => k_is); (case mk_CallNumbers => k_is)
    (case kc_CallNumbers => k_is); (case na_CallNumbers_numbers => k_is); (case na_CallNumbers_taken => k_is); (case aC_Field => k_is); (case pg_Field => k_is); (case hd_Field => k_is)
    (case po_Field => k_is); (case sa_Field => k_is); (case mk_Field => k_is); (case kc_Field => k_is); (case na_Field_powers => k_is); (case na_Field_logs => k_is)
    (case aC_Size => k_is); (case pg_Size => k_is); (case hd_Size => k_is); (case po_Size => k_is); (case sa_Size => k_is); (case mk_Size => k_is)
    (case kc_Size => k_is); (case na_Size_k => k_is); (case na_Size_m => k_is); (case na_Size_n => k_is); (case aC_Polynomial => k_is); (case pg_Polynomial => k_is)
    (case hd_Polynomial => k_is); (case po_Polynomial => k_is); (case sa_Polynomial => k_is); (case mk_Polynomial => k_is); (case kc_Polynomial => k_is); (case na_Polynomial_field => k_is)
    (case na_Polynomial_places => k_is); (case na_Polynomial_divisor_logs => k_is); (case aC_ReadGroup => k_is); (case pg_ReadGroup => k_is); (case hd_ReadGroup => k_is); (case po_ReadGroup => k_is)
    (case sa_ReadGroup => k_is); (case mk_ReadGroup => k_is); (case kc_ReadGroup => k_is); (case na_ReadGroup_field => k_is); (case na_ReadGroup_k => k_is); (case na_ReadGroup_loads => k_is)
    (case na_ReadGroup_filled_loads => k_is); (case aC_Reader => k_is); (case pg_Reader => k_is); (case hd_Reader => k_is); (case po_Reader => k_is); (case sa_Reader => k_is)
    (case mk_Reader => k_is); (case kc_Reader => k_is); (case na_Reader_field => k_is); (case na_Reader_size => k_is); (case na_Reader_groups => k_is); (case aC_Writer => k_is)
    (case pg_Writer => k_is); (case hd_Writer => k_is); (case po_Writer => k_is); (case sa_Writer => k_is); (case mk_Writer => k_is); (case kc_Writer => k_is)
    (case na_Writer_field => k_is); (case na_Writer_size => k_is); (case na_Writer_polynomial => k_is); (case na_Writer_data => k_is); (case b_len => k_is); (case b_range => k_is)
    (case b_sum => k_is); (case b_zip => k_is); (case b_max => k_is); (case b_sorted => k_is); (case b_enumerate => k_is); (case b_all => k_is)
    (case b_min => k_is); (case b_list => k_is); (case c_NUMBERS => k_is); (case c_NONZERO => k_is); (case c_MODULUS => k_is); (case c_LOAD_LENGTH => k_is)
    (case c_MOST_FILLED => k_is); (case c_MOST_SPARE => k_is); (case c_MOST_BYTES => k_is); (case c_MOST_STRANDS => k_is); (case c_WRONG_SIZE => k_is); (case ca_LETTERS => k_is)
    (case cl_LETTERS => k_is); (case c_STRAND_LENGTH => k_is); (case c_WEIGHT_MODULUS => k_is); (case ca_WEIGHT_PLACES => k_is); (case cl_WEIGHT_PLACES => k_is); (case c_ROW_BITS => k_is)
    (case c_SHORTEST => k_is); (case c_LONGEST => k_is); (case c_BLOCK_LENGTH => k_is); (case c_WRONG_LETTERS => k_is); (case c_NOT_MENDED => k_is); (case c_ANOTHER_LOAD => k_is)
    (case c_READ_BEFORE => k_is); (case c_READ_NOW => k_is); (case c_NO_BLOCK => k_is); (case c_STRANDS_LACKING => k_is); (case c_NO_STRAND => k_is); (case c_SK_START => k_is)
    (case c_SK_STRAND => k_is); (case c_SR_START => k_is); (case c_SR_READ => k_is); (case c_SR_LACKS => k_is); (case c_SR_BYTES => k_is); (case a_CallNumbers_init => k_is)
    (case i_CallNumbers_init => k_is); (case l_CallNumbers_init => k_is); (case cc_CallNumbers_init => k_is); (case k_CallNumbers_init => k_is); (case a_times_x_plus_one => k_is); (case l_times_x_plus_one => k_is)
    (case cc_times_x_plus_one => k_is); (case k_times_x_plus_one => k_is); (case a_Field_init => k_is); (case i_Field_init => k_is); (case l_Field_init => k_is); (case cc_Field_init => k_is)
    (case k_Field_init => k_is); (case a_Writer_init => k_is); (case i_Writer_init => k_is); (case l_Writer_init => k_is); (case cc_Writer_init => k_is); (case k_Writer_init => k_is)
    (case a_Reader_init => k_is); (case i_Reader_init => k_is); (case l_Reader_init => k_is); (case cc_Reader_init => k_is); (case k_Reader_init => k_is); (case a_CallNumbers_is_taken => k_is)
    (case i_CallNumbers_is_taken => k_is); (case l_CallNumbers_is_taken => k_is); (case cc_CallNumbers_is_taken => k_is); (case k_CallNumbers_is_taken => k_is); (case a_CallNumbers_take_number => k_is); (case i_CallNumbers_take_number => k_is)
    (case l_CallNumbers_take_number => k_is); (case cc_CallNumbers_take_number => k_is); (case k_CallNumbers_take_number => k_is); (case a_CallNumbers_take_row => k_is); (case i_CallNumbers_take_row => k_is); (case l_CallNumbers_take_row => k_is)
    (case cc_CallNumbers_take_row => k_is); (case k_CallNumbers_take_row => k_is); (case a_Size_init => k_is); (case i_Size_init => k_is); (case l_Size_init => k_is); (case cc_Size_init => k_is)
    (case k_Size_init => k_is); (case a_Size_is_in_range => k_is); (case i_Size_is_in_range => k_is); (case l_Size_is_in_range => k_is); (case cc_Size_is_in_range => k_is); (case k_Size_is_in_range => k_is)
    (case a_Size_group_count => k_is); (case i_Size_group_count => k_is); (case l_Size_group_count => k_is); (case cc_Size_group_count => k_is); (case k_Size_group_count => k_is); (case a_Size_group_length => k_is)
    (case i_Size_group_length => k_is); (case l_Size_group_length => k_is); (case cc_Size_group_length => k_is); (case k_Size_group_length => k_is); (case a_Size_strand_count => k_is); (case i_Size_strand_count => k_is)
    (case l_Size_strand_count => k_is); (case cc_Size_strand_count => k_is); (case k_Size_strand_count => k_is); (case a_Size_is_as_told => k_is); (case i_Size_is_as_told => k_is); (case l_Size_is_as_told => k_is)
    (case cc_Size_is_as_told => k_is); (case k_Size_is_as_told => k_is); (case a_Polynomial_distance_log => k_is); (case i_Polynomial_distance_log => k_is); (case l_Polynomial_distance_log => k_is); (case cc_Polynomial_distance_log => k_is)
    (case k_Polynomial_distance_log => k_is); (case a_Polynomial_init => k_is); (case i_Polynomial_init => k_is); (case l_Polynomial_init => k_is); (case cc_Polynomial_init => k_is); (case k_Polynomial_init => k_is)
    (case a_Writer_begin => k_is); (case i_Writer_begin => k_is); (case l_Writer_begin => k_is); (case cc_Writer_begin => k_is); (case k_Writer_begin => k_is); (case a_sk_start => k_is)
    (case l_sk_start => k_is); (case cc_sk_start => k_is); (case k_sk_start => k_is); (case a_ReadGroup_init => k_is); (case i_ReadGroup_init => k_is); (case l_ReadGroup_init => k_is)
    (case cc_ReadGroup_init => k_is); (case k_ReadGroup_init => k_is); (case a_Reader_begin => k_is); (case i_Reader_begin => k_is); (case l_Reader_begin => k_is); (case cc_Reader_begin => k_is)
    (case k_Reader_begin => k_is); (case a_sr_start => k_is); (case l_sr_start => k_is); (case cc_sr_start => k_is); (case k_sr_start => k_is); (case a_Size_group_of => k_is)
    (case i_Size_group_of => k_is); (case l_Size_group_of => k_is); (case cc_Size_group_of => k_is); (case k_Size_group_of => k_is); (case a_Size_place_of => k_is); (case i_Size_place_of => k_is)
    (case l_Size_place_of => k_is); (case cc_Size_place_of => k_is); (case k_Size_place_of => k_is); (case a_Writer_filled_load => k_is); (case i_Writer_filled_load => k_is); (case l_Writer_filled_load => k_is)
    (case cc_Writer_filled_load => k_is); (case k_Writer_filled_load => k_is); (case a_Field_power => k_is); (case i_Field_power => k_is); (case l_Field_power => k_is); (case cc_Field_power => k_is)
    (case k_Field_power => k_is); (case a_Polynomial_weights_at => k_is); (case i_Polynomial_weights_at => k_is); (case l_Polynomial_weights_at => k_is); (case cc_Polynomial_weights_at => k_is); (case k_Polynomial_weights_at => k_is)
    (case a_Field_multiply => k_is); (case i_Field_multiply => k_is); (case l_Field_multiply => k_is); (case cc_Field_multiply => k_is); (case k_Field_multiply => k_is); (case a_Polynomial_load_at => k_is)
    (case i_Polynomial_load_at => k_is); (case l_Polynomial_load_at => k_is); (case cc_Polynomial_load_at => k_is); (case k_Polynomial_load_at => k_is); (case a_Writer_load_of => k_is); (case i_Writer_load_of => k_is)
    (case l_Writer_load_of => k_is); (case cc_Writer_load_of => k_is); (case k_Writer_load_of => k_is); (case a_bits_of => k_is); (case l_bits_of => k_is); (case cc_bits_of => k_is)
    (case k_bits_of => k_is); (case a_carrying_row => k_is); (case l_carrying_row => k_is); (case cc_carrying_row => k_is); (case k_carrying_row => k_is); (case a_row_weight => k_is)
    (case l_row_weight => k_is); (case cc_row_weight => k_is); (case k_row_weight => k_is); (case a_right_row => k_is); (case l_right_row => k_is); (case cc_right_row => k_is)
    (case k_right_row => k_is); (case a_strand_letters => k_is); (case l_strand_letters => k_is); (case cc_strand_letters => k_is); (case k_strand_letters => k_is); (case a_Writer_strand => k_is)
    (case i_Writer_strand => k_is); (case l_Writer_strand => k_is); (case cc_Writer_strand => k_is); (case k_Writer_strand => k_is); (case a_are_letters => k_is); (case l_are_letters => k_is)
    (case cc_are_letters => k_is); (case k_are_letters => k_is); (case a_may_be_mended => k_is); (case l_may_be_mended => k_is); (case cc_may_be_mended => k_is); (case k_may_be_mended => k_is)
    (case a_upper_row_of => k_is); (case l_upper_row_of => k_is); (case cc_upper_row_of => k_is); (case k_upper_row_of => k_is); (case a_lower_row_of => k_is); (case l_lower_row_of => k_is)
    (case cc_lower_row_of => k_is); (case k_lower_row_of => k_is); (case a_tries_at => k_is); (case l_tries_at => k_is); (case cc_tries_at => k_is); (case k_tries_at => k_is)
    (case a_right_row_at => k_is); (case l_right_row_at => k_is); (case cc_right_row_at => k_is); (case k_right_row_at => k_is); (case a_carried_bits => k_is); (case l_carried_bits => k_is)
    (case cc_carried_bits => k_is); (case k_carried_bits => k_is); (case a_bytes_of => k_is); (case l_bytes_of => k_is); (case cc_bytes_of => k_is); (case k_bytes_of => k_is)
    (case a_strand_content => k_is); (case l_strand_content => k_is); (case cc_strand_content => k_is); (case k_strand_content => k_is); (case a_mended_content => k_is); (case l_mended_content => k_is)
    (case cc_mended_content => k_is); (case k_mended_content => k_is); (case a_number_in => k_is); (case l_number_in => k_is); (case cc_number_in => k_is); (case k_number_in => k_is)
    (case a_load_in => k_is); (case l_load_in => k_is); (case cc_load_in => k_is); (case k_load_in => k_is); (case a_ReadGroup_load_read_at => k_is); (case i_ReadGroup_load_read_at => k_is)
    (case l_ReadGroup_load_read_at => k_is); (case cc_ReadGroup_load_read_at => k_is); (case k_ReadGroup_load_read_at => k_is); (case a_ReadGroup_keep_load => k_is); (case i_ReadGroup_keep_load => k_is); (case l_ReadGroup_keep_load => k_is)
    (case cc_ReadGroup_keep_load => k_is); (case k_ReadGroup_keep_load => k_is); (case a_Reader_keep_strand => k_is); (case i_Reader_keep_strand => k_is); (case l_Reader_keep_strand => k_is); (case cc_Reader_keep_strand => k_is)
    (case k_Reader_keep_strand => k_is); (case a_Reader_read => k_is); (case i_Reader_read => k_is); (case l_Reader_read => k_is); (case cc_Reader_read => k_is); (case k_Reader_read => k_is)
    (case a_ReadGroup_lacking_count => k_is); (case i_ReadGroup_lacking_count => k_is); (case l_ReadGroup_lacking_count => k_is); (case cc_ReadGroup_lacking_count => k_is); (case k_ReadGroup_lacking_count => k_is); (case a_Reader_lacking_count => k_is)
    (case i_Reader_lacking_count => k_is); (case l_Reader_lacking_count => k_is); (case cc_Reader_lacking_count => k_is); (case k_Reader_lacking_count => k_is); (case a_Reader_lacks => k_is); (case i_Reader_lacks => k_is)
    (case l_Reader_lacks => k_is); (case cc_Reader_lacks => k_is); (case k_Reader_lacks => k_is); (case a_ReadGroup_worked_out_loads => k_is); (case i_ReadGroup_worked_out_loads => k_is); (case l_ReadGroup_worked_out_loads => k_is)
    (case cc_ReadGroup_worked_out_loads => k_is); (case k_ReadGroup_worked_out_loads => k_is); (case a_ReadGroup_filled_load => k_is); (case i_ReadGroup_filled_load => k_is); (case l_ReadGroup_filled_load => k_is); (case cc_ReadGroup_filled_load => k_is)
    (case k_ReadGroup_filled_load => k_is); (case a_Reader_file_bytes => k_is); (case i_Reader_file_bytes => k_is); (case l_Reader_file_bytes => k_is); (case cc_Reader_file_bytes => k_is); (case k_Reader_file_bytes => k_is)
    (case a_Reader_block => k_is); (case i_Reader_block => k_is); (case l_Reader_block => k_is); (case cc_Reader_block => k_is); (case k_Reader_block => k_is); (case a_answer_next => k_is)
    (case l_answer_next => k_is); (case cc_answer_next => k_is); (case k_answer_next => k_is); (case a_answers => k_is); (case l_answers => k_is); (case cc_answers => k_is)
    (case k_answers => k_is)
  case S =>
    intro K H xs a hO hwi hask hx
    cases hx with
    | cons h1 h2 =>
      cases h2
      cases h1 with
      | lst hs ha =>
        have e := L2.ints_dw a.1 _ ha
        subst e
        have q : ((Codec.inLen 0 30000 a.1 && a.1.all (Codec.inInt 0 4294967295)) && true) = true := hwi
        rw [Bool.and_eq_true, Bool.and_eq_true] at q
        exact ⟨_, a.1, rfl, hO, hs, (Codec.inNat_iff.mp q.1.1).2, hask, fun H' p hp => .lst (L2.SqL.of hp) (L2.dw_ints _)⟩
