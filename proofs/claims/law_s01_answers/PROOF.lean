import PyProof.Rows.All
import Wide.All
import OpenK.AllK
import Wide.FinOn
import Open.SpecLaws
import KE.OsGo
import HandS.ForSpec
import HandS.ForMost
import HandS.Walk
import HandS.Wide
import PyWideLaws
import PySem.Challenge.RW_goneoak_s01_answers
set_option Elab.async false
set_option linter.all false
set_option maxRecDepth 100000
set_option maxHeartbeats 4000000
namespace Gk
open Mu51

/-! ### points -/
theorem Pt.ext' {a b : Pt} (h1 : a.x = b.x) (h2 : a.y = b.y) : a = b := by
  cases a; cases b; simp only at h1 h2; subst h1; subst h2; rfl

/-! ### the treasure is what the mix makes of the places -/
/-- what a mix makes of the places -/
def ev : Mix → List Pt → Pt
  | a :: m, p :: l => Pt.add (Pt.times a p) (ev m l)
  | _, _ => ⟨0, 0⟩

theorem ev_add : ∀ (l : List Pt) (a b : Mix), a.length = l.length → b.length = l.length → ev (Mix.add a b) l = Pt.add (ev a l) (ev b l)
  | [], [], [], _, _ => rfl
  | p :: l, a :: m, b :: n, h, k => by
    have ih := ev_add l m n (by simpa using h) (by simpa using k)
    show Pt.add (Pt.times (Pt.add a b) p) (ev (Mix.add m n) l) = Pt.add (Pt.add (Pt.times a p) (ev m l)) (Pt.add (Pt.times b p) (ev n l))
    rw [ih]
    apply Pt.ext' <;> simp only [Pt.add, Pt.times, Int.add_mul, Int.mul_add] <;> omega
  | [], _ :: _, _, h, _ => by simp at h
  | [], [], _ :: _, _, k => by simp at k
  | _ :: _, [], _, h, _ => by simp at h
  | _ :: _, _ :: _, [], _, k => by simp at k

theorem ev_by (n : Int) : ∀ (l : List Pt) (a : Mix), ev (Mix.by_ n a) l = Pt.by_ n (ev a l)
  | [], a => by
    cases a <;> exact Pt.ext' (by simp [ev, Mix.by_, Pt.by_]) (by simp [ev, Mix.by_, Pt.by_])
  | p :: l, [] => Pt.ext' (by simp [ev, Mix.by_, Pt.by_]) (by simp [ev, Mix.by_, Pt.by_])
  | p :: l, a :: m => by
    have ih := ev_by n l m
    show Pt.add (Pt.times (Pt.by_ n a) p) (ev (Mix.by_ n m) l) = Pt.by_ n (Pt.add (Pt.times a p) (ev m l))
    rw [ih]
    apply Pt.ext' <;> simp only [Pt.add, Pt.times, Pt.by_, Int.mul_sub, Int.mul_add, Int.mul_assoc] <;> omega

theorem ev_turn : ∀ (l : List Pt) (a : Mix), ev (Mix.turn a) l = Pt.turn (ev a l)
  | [], a => by
    cases a <;> exact Pt.ext' (by simp [ev, Mix.turn, Pt.turn]) (by simp [ev, Mix.turn, Pt.turn])
  | p :: l, [] => Pt.ext' (by simp [ev, Mix.turn, Pt.turn]) (by simp [ev, Mix.turn, Pt.turn])
  | p :: l, a :: m => by
    have ih := ev_turn l m
    show Pt.add (Pt.times (Pt.turn a) p) (ev (Mix.turn m) l) = Pt.turn (Pt.add (Pt.times a p) (ev m l))
    rw [ih]
    apply Pt.ext' <;> simp only [Pt.add, Pt.times, Pt.turn, Int.neg_mul] <;> omega

theorem ev_sub : ∀ (l : List Pt) (a b : Mix), a.length = l.length → b.length = l.length → ev (Mix.sub a b) l = Pt.sub (ev a l) (ev b l)
  | [], [], [], _, _ => rfl
  | p :: l, a :: m, b :: n, h, k => by
    have ih := ev_sub l m n (by simpa using h) (by simpa using k)
    show Pt.add (Pt.times (Pt.sub a b) p) (ev (Mix.sub m n) l) = Pt.sub (Pt.add (Pt.times a p) (ev m l)) (Pt.add (Pt.times b p) (ev n l))
    rw [ih]
    apply Pt.ext' <;> simp only [Pt.add, Pt.sub, Pt.times, Int.sub_mul, Int.mul_add] <;> omega
  | [], _ :: _, _, h, _ => by simp at h
  | [], [], _ :: _, _, k => by simp at k
  | _ :: _, [], _, h, _ => by simp at h
  | _ :: _, _ :: _, [], _, k => by simp at k

/-- every number of a mix is divided by d -/
def Dv (d : Int) (a : Mix) : Prop := ∀ p ∈ a, (∃ k, p.x = d * k) ∧ (∃ k, p.y = d * k)

theorem ev_half : ∀ (l : List Pt) (a : Mix), Dv 2 a → ev (Mix.half a) l = Pt.half (ev a l) ∧ (∃ k, (ev a l).x = 2 * k) ∧ (∃ k, (ev a l).y = 2 * k)
  | [], a, _ => by
    cases a <;> exact ⟨rfl, ⟨0, rfl⟩, ⟨0, rfl⟩⟩
  | p :: l, [], _ => ⟨rfl, ⟨0, rfl⟩, ⟨0, rfl⟩⟩
  | p :: l, a :: m, h => by
    obtain ⟨ih, ⟨u, hu⟩, ⟨v, hv⟩⟩ := ev_half l m (fun q hq => h q (List.mem_cons_of_mem _ hq))
    obtain ⟨⟨i, hi⟩, ⟨j, hj⟩⟩ := h a List.mem_cons_self
    have e : ev (a :: m) (p :: l) = ⟨2 * (i * p.x - j * p.y + u), 2 * (i * p.y + j * p.x + v)⟩ := by
      show Pt.add (Pt.times a p) (ev m l) = _
      apply Pt.ext'
      · simp only [Pt.add, Pt.times, hi, hj, hu, Int.mul_assoc, Int.mul_add, Int.mul_sub]
      · simp only [Pt.add, Pt.times, hi, hj, hv, Int.mul_assoc, Int.mul_add, Int.mul_sub]
    refine ⟨?_, ⟨_, by rw [e]⟩, ⟨_, by rw [e]⟩⟩
    show Pt.add (Pt.times (Pt.half a) p) (ev (Mix.half m) l) = Pt.half (ev (a :: m) (p :: l))
    rw [ih, e]
    have h1 : a.x / 2 = i := by omega
    have h2 : a.y / 2 = j := by omega
    apply Pt.ext'
    · simp only [Pt.add, Pt.times, Pt.half, h1, h2]
      omega
    · simp only [Pt.add, Pt.times, Pt.half, h1, h2]
      omega

theorem ev_zero : ∀ (l : List Pt) (n : Nat), ev (List.replicate n ⟨0, 0⟩) l = ⟨0, 0⟩
  | [], n => by cases n <;> rfl
  | p :: l, 0 => rfl
  | p :: l, n + 1 => by
    show Pt.add (Pt.times ⟨0, 0⟩ p) (ev (List.replicate n ⟨0, 0⟩) l) = ⟨0, 0⟩
    rw [ev_zero l n]
    apply Pt.ext' <;> simp [Pt.add, Pt.times]

/-- the mix of one landmark -/
theorem mark_succ (n k : Nat) (P : Pt) : ((List.range (n + 1)).map fun (i : Nat) => if i = k + 1 then P else (⟨0, 0⟩ : Pt)) = ⟨0, 0⟩ :: ((List.range n).map fun (i : Nat) => if i = k then P else (⟨0, 0⟩ : Pt)) := by
  rw [List.range_succ_eq_map, List.map_cons, List.map_map, if_neg (by omega)]
  congr 1
  apply List.map_congr_left
  intro i _
  simp only [Function.comp, Nat.succ_eq_add_one, Nat.add_right_cancel_iff]
theorem mark_zero (n : Nat) (P : Pt) : ((List.range (n + 1)).map fun (i : Nat) => if i = 0 then P else (⟨0, 0⟩ : Pt)) = P :: List.replicate n ⟨0, 0⟩ := by
  rw [List.range_succ_eq_map, List.map_cons, List.map_map, if_pos rfl]
  congr 1
  apply List.ext_getElem
  · simp
  · intro i h1 h2
    simp
theorem ev_mark : ∀ (l : List Pt) (k : Nat) (P : Int), ev ((List.range l.length).map fun (i : Nat) => if i = k then (⟨P, 0⟩ : Pt) else ⟨0, 0⟩) l = Pt.by_ P (l.getD k ⟨0, 0⟩)
  | [], k, P => by
    apply Pt.ext' <;> simp [ev, Pt.by_]
  | p :: l, 0, P => by
    show ev ((List.range (l.length + 1)).map _) (p :: l) = _
    rw [mark_zero]
    show Pt.add (Pt.times ⟨P, 0⟩ p) (ev (List.replicate l.length ⟨0, 0⟩) l) = Pt.by_ P p
    rw [ev_zero]
    apply Pt.ext' <;> simp [Pt.add, Pt.times, Pt.by_]
  | p :: l, k + 1, P => by
    show ev ((List.range (l.length + 1)).map _) (p :: l) = _
    rw [mark_succ]
    show Pt.add (Pt.times ⟨0, 0⟩ p) (ev ((List.range l.length).map fun (i : Nat) => if i = k then (⟨P, 0⟩ : Pt) else ⟨0, 0⟩) l) = Pt.by_ P (l.getD k ⟨0, 0⟩)
    rw [ev_mark l k P]
    apply Pt.ext' <;> simp [Pt.add, Pt.times]

/-! ### what a mix keeps through a saying: its length, its divisor, its size -/
structure Gd (n : Nat) (d : Int) (B : Nat) (a : Mix) : Prop where
  len : a.length = n
  dv : Dv d a
  sz : ∀ p ∈ a, p.x.natAbs ≤ B ∧ p.y.natAbs ≤ B

theorem Dv.of {d e : Int} {a : Mix} (h : Dv (d * e) a) : Dv d a := fun p hp => by
  obtain ⟨⟨i, hi⟩, ⟨j, hj⟩⟩ := h p hp
  exact ⟨⟨e * i, by rw [hi, Int.mul_assoc]⟩, ⟨e * j, by rw [hj, Int.mul_assoc]⟩⟩
theorem Gd.mono {n : Nat} {d e : Int} {B C : Nat} {a : Mix} (h : Gd n (d * e) B a) (hB : B ≤ C) : Gd n d C a :=
  ⟨h.len, Dv.of h.dv, fun p hp => ⟨Nat.le_trans (h.sz p hp).1 hB, Nat.le_trans (h.sz p hp).2 hB⟩⟩
theorem Gd.up {n : Nat} {d : Int} {B C : Nat} {a : Mix} (h : Gd n d B a) (hB : B ≤ C) : Gd n d C a :=
  ⟨h.len, h.dv, fun p hp => ⟨Nat.le_trans (h.sz p hp).1 hB, Nat.le_trans (h.sz p hp).2 hB⟩⟩
theorem mem_zip {α : Type} {f : Pt → Pt → α} : ∀ {a b : Mix} {q : α}, q ∈ List.zipWith f a b → ∃ u ∈ a, ∃ v ∈ b, q = f u v
  | [], _, _, h => by simp at h
  | _ :: _, [], _, h => by simp at h
  | u :: a, v :: b, q, h => by
    rw [List.zipWith_cons_cons, List.mem_cons] at h
    rcases h with h | h
    · exact ⟨u, List.mem_cons_self, v, List.mem_cons_self, h⟩
    · obtain ⟨u', hu, v', hv, e⟩ := mem_zip h
      exact ⟨u', List.mem_cons_of_mem _ hu, v', List.mem_cons_of_mem _ hv, e⟩
theorem Gd.add {n : Nat} {d : Int} {B C : Nat} {a b : Mix} (h : Gd n d B a) (k : Gd n d C b) : Gd n d (B + C) (Mix.add a b) := by
  refine ⟨by rw [Mix.add, List.length_zipWith, h.len, k.len]; omega, fun q hq => ?_, fun q hq => ?_⟩
  · obtain ⟨u, hu, v, hv, rfl⟩ := mem_zip hq
    obtain ⟨⟨i, hi⟩, ⟨j, hj⟩⟩ := h.dv u hu
    obtain ⟨⟨i', hi'⟩, ⟨j', hj'⟩⟩ := k.dv v hv
    exact ⟨⟨i + i', by simp only [Pt.add, hi, hi', Int.mul_add]⟩, ⟨j + j', by simp only [Pt.add, hj, hj', Int.mul_add]⟩⟩
  · obtain ⟨u, hu, v, hv, rfl⟩ := mem_zip hq
    have := h.sz u hu
    have := k.sz v hv
    simp only [Pt.add]
    omega
theorem Gd.sub {n : Nat} {d : Int} {B C : Nat} {a b : Mix} (h : Gd n d B a) (k : Gd n d C b) : Gd n d (B + C) (Mix.sub a b) := by
  refine ⟨by rw [Mix.sub, List.length_zipWith, h.len, k.len]; omega, fun q hq => ?_, fun q hq => ?_⟩
  · obtain ⟨u, hu, v, hv, rfl⟩ := mem_zip hq
    obtain ⟨⟨i, hi⟩, ⟨j, hj⟩⟩ := h.dv u hu
    obtain ⟨⟨i', hi'⟩, ⟨j', hj'⟩⟩ := k.dv v hv
    exact ⟨⟨i - i', by simp only [Pt.sub, hi, hi', Int.mul_sub]⟩, ⟨j - j', by simp only [Pt.sub, hj, hj', Int.mul_sub]⟩⟩
  · obtain ⟨u, hu, v, hv, rfl⟩ := mem_zip hq
    have := h.sz u hu
    have := k.sz v hv
    simp only [Pt.sub]
    omega
theorem Gd.by_ {n : Nat} {d : Int} {B : Nat} {a : Mix} (t : Nat) (h : Gd n d B a) : Gd n d (t * B) (Mix.by_ t a) := by
  refine ⟨by rw [Mix.by_, List.length_map, h.len], fun q hq => ?_, fun q hq => ?_⟩
  · obtain ⟨u, hu, rfl⟩ := List.mem_map.mp hq
    obtain ⟨⟨i, hi⟩, ⟨j, hj⟩⟩ := h.dv u hu
    exact ⟨⟨t * i, by simp only [Pt.by_, hi, Int.mul_left_comm]⟩, ⟨t * j, by simp only [Pt.by_, hj, Int.mul_left_comm]⟩⟩
  · obtain ⟨u, hu, rfl⟩ := List.mem_map.mp hq
    have := h.sz u hu
    simp only [Pt.by_, Int.natAbs_mul, Int.natAbs_natCast]
    exact ⟨Nat.mul_le_mul_left _ this.1, Nat.mul_le_mul_left _ this.2⟩
theorem Gd.turn {n : Nat} {d : Int} {B : Nat} {a : Mix} (h : Gd n d B a) : Gd n d B (Mix.turn a) := by
  refine ⟨by rw [Mix.turn, List.length_map, h.len], fun q hq => ?_, fun q hq => ?_⟩
  · obtain ⟨u, hu, rfl⟩ := List.mem_map.mp hq
    obtain ⟨⟨i, hi⟩, ⟨j, hj⟩⟩ := h.dv u hu
    exact ⟨⟨-j, by simp only [Pt.turn, hj, Int.mul_neg]⟩, ⟨i, by simp only [Pt.turn, hi]⟩⟩
  · obtain ⟨u, hu, rfl⟩ := List.mem_map.mp hq
    have := h.sz u hu
    simp only [Pt.turn]
    omega
theorem Gd.half {n : Nat} {d : Int} {B : Nat} {a : Mix} (h : Gd n (d * 2) B a) : Gd n d B (Mix.half a) := by
  refine ⟨by rw [Mix.half, List.length_map, h.len], fun q hq => ?_, fun q hq => ?_⟩
  · obtain ⟨u, hu, rfl⟩ := List.mem_map.mp hq
    obtain ⟨⟨i, hi⟩, ⟨j, hj⟩⟩ := h.dv u hu
    refine ⟨⟨i, ?_⟩, ⟨j, ?_⟩⟩
    · simp only [Pt.half, hi]
      rw [Int.mul_assoc, Int.mul_left_comm]
      omega
    · simp only [Pt.half, hj]
      rw [Int.mul_assoc, Int.mul_left_comm]
      omega
  · obtain ⟨u, hu, rfl⟩ := List.mem_map.mp hq
    have := h.sz u hu
    simp only [Pt.half]
    omega
theorem Gd.zero (n : Nat) (d : Int) (B : Nat) : Gd n d B (List.replicate n ⟨0, 0⟩) := by
  refine ⟨List.length_replicate, fun q hq => ?_, fun q hq => ?_⟩
  · obtain rfl := (List.mem_replicate.mp hq).2
    exact ⟨⟨0, by simp⟩, ⟨0, by simp⟩⟩
  · obtain rfl := (List.mem_replicate.mp hq).2
    exact ⟨Nat.zero_le _, Nat.zero_le _⟩
theorem Gd.mark (n k : Nat) (d e : Int) (B : Nat) (he : d * e = 256) (hB : 256 ≤ B) : Gd n d B ((mixes n).mark k) := by
  refine ⟨by simp [mixes], fun q hq => ?_, fun q hq => ?_⟩
  · obtain ⟨i, _, rfl⟩ := List.mem_map.mp hq
    split
    · exact ⟨⟨e, he.symm⟩, ⟨0, by simp⟩⟩
    · exact ⟨⟨0, by simp⟩, ⟨0, by simp⟩⟩
  · obtain ⟨i, _, rfl⟩ := List.mem_map.mp hq
    split
    · exact ⟨hB, Nat.zero_le _⟩
    · exact ⟨Nat.zero_le _, Nat.zero_le _⟩

/-! ### the walk -/
structure WGd (n : Nat) (d : Int) (B : Nat) (w : Walk Mix) : Prop where
  here : Gd n d B w.here
  way : Gd n d B w.way
  pegs : ∀ m ∈ w.pegs, Gd n d B m
structure WEv (l : List Pt) (w : Walk Mix) (v : Walk Pt) : Prop where
  here : v.here = ev w.here l
  way : v.way = ev w.way l
  pegs : v.pegs = w.pegs.map fun m => ev m l
theorem getD_all {P : Mix → Prop} {z : Mix} (hz : P z) : ∀ {l : List Mix} (j : Nat), (∀ m ∈ l, P m) → P (l.getD j z)
  | [], j, _ => by cases j <;> exact hz
  | m :: l, 0, h => h m List.mem_cons_self
  | m :: l, j + 1, h => by
    have := getD_all (P := P) hz (l := l) j (fun x hx => h x (List.mem_cons_of_mem _ hx))
    simpa using this
theorem getD_map (l : List Pt) (n : Nat) : ∀ (pegs : List Mix) (j : Nat), (pegs.map fun m => ev m l).getD j ⟨0, 0⟩ = ev (pegs.getD j (List.replicate n ⟨0, 0⟩)) l
  | [], j => by simp [ev_zero]
  | m :: r, 0 => by simp
  | m :: r, j + 1 => by simpa using getD_map l n r j
/-- is it one of the sayings that halve -/
def halfish : Say → Bool
  | .half => true
  | .between _ _ => true
  | _ => false
theorem halves_cons (s : Say) (t : Text) : halves (s :: t) = (if halfish s = true then 1 else 0) + halves t := by
  cases s <;> simp [halves, halfish] <;> omega
theorem turned_gd {n : Nat} {d : Int} {B : Nat} : ∀ (t : Nat) {a : Mix}, Gd n d B a → Gd n d B (turned (mixes n) t a)
  | 0, _, h => h
  | t + 1, _, h => (turned_gd t h).turn
theorem turned_ev (l : List Pt) (n : Nat) : ∀ (t : Nat) (a : Mix), ev (turned (mixes n) t a) l = turned (land l) t (ev a l)
  | 0, _ => rfl
  | t + 1, a => by
    show ev (Mix.turn (turned (mixes n) t a)) l = Pt.turn (turned (land l) t (ev a l))
    rw [ev_turn, turned_ev l n t a]
/-- how often a saying goes on -/
def onOk : Say → Prop
  | .on q => q ≤ 3
  | _ => True
theorem does_gd {n : Nat} {d e : Int} {B : Nat} {w : Walk Mix} (s : Say) (h : WGd n (d * (if halfish s = true then 2 else 1)) B w) (he : (d * (if halfish s = true then 2 else 1)) * e = 256) (hB : 256 ≤ B) (ho : onOk s) : WGd n d (4 * B) (does (mixes n) w s) := by
  have up : ∀ {m : Mix}, Gd n (d * (if halfish s = true then 2 else 1)) B m → Gd n d (4 * B) m := fun g => g.mono (by omega)
  have he' : d * ((if halfish s = true then 2 else 1) * e) = 256 := by rw [← Int.mul_assoc]; exact he
  cases s with
  | stand k => exact ⟨Gd.mark n k d _ _ he' (by omega), Gd.zero n d _, fun m hm => up (h.pegs m hm)⟩
  | to k =>
    refine ⟨Gd.mark n k d _ _ he' (by omega), ?_, fun m hm => up (h.pegs m hm)⟩
    exact ((Gd.mark n k _ e B he hB).sub h.here).mono (by omega)
  | back j =>
    have g : Gd n _ B (w.pegs.getD j (mixes n).zero) := getD_all (Gd.zero n _ B) j h.pegs
    exact ⟨up g, (g.sub h.here).mono (by omega), fun m hm => up (h.pegs m hm)⟩
  | turn t => exact ⟨up h.here, up (turned_gd t h.way), fun m hm => up (h.pegs m hm)⟩
  | on q =>
    refine ⟨?_, up h.way, fun m hm => up (h.pegs m hm)⟩
    have hq : q ≤ 3 := ho
    have : q * B ≤ 3 * B := Nat.mul_le_mul_right B hq
    exact (h.here.add (h.way.by_ q)).mono (by omega)
  | half =>
    have hh : Gd n (d * 2) B w.here := h.here
    have hw : Gd n (d * 2) B w.way := h.way
    exact ⟨((Gd.mono hh (Nat.le_refl B)).add (Gd.half hw)).up (by omega), up h.way, fun m hm => up (h.pegs m hm)⟩
  | peg =>
    refine ⟨up h.here, up h.way, fun m hm => ?_⟩
    rcases List.mem_append.mp hm with hm | hm
    · exact up (h.pegs m hm)
    · obtain rfl := List.mem_singleton.mp hm
      exact up h.here
  | between j k =>
    have g1 : Gd n (d * 2) B (w.pegs.getD j (mixes n).zero) := getD_all (Gd.zero n _ B) j h.pegs
    have g2 : Gd n (d * 2) B (w.pegs.getD k (mixes n).zero) := getD_all (Gd.zero n _ B) k h.pegs
    have g := Gd.half (g1.add g2)
    have hh : Gd n (d * 2) B w.here := h.here
    exact ⟨g.up (by omega), (g.sub (Gd.mono hh (Nat.le_refl B))).up (by omega), fun m hm => up (h.pegs m hm)⟩
theorem does_ev {l : List Pt} {d : Int} {B : Nat} {w : Walk Mix} {v : Walk Pt} (s : Say) (h : WGd l.length (d * (if halfish s = true then 2 else 1)) B w) (k : WEv l w v) : WEv l (does (mixes l.length) w s) (does (land l) v s) := by
  have go : ∀ {m : Mix} {p : Pt}, m.length = l.length → p = ev m l → WEv l (goTo (mixes l.length) w m) (goTo (land l) v p) := fun {m p} hm hp =>
    ⟨hp, by show Pt.sub p v.here = ev (Mix.sub m w.here) l; rw [ev_sub l _ _ hm h.here.len, k.here, hp], k.pegs⟩
  have peg : ∀ j, v.pegs.getD j (land l).zero = ev (w.pegs.getD j (mixes l.length).zero) l := fun j => by
    rw [k.pegs]
    exact getD_map l l.length w.pegs j
  have pl : ∀ j, (w.pegs.getD j (mixes l.length).zero).length = l.length := fun j =>
    (getD_all (P := fun m => Gd l.length _ B m) (Gd.zero _ _ _) j h.pegs).len
  cases s with
  | stand i => exact ⟨(ev_mark l i PARTS).symm, (ev_zero l l.length).symm, k.pegs⟩
  | to i => exact go (by simp [mixes]) (ev_mark l i PARTS).symm
  | back j => exact go (pl j) (peg j)
  | turn t => exact ⟨k.here, by show turned (land l) t v.way = ev (turned (mixes l.length) t w.way) l; rw [turned_ev, k.way], k.pegs⟩
  | on q =>
    refine ⟨?_, k.way, k.pegs⟩
    show Pt.add v.here (Pt.by_ q v.way) = ev (Mix.add w.here (Mix.by_ q w.way)) l
    rw [ev_add l _ _ h.here.len (by rw [Mix.by_, List.length_map, h.way.len]), ev_by, k.here, k.way]
  | half =>
    refine ⟨?_, k.way, k.pegs⟩
    have hw : Gd l.length (d * 2) B w.way := h.way
    have h2 : Dv 2 w.way := Dv.of (d := 2) (e := d) (by rw [Int.mul_comm]; exact hw.dv)
    show Pt.add v.here (Pt.half v.way) = ev (Mix.add w.here (Mix.half w.way)) l
    rw [ev_add l _ _ h.here.len (by rw [Mix.half, List.length_map, h.way.len]), (ev_half l _ h2).1, k.here, k.way]
  | peg =>
    refine ⟨k.here, k.way, ?_⟩
    show v.pegs ++ [v.here] = (w.pegs ++ [w.here]).map _
    rw [List.map_append, k.pegs, k.here]
    rfl
  | between i j =>
    have g1 : Gd l.length (d * 2) B (w.pegs.getD i (mixes l.length).zero) := getD_all (Gd.zero _ _ B) i h.pegs
    have g2 : Gd l.length (d * 2) B (w.pegs.getD j (mixes l.length).zero) := getD_all (Gd.zero _ _ B) j h.pegs
    have g := g1.add g2
    have h2 : Dv 2 (Mix.add (w.pegs.getD i (mixes l.length).zero) (w.pegs.getD j (mixes l.length).zero)) := Dv.of (d := 2) (e := d) (by rw [Int.mul_comm]; exact g.dv)
    refine go (by show (Mix.half _).length = _; rw [Mix.half, List.length_map]; exact g.len) ?_
    show Pt.half (Pt.add (v.pegs.getD i (land l).zero) (v.pegs.getD j (land l).zero)) = ev (Mix.half (Mix.add _ _)) l
    rw [(ev_half l _ h2).1, ev_add l _ _ (pl i) (pl j), peg i, peg j]
theorem fold_gd {n : Nat} : ∀ (t : Text) (h B : Nat) (w : Walk Mix), halves t ≤ h → h ≤ 8 → (∀ s ∈ t, onOk s) → 256 ≤ B → WGd n ((2 : Int) ^ h) B w → WGd n 1 (4 ^ t.length * B) (t.foldl (does (mixes n)) w)
  | [], h, B, w, _, _, _, _, g => by
    have up : ∀ {m : Mix}, Gd n ((2 : Int) ^ h) B m → Gd n 1 (4 ^ 0 * B) m := fun x => Gd.mono (d := 1) (e := (2 : Int) ^ h) (by rw [Int.one_mul]; exact x) (by omega)
    exact ⟨up g.here, up g.way, fun m hm => up (g.pegs m hm)⟩
  | s :: t, h, B, w, hh, h8, ho, hB, g => by
    rw [halves_cons] at hh
    have key : ∃ h', halves t ≤ h' ∧ h' ≤ 8 ∧ (2 : Int) ^ h = (2 : Int) ^ h' * (if halfish s = true then 2 else 1) := by
      by_cases c : halfish s = true
      · rw [if_pos c] at hh ⊢
        refine ⟨h - 1, by omega, by omega, ?_⟩
        rw [← Int.pow_succ]
        congr 1
        omega
      · rw [if_neg c] at hh ⊢
        exact ⟨h, by omega, h8, by rw [Int.mul_one]⟩
    obtain ⟨h', a1, a2, a3⟩ := key
    have e8 : ((2 : Int) ^ h' * (if halfish s = true then 2 else 1)) * (2 : Int) ^ (8 - h) = 256 := by
      rw [← a3, ← Int.pow_add, show h + (8 - h) = 8 by omega]
      decide
    rw [a3] at g
    have st := does_gd (e := (2 : Int) ^ (8 - h)) s g e8 hB (ho s List.mem_cons_self)
    have ih := fold_gd t h' (4 * B) _ a1 a2 (fun x hx => ho x (List.mem_cons_of_mem _ hx)) (by omega) st
    rw [List.foldl_cons, List.length_cons, Nat.pow_succ, Nat.mul_assoc]
    exact ih
theorem fold_ev {l : List Pt} : ∀ (t : Text) (h B : Nat) (w : Walk Mix) (v : Walk Pt), halves t ≤ h → h ≤ 8 → (∀ s ∈ t, onOk s) → 256 ≤ B → WGd l.length ((2 : Int) ^ h) B w → WEv l w v → WEv l (t.foldl (does (mixes l.length)) w) (t.foldl (does (land l)) v)
  | [], h, B, w, v, _, _, _, _, g, k => k
  | s :: t, h, B, w, v, hh, h8, ho, hB, g, k => by
    rw [halves_cons] at hh
    have key : ∃ h', halves t ≤ h' ∧ h' ≤ 8 ∧ (2 : Int) ^ h = (2 : Int) ^ h' * (if halfish s = true then 2 else 1) := by
      by_cases c : halfish s = true
      · rw [if_pos c] at hh ⊢
        refine ⟨h - 1, by omega, by omega, ?_⟩
        rw [← Int.pow_succ]
        congr 1
        omega
      · rw [if_neg c] at hh ⊢
        exact ⟨h, by omega, h8, by rw [Int.mul_one]⟩
    obtain ⟨h', a1, a2, a3⟩ := key
    have e8 : ((2 : Int) ^ h' * (if halfish s = true then 2 else 1)) * (2 : Int) ^ (8 - h) = 256 := by
      rw [← a3, ← Int.pow_add, show h + (8 - h) = 8 by omega]
      decide
    rw [a3] at g
    have st := does_gd (e := (2 : Int) ^ (8 - h)) s g e8 hB (ho s List.mem_cons_self)
    exact fold_ev t h' (4 * B) _ _ a1 a2 (fun x hx => ho x (List.mem_cons_of_mem _ hx)) (by omega) st (does_ev s g k)
theorem start_gd (n : Nat) : WGd n ((2 : Int) ^ 8) 256 ⟨(mixes n).zero, (mixes n).zero, []⟩ := ⟨Gd.zero n _ _, Gd.zero n _ _, fun m hm => by simp at hm⟩
theorem walked_gd (n : Nat) (t : Text) (h : halves t ≤ 8) (ho : ∀ s ∈ t, onOk s) : WGd n 1 (4 ^ t.length * 256) (walked (mixes n) t) :=
  fold_gd t 8 256 _ h (Nat.le_refl _) ho (Nat.le_refl _) (start_gd n)
/-- THE TREASURE BY THE MIX -/
theorem treasure_ev (l : List Pt) (t : Text) (h : halves t ≤ 8) (ho : ∀ s ∈ t, onOk s) : treasure l t = ev (mix l.length t) l :=
  (fold_ev t 8 256 _ _ h (Nat.le_refl _) ho (Nat.le_refl _) (start_gd l.length) ⟨(ev_zero l l.length).symm, (ev_zero l l.length).symm, rfl⟩).here
end Gk
namespace Gk
open Mu51

/-! ### sayings and landmarks as they are handed in -/
def encS : Say → List Int
  | .stand k => [0, (k : Int)]
  | .to k => [1, (k : Int)]
  | .back j => [2, (j : Int)]
  | .turn t => [3, (t : Int)]
  | .on n => [4, (n : Int)]
  | .half => [5]
  | .peg => [6]
  | .between j k => [7, (j : Int), (k : Int)]
def encT (t : Text) : List (List Int) := t.map encS
def encM : Option Pt → List Int
  | none => []
  | some p => [p.x, p.y]
theorem sayOf_enc (s : Say) : sayOf (encS s) = some s := by
  cases s <;> simp [encS, sayOf]
theorem encS_inv {l : List Int} {s : Say} (hn : ∀ x ∈ l, (0 : Int) ≤ x) (h : sayOf l = some s) : l = encS s := by
  unfold sayOf at h
  split at h <;> first
    | (cases h; done)
    | (have e := Option.some.inj h
       subst e
       simp only [List.mem_cons, List.not_mem_nil, or_false, forall_eq_or_imp, forall_eq] at hn
       simp only [encS, Int.toNat_of_nonneg, hn])
theorem sayOf_ne {l : List Int} (h : sayOf l = none) (s : Say) : l ≠ encS s := fun e => by
  rw [e, sayOf_enc] at h
  cases h
theorem mapM_cons_eq {α β : Type} (f : α → Option β) (a : α) (l : List α) : (a :: l).mapM f = (match f a with
    | none => none
    | some b => match l.mapM f with
      | none => none
      | some r => some (b :: r)) := by
  rw [List.mapM_cons]
  cases f a with
  | none => rfl
  | some b =>
    cases l.mapM f with
    | none => rfl
    | some r => rfl
theorem mapM_encT : ∀ (t : Text), (encT t).mapM sayOf = some t
  | [] => rfl
  | s :: t => by
    show (encS s :: encT t).mapM sayOf = some (s :: t)
    rw [mapM_cons_eq, sayOf_enc, mapM_encT t]
theorem mapM_inv : ∀ {ls : List (List Int)} {t : Text}, (∀ l ∈ ls, ∀ x ∈ l, (0 : Int) ≤ x) → ls.mapM sayOf = some t → ls = encT t
  | [], t, _, h => by
    have e : [] = t := Option.some.inj h
    subst e
    rfl
  | l :: ls, t, hn, h => by
    rw [mapM_cons_eq] at h
    cases e1 : sayOf l with
    | none => rw [e1] at h; cases h
    | some s =>
      rw [e1] at h
      cases e2 : ls.mapM sayOf with
      | none => rw [e2] at h; cases h
      | some r =>
        rw [e2] at h
        have e : s :: r = t := Option.some.inj h
        subst e
        have a := encS_inv (hn l List.mem_cons_self) e1
        have b := mapM_inv (fun x hx => hn x (List.mem_cons_of_mem _ hx)) e2
        rw [a, b]
        rfl
theorem mapM_none : ∀ {ls : List (List Int)}, ls.mapM sayOf = none → ∃ l ∈ ls, sayOf l = none
  | [], h => by cases h
  | l :: ls, h => by
    rw [mapM_cons_eq] at h
    cases e1 : sayOf l with
    | none => exact ⟨l, List.mem_cons_self, e1⟩
    | some s =>
      rw [e1] at h
      cases e2 : ls.mapM sayOf with
      | none =>
        obtain ⟨x, hx, e⟩ := mapM_none e2
        exact ⟨x, List.mem_cons_of_mem _ hx, e⟩
      | some r => rw [e2] at h; cases h

/-! ### is it a text -/
def isStand : Say → Bool
  | .stand _ => true
  | _ => false
/-- how long a saying of a sort is -/
def sayLen : List Nat := [2, 2, 2, 2, 2, 1, 1, 3]
theorem encS_head (s : Say) : ∃ (h : Nat) (r : List Int), encS s = (h : Int) :: r ∧ h < 8 ∧ sayLen[h]? = some (r.length + 1) ∧ (h = 0 ↔ isStand s = true) := by
  cases s with
  | stand k => exact ⟨0, [(k : Int)], rfl, by decide, rfl, by simp [isStand]⟩
  | to k => exact ⟨1, [(k : Int)], rfl, by decide, rfl, by simp [isStand]⟩
  | back k => exact ⟨2, [(k : Int)], rfl, by decide, rfl, by simp [isStand]⟩
  | turn k => exact ⟨3, [(k : Int)], rfl, by decide, rfl, by simp [isStand]⟩
  | on k => exact ⟨4, [(k : Int)], rfl, by decide, rfl, by simp [isStand]⟩
  | half => exact ⟨5, [], rfl, by decide, rfl, by simp [isStand]⟩
  | peg => exact ⟨6, [], rfl, by decide, rfl, by simp [isStand]⟩
  | between j k => exact ⟨7, [(j : Int), (k : Int)], rfl, by decide, rfl, by simp [isStand]⟩
/-- what the sort and the length tell -/
theorem sayOf_some_of {h : Nat} {r : List Int} (e : sayLen[h]? = some (r.length + 1)) : (sayOf ((h : Int) :: r)).isSome = true := by
  match h, r, e with
  | 0, [_], _ => rfl
  | 1, [_], _ => rfl
  | 2, [_], _ => rfl
  | 3, [_], _ => rfl
  | 4, [_], _ => rfl
  | 5, [], _ => rfl
  | 6, [], _ => rfl
  | 7, [_, _], _ => rfl
  | 0, [], e => simp [sayLen] at e
  | 1, [], e => simp [sayLen] at e
  | 2, [], e => simp [sayLen] at e
  | 3, [], e => simp [sayLen] at e
  | 4, [], e => simp [sayLen] at e
  | 7, [], e => simp [sayLen] at e
  | 0, _ :: _ :: _, e => simp [sayLen] at e
  | 1, _ :: _ :: _, e => simp [sayLen] at e
  | 2, _ :: _ :: _, e => simp [sayLen] at e
  | 3, _ :: _ :: _, e => simp [sayLen] at e
  | 4, _ :: _ :: _, e => simp [sayLen] at e
  | 5, _ :: _, e => simp [sayLen] at e
  | 6, _ :: _, e => simp [sayLen] at e
  | 7, [_], e => simp [sayLen] at e
  | 7, _ :: _ :: _ :: _, e => simp [sayLen] at e
  | n + 8, _, e => simp [sayLen] at e
theorem sayOf_isSome {h : Nat} {r : List Int} (hn : ∀ x ∈ r, (0 : Int) ≤ x) : (sayOf ((h : Int) :: r)).isSome = decide (sayLen[h]? = some (r.length + 1)) := by
  cases q : sayOf ((h : Int) :: r) with
  | none =>
    have : ¬ sayLen[h]? = some (r.length + 1) := fun e => by
      have := sayOf_some_of e
      rw [q] at this
      cases this
    rw [decide_eq_false this]
    rfl
  | some s =>
    have e := encS_inv (fun x hx => (List.mem_cons.mp hx).elim (fun z => by rw [z]; omega) (hn x)) q
    obtain ⟨h', r', e', _, e3, _⟩ := encS_head s
    rw [e'] at e
    have e1 := (List.cons.inj e).1
    have e2 := (List.cons.inj e).2
    have e4 : h = h' := by omega
    subst e4 e2
    rw [decide_eq_true e3]
    rfl
/-- the i-th saying is a good one there -/
def goodAt (i : Nat) (l : List Int) : Bool := match sayOf l with
  | none => false
  | some s => isStand s == decide (i = 0)
def allGood : Nat → List (List Int) → Bool
  | _, [] => true
  | i, l :: r => goodAt i l && allGood (i + 1) r
def textOk (ls : List (List Int)) : Bool := decide (1 ≤ ls.length) && decide (ls.length ≤ 14) && allGood 0 ls
theorem allGood_succ : ∀ (t : Text) (i : Nat), allGood (i + 1) (encT t) = t.all fun s => !(isStand s)
  | [], _ => rfl
  | s :: t, i => by
    show (goodAt (i + 1) (encS s) && allGood (i + 1 + 1) (encT t)) = _
    rw [allGood_succ t (i + 1), List.all_cons, goodAt, sayOf_enc]
    simp
theorem stands_eq (t : Text) : stands t = (decide (1 ≤ t.length) && allGood 0 (encT t)) := by
  cases t with
  | nil => rfl
  | cons s r =>
    show stands (s :: r) = (decide (1 ≤ r.length + 1) && (goodAt 0 (encS s) && allGood 1 (encT r)))
    rw [allGood_succ r 0, goodAt, sayOf_enc]
    have hf : (fun s : Say => match s with | .stand _ => false | _ => true) = fun s => !(isStand s) := by
      funext s
      cases s <;> rfl
    cases s <;> simp [stands, isStand]
    congr 1
theorem allGood_none : ∀ {ls : List (List Int)} {l : List Int}, l ∈ ls → sayOf l = none → ∀ i, allGood i ls = false
  | [], l, h, _, _ => by cases h
  | a :: r, l, h, e, i => by
    rcases List.mem_cons.mp h with rfl | h
    · simp [allGood, goodAt, e]
    · simp [allGood, allGood_none h e (i + 1)]
/-- A TEXT: as the specification has it -/
theorem textOk_some {ls : List (List Int)} (hn : ∀ l ∈ ls, ∀ x ∈ l, (0 : Int) ≤ x) (h : textOk ls = true) : ∃ t, ls = encT t ∧ ls.mapM sayOf = some t ∧ ¬ (LONG < t.length ∨ stands t = false) := by
  unfold textOk at h
  simp only [Bool.and_eq_true, decide_eq_true_eq] at h
  cases q : ls.mapM sayOf with
  | none =>
    obtain ⟨l, hl, e⟩ := mapM_none q
    rw [allGood_none hl e 0] at h
    simp at h
  | some t =>
    have e := mapM_inv hn q
    subst e
    refine ⟨t, rfl, rfl, ?_⟩
    have el : (encT t).length = t.length := List.length_map _
    rw [el] at h
    rw [stands_eq, decide_eq_true h.1.1, h.2]
    show ¬ (14 < t.length ∨ _)
    simp
    omega
theorem textOk_false {ls : List (List Int)} (hn : ∀ l ∈ ls, ∀ x ∈ l, (0 : Int) ≤ x) (h : textOk ls = false) : ls.mapM sayOf = none ∨ ∃ t, ls.mapM sayOf = some t ∧ (LONG < t.length ∨ stands t = false) := by
  cases q : ls.mapM sayOf with
  | none => exact .inl rfl
  | some t =>
    have e := mapM_inv hn q
    subst e
    refine .inr ⟨t, rfl, ?_⟩
    unfold textOk at h
    have el : (encT t).length = t.length := List.length_map _
    rw [el] at h
    rw [stands_eq]
    show 14 < t.length ∨ _
    by_cases c : 14 < t.length
    · exact .inl c
    · right
      rw [decide_eq_true (show t.length ≤ 14 by omega), Bool.and_true] at h
      exact h

/-! ### can a saying be followed -/
def okSay (n p : Nat) : Say → Bool
  | .stand k => decide (k < n)
  | .to k => decide (k < n)
  | .back j => decide (j < p)
  | .turn q => decide (1 ≤ q) && decide (q ≤ 3)
  | .on q => decide (1 ≤ q) && decide (q ≤ 3)
  | .half => true
  | .peg => true
  | .between j k => decide (j < p) && decide (k < p)
def isPeg : Say → Bool
  | .peg => true
  | _ => false
def pegs' (p : Nat) (s : Say) : Nat := if isPeg s = true then p + 1 else p
theorem wrongAt_cons (n i p : Nat) (s : Say) (t : Text) : wrongAt n i p (s :: t) = if okSay n p s = true then wrongAt n (i + 1) (pegs' p s) t else some i := by
  cases s with
  | stand k => by_cases c : k < n <;> simp [wrongAt, okSay, pegs', isPeg, c, Nat.not_le.mpr, Nat.le_of_not_lt]
  | to k => by_cases c : k < n <;> simp [wrongAt, okSay, pegs', isPeg, c, Nat.not_le.mpr, Nat.le_of_not_lt]
  | back k => by_cases c : k < p <;> simp [wrongAt, okSay, pegs', isPeg, c, Nat.not_le.mpr, Nat.le_of_not_lt]
  | turn q =>
    by_cases c : q < 1 ∨ 3 < q
    · have : ¬ ((1 ≤ q) ∧ (q ≤ 3)) := by omega
      simp only [wrongAt, okSay, pegs', isPeg, Bool.and_eq_true, decide_eq_true_eq, if_pos c, if_neg this]
    · have : ((1 ≤ q) ∧ (q ≤ 3)) := by omega
      simp only [wrongAt, okSay, pegs', isPeg, Bool.and_eq_true, decide_eq_true_eq, if_neg c, if_pos this]
      rfl
  | on q =>
    by_cases c : q < 1 ∨ 3 < q
    · have : ¬ ((1 ≤ q) ∧ (q ≤ 3)) := by omega
      simp only [wrongAt, okSay, pegs', isPeg, Bool.and_eq_true, decide_eq_true_eq, if_pos c, if_neg this]
    · have : ((1 ≤ q) ∧ (q ≤ 3)) := by omega
      simp only [wrongAt, okSay, pegs', isPeg, Bool.and_eq_true, decide_eq_true_eq, if_neg c, if_pos this]
      rfl
  | half => rfl
  | peg => rfl
  | between j k =>
    by_cases c : p ≤ j ∨ p ≤ k
    · have : ¬ ((j < p) ∧ (k < p)) := by omega
      simp only [wrongAt, okSay, pegs', isPeg, Bool.and_eq_true, decide_eq_true_eq, if_pos c, if_neg this]
    · have : ((j < p) ∧ (k < p)) := by omega
      simp only [wrongAt, okSay, pegs', isPeg, Bool.and_eq_true, decide_eq_true_eq, if_neg c, if_pos this]
      rfl
/-- pegs driven ahead of the i-th saying -/
def pegsAt (t : Text) (i : Nat) : Nat := (t.take i).foldl pegs' 0
theorem take_succ_get {α : Type} : ∀ {l : List α} {i : Nat} {x : α}, l[i]? = some x → l.take (i + 1) = l.take i ++ [x]
  | [], i, x, h => by simp at h
  | a :: l, 0, x, h => by
    have e : a = x := by simpa using h
    subst e
    rfl
  | a :: l, i + 1, x, h => by
    have ih := take_succ_get (l := l) (i := i) (x := x) (by simpa using h)
    rw [List.take_succ_cons, List.take_succ_cons, ih, List.cons_append]
theorem drop_get {α : Type} : ∀ {l : List α} {i : Nat} {x : α}, l[i]? = some x → l.drop i = x :: l.drop (i + 1)
  | [], i, x, h => by simp at h
  | a :: l, 0, x, h => by
    have e : a = x := by simpa using h
    subst e
    rfl
  | a :: l, i + 1, x, h => by
    have ih := drop_get (l := l) (i := i) (x := x) (by simpa using h)
    rw [List.drop_succ_cons, List.drop_succ_cons, ih]
theorem pegsAt_succ {t : Text} {i : Nat} {s : Say} (h : t[i]? = some s) : pegsAt t (i + 1) = pegs' (pegsAt t i) s := by
  unfold pegsAt
  rw [take_succ_get h, List.foldl_append]
  rfl
/-- the first i sayings can be followed: the rest tells -/
def Fol (n : Nat) (t : Text) (i : Nat) : Prop := wrongAt n 0 0 t = wrongAt n i (pegsAt t i) (t.drop i)
theorem Fol.zero (n : Nat) (t : Text) : Fol n t 0 := rfl
theorem Fol.succ {n : Nat} {t : Text} {i : Nat} {s : Say} (f : Fol n t i) (h : t[i]? = some s) (ok : okSay n (pegsAt t i) s = true) : Fol n t (i + 1) := by
  unfold Fol at f ⊢
  rw [f, drop_get h, wrongAt_cons, if_pos ok, pegsAt_succ h]
theorem Fol.bad {n : Nat} {t : Text} {i : Nat} {s : Say} (f : Fol n t i) (h : t[i]? = some s) (no : okSay n (pegsAt t i) s = false) : wrongAt n 0 0 t = some i := by
  unfold Fol at f
  rw [f, drop_get h, wrongAt_cons, if_neg (by rw [no]; simp)]
theorem Fol.ends {n : Nat} {t : Text} (f : Fol n t t.length) : wrongAt n 0 0 t = none := by
  unfold Fol at f
  rw [f, List.drop_length]
  rfl
theorem Fol.of_none {n : Nat} {t : Text} (h : wrongAt n 0 0 t = none) : ∀ i, i ≤ t.length → Fol n t i
  | 0, _ => Fol.zero n t
  | i + 1, hi => by
    have f := Fol.of_none h i (by omega)
    have hs : t[i]? = some t[i] := List.getElem?_eq_getElem (by omega)
    cases ok : okSay n (pegsAt t i) t[i] with
    | true => exact f.succ hs ok
    | false =>
      have := f.bad hs ok
      rw [h] at this
      cases this
theorem ok_of_none {n : Nat} {t : Text} (h : wrongAt n 0 0 t = none) {i : Nat} {s : Say} (hs : t[i]? = some s) : okSay n (pegsAt t i) s = true := by
  have hi : i < t.length := (List.getElem?_eq_some_iff.mp hs).1
  have f := Fol.of_none h i (by omega)
  cases ok : okSay n (pegsAt t i) s with
  | true => rfl
  | false =>
    have := f.bad hs ok
    rw [h] at this
    cases this
theorem onOk_of {n : Nat} {t : Text} (h : wrongAt n 0 0 t = none) : ∀ s ∈ t, onOk s := fun s hs => by
  obtain ⟨i, hi⟩ := List.getElem?_of_mem hs
  have := ok_of_none h hi
  cases s with
  | on q => simp [okSay] at this; exact this.2
  | _ => trivial
theorem wrongAt_ge {n : Nat} : ∀ (t : Text) (i p j : Nat), wrongAt n i p t = some j → i ≤ j ∧ j < i + t.length
  | [], i, p, j, h => by cases h
  | s :: t, i, p, j, h => by
    rw [wrongAt_cons] at h
    by_cases c : okSay n p s = true
    · rw [if_pos c] at h
      have := wrongAt_ge t (i + 1) _ j h
      rw [List.length_cons]
      omega
    · rw [if_neg c] at h
      have e : i = j := Option.some.inj h
      rw [List.length_cons]
      omega
/-- the walk of the first i sayings -/
def walkAt (n : Nat) (t : Text) (i : Nat) : Walk Mix := walked (mixes n) (t.take i)
theorem walkAt_succ {n : Nat} {t : Text} {i : Nat} {s : Say} (h : t[i]? = some s) : walkAt n t (i + 1) = does (mixes n) (walkAt n t i) s := by
  unfold walkAt walked
  rw [take_succ_get h, List.foldl_append]
  rfl
theorem does_pegs {n : Nat} (w : Walk Mix) (s : Say) : (does (mixes n) w s).pegs.length = pegs' w.pegs.length s := by
  cases s <;> simp [does, goTo, pegs', isPeg]
theorem walkAt_pegs (n : Nat) (t : Text) : ∀ i, i ≤ t.length → (walkAt n t i).pegs.length = pegsAt t i
  | 0, _ => rfl
  | i + 1, hi => by
    have hs : t[i]? = some t[i] := List.getElem?_eq_getElem (by omega)
    rw [walkAt_succ hs, does_pegs, walkAt_pegs n t i (by omega), pegsAt_succ hs]
theorem halves_take (t : Text) (i : Nat) : halves (t.take i) ≤ halves t := by
  unfold halves
  exact (List.Sublist.filter _ (List.take_sublist i t)).length_le
/-- the numbers of the walk stay small -/
theorem walkAt_gd {n : Nat} {t : Text} (h : halves t ≤ 8) (hw : ∀ s ∈ t, onOk s) (hl : t.length ≤ 14) (i : Nat) : WGd n 1 (4 ^ 14 * 256) (walkAt n t i) := by
  have g := walked_gd n (t.take i) (Nat.le_trans (halves_take t i) h) (fun s hs => hw s (List.mem_of_mem_take hs))
  have hl' : (t.take i).length ≤ 14 := by rw [List.length_take]; omega
  have hB : 4 ^ (t.take i).length * 256 ≤ 4 ^ 14 * 256 := Nat.mul_le_mul_right _ (Nat.pow_le_pow_right (by decide) hl')
  exact ⟨g.here.up hB, g.way.up hB, fun m hm => (g.pegs m hm).up hB⟩
theorem walkAt_all (n : Nat) (t : Text) : walkAt n t t.length = walked (mixes n) t := by
  unfold walkAt
  rw [List.take_length]
end Gk
namespace Gk
open Mu51

/-! ### lowest terms -/
theorem gcd_step {a b : Nat} : Nat.gcd a b = Nat.gcd b (a % b) := by
  rw [Nat.gcd_comm a b, Nat.gcd_rec b a, Nat.gcd_comm]
/-- what divides all of them, as the program finds it; numbers in lowest terms -/
def gcdL (l : List Int) : Nat := l.foldl (fun g z => Nat.gcd g z.natAbs) 0
def low (l : List Int) : List Int := l.map fun z => z / ((gcdL l : Nat) : Int)
theorem gcdL_snoc (l : List Int) (z : Int) : gcdL (l ++ [z]) = Nat.gcd (gcdL l) z.natAbs := by
  unfold gcdL
  rw [List.foldl_append]
  rfl
theorem gcdL_last (l : List Int) {u : Int} (h : 0 < u) : 0 < gcdL (l ++ [u]) ∧ gcdL (l ++ [u]) ≤ u.natAbs := by
  rw [gcdL_snoc]
  exact ⟨Nat.gcd_pos_of_pos_right _ (by omega), Nat.gcd_le_right _ (by omega)⟩
theorem low_both (e n u : Int) (h : 0 < u) : low [e, n, u] = both ⟨e, n⟩ u := by
  have hg : gcdL [e, n, u] = Nat.gcd (Nat.gcd e.natAbs n.natAbs) u.natAbs := by
    show Nat.gcd (Nat.gcd (Nat.gcd 0 e.natAbs) n.natAbs) u.natAbs = _
    rw [Nat.gcd_zero_left]
  have hs : u.sign = 1 := Int.sign_eq_one_of_pos h
  have hp : 0 < Nat.gcd (Nat.gcd e.natAbs n.natAbs) u.natAbs := Nat.gcd_pos_of_pos_right _ (by omega)
  have hu : (u.natAbs : Int) = u := by omega
  unfold low both
  simp only [hg, hs, Int.mul_one, List.map, hu]
  rw [if_neg (by omega)]
theorem low_lowest (a b : Int) (h : 0 < b) : low [a, b] = [(lowest a b).1, (lowest a b).2] := by
  have hg : gcdL [a, b] = Int.gcd a b := by
    show Nat.gcd (Nat.gcd 0 a.natAbs) b.natAbs = _
    rw [Nat.gcd_zero_left]
    rfl
  have hs : b.sign = 1 := Int.sign_eq_one_of_pos h
  have hu : (b.natAbs : Int) = b := by omega
  unfold low lowest
  rw [if_neg (by omega)]
  simp only [hg, hs, Int.mul_one, List.map, hu]
theorem abs_eq (n : Int) : (if n < 0 then -n else n) = (n.natAbs : Int) := by
  split <;> omega
/-! ### two points are one -/
theorem pt_beq (p q : Pt) : (p == q) = (p.x == q.x && p.y == q.y) := by
  cases p; cases q; rfl
instance : LawfulBEq Pt where
  eq_of_beq := by
    intro a b h
    rw [pt_beq, Bool.and_eq_true] at h
    exact Pt.ext' (eq_of_beq h.1) (eq_of_beq h.2)
  rfl := by
    intro a
    rw [pt_beq, beq_self_eq_true, beq_self_eq_true]
    rfl
end Gk
namespace Gk
open Mu51 (Pt Mix State Text)
/-! ### what may be asked -/
inductive AskC : Int → List Int → List (List Int) → Mu51.Call → Prop
  | begin_ {xs : List (List Int)} (h : ∀ l ∈ xs, l.length ≤ 3) : AskC 0 [] xs (.begin_ xs)
  | text {xs : List (List Int)} (h : ∀ l ∈ xs, ∀ z ∈ l, (0 : Int) ≤ z) : AskC 1 [] xs (.text xs)
  | treasure (t : Nat) : AskC 2 [(t : Int)] [] (.treasure t)
  | needs (t : Nat) : AskC 3 [(t : Int)] [] (.needs t)
  | mix (t k : Nat) : AskC 4 [(t : Int), (k : Int)] [] (.mix t k)
  | same (t u : Nat) : AskC 5 [(t : Int), (u : Int)] [] (.same t u)
  | lost (t k : Nat) (x y : Int) (hx : -2000 ≤ x ∧ x ≤ 2000) (hy : -2000 ≤ y ∧ y ≤ 2000) : AskC 6 [(t : Int), (k : Int), x, y] [] (.lost t k x y)
  | line (t k : Nat) (a b c d : Int) (ha : -2000 ≤ a ∧ a ≤ 2000) (hb : -2000 ≤ b ∧ b ≤ 2000) (hc : -2000 ≤ c ∧ c ≤ 2000) (hd : -2000 ≤ d ∧ d ≤ 2000) : AskC 7 [(t : Int), (k : Int), a, b, c, d] [] (.line t k a b c d)
  | apart (t u : Nat) : AskC 8 [(t : Int), (u : Int)] [] (.apart t u)
  | move (k : Nat) (x y : Int) (hx : -2000 ≤ x ∧ x ≤ 2000) (hy : -2000 ≤ y ∧ y ≤ 2000) : AskC 9 [(k : Int), x, y] [] (.move k x y)
  | gone (k : Nat) : AskC 10 [(k : Int)] [] (.gone k)
  | look : AskC 11 [] [] .look
theorem nine_nat {z : Int} (h : Mu51Neutral.nine z = true) : ∃ n : Nat, z = (n : Int) := by
  unfold Mu51Neutral.nine NeutralIO.within at h
  simp only [Bool.and_eq_true, decide_eq_true_eq] at h
  exact ⟨z.toNat, by omega⟩
theorem far_of {z : Int} (h : Mu51Neutral.far z = true) : -2000 ≤ z ∧ z ≤ 2000 := by
  unfold Mu51Neutral.far NeutralIO.within at h
  simp only [Bool.and_eq_true, decide_eq_true_eq] at h
  exact h
theorem nine_le {z : Int} (h : Mu51Neutral.nine z = true) : 0 ≤ z := by
  obtain ⟨n, rfl⟩ := nine_nat h
  omega
theorem ask_of {p : Int} {nums : List Int} {xs : List (List Int)} (h : Mu51Neutral.asked1 ((p :: nums) :: xs) = true) : ∃ c, AskC p nums xs c ∧ Mu51Neutral.callOf ((p :: nums) :: xs) = some c := by
  unfold Mu51Neutral.asked1 at h
  split at h
  · rename_i l e
    injection e with e1 e2
    injection e1 with e1 e3
    subst e1 e2 e3
    simp only [Bool.and_eq_true, List.all_eq_true, decide_eq_true_eq] at h
    exact ⟨_, .begin_ fun l hl => (h.2 l hl).1, rfl⟩
  · rename_i l e
    injection e with e1 e2
    injection e1 with e1 e3
    subst e1 e2 e3
    simp only [Bool.and_eq_true, List.all_eq_true, decide_eq_true_eq] at h
    exact ⟨_, .text fun l hl z hz => nine_le ((h.2 l hl).2 z hz), rfl⟩
  · rename_i t e
    injection e with e1 e2
    injection e1 with e1 e3
    subst e1 e2 e3
    obtain ⟨t, rfl⟩ := nine_nat h
    exact ⟨_, .treasure t, rfl⟩
  · rename_i t e
    injection e with e1 e2
    injection e1 with e1 e3
    subst e1 e2 e3
    obtain ⟨t, rfl⟩ := nine_nat h
    exact ⟨_, .needs t, rfl⟩
  · rename_i t k e
    injection e with e1 e2
    injection e1 with e1 e3
    subst e1 e2 e3
    simp only [Bool.and_eq_true] at h
    obtain ⟨t, rfl⟩ := nine_nat h.1
    obtain ⟨k, rfl⟩ := nine_nat h.2
    exact ⟨_, .mix t k, rfl⟩
  · rename_i t k e
    injection e with e1 e2
    injection e1 with e1 e3
    subst e1 e2 e3
    simp only [Bool.and_eq_true] at h
    obtain ⟨t, rfl⟩ := nine_nat h.1
    obtain ⟨k, rfl⟩ := nine_nat h.2
    exact ⟨_, .same t k, rfl⟩
  · rename_i t k x y e
    injection e with e1 e2
    injection e1 with e1 e3
    subst e1 e2 e3
    simp only [Bool.and_eq_true] at h
    obtain ⟨t, rfl⟩ := nine_nat h.1
    obtain ⟨k, rfl⟩ := nine_nat h.2.1
    exact ⟨_, .lost t k x y (far_of h.2.2.1) (far_of h.2.2.2), rfl⟩
  · rename_i t k a b c d e
    injection e with e1 e2
    injection e1 with e1 e3
    subst e1 e2 e3
    simp only [Bool.and_eq_true, List.all_cons, List.all_nil, Bool.and_true] at h
    obtain ⟨t, rfl⟩ := nine_nat h.1
    obtain ⟨k, rfl⟩ := nine_nat h.2.1
    exact ⟨_, .line t k a b c d (far_of h.2.2.1) (far_of h.2.2.2.1) (far_of h.2.2.2.2.1) (far_of h.2.2.2.2.2), rfl⟩
  · rename_i t k e
    injection e with e1 e2
    injection e1 with e1 e3
    subst e1 e2 e3
    simp only [Bool.and_eq_true] at h
    obtain ⟨t, rfl⟩ := nine_nat h.1
    obtain ⟨k, rfl⟩ := nine_nat h.2
    exact ⟨_, .apart t k, rfl⟩
  · rename_i k x y e
    injection e with e1 e2
    injection e1 with e1 e3
    subst e1 e2 e3
    simp only [Bool.and_eq_true] at h
    obtain ⟨k, rfl⟩ := nine_nat h.1
    exact ⟨_, .move k x y (far_of h.2.1) (far_of h.2.2), rfl⟩
  · rename_i k e
    injection e with e1 e2
    injection e1 with e1 e3
    subst e1 e2 e3
    obtain ⟨k, rfl⟩ := nine_nat h
    exact ⟨_, .gone k, rfl⟩
  · rename_i e
    injection e with e1 e2
    injection e1 with e1 e3
    subst e1 e2 e3
    exact ⟨_, .look, rfl⟩
  · cases h
/-! ### what is told, call by call -/
def stAt (cs : List (List (List Int))) (i : Nat) : Option State := (cs.take i).foldl (fun s c => (Mu51Neutral.step s c).1) none
def outAt (cs : List (List (List Int))) (i : Nat) : List Int := PyFlat.told (PyFlat.played Mu51Neutral.step none (cs.take i))
theorem stAt_succ {cs : List (List (List Int))} {i : Nat} {c : List (List Int)} (h : cs[i]? = some c) : stAt cs (i + 1) = (Mu51Neutral.step (stAt cs i) c).1 := by
  unfold stAt
  rw [take_succ_get h, List.foldl_append]
  rfl
theorem played_snoc (c : List (List Int)) : ∀ (cs : List (List (List Int))) (s : Option State), PyFlat.played Mu51Neutral.step s (cs ++ [c]) = PyFlat.played Mu51Neutral.step s cs ++ [(Mu51Neutral.step (cs.foldl (fun s c => (Mu51Neutral.step s c).1) s) c).2]
  | [], s => rfl
  | d :: cs, s => by
    show (Mu51Neutral.step s d).2 :: PyFlat.played Mu51Neutral.step (Mu51Neutral.step s d).1 (cs ++ [c]) = _
    rw [played_snoc c cs]
    rfl
theorem outAt_succ {cs : List (List (List Int))} {i : Nat} {c : List (List Int)} (h : cs[i]? = some c) : outAt cs (i + 1) = outAt cs i ++ (((Mu51Neutral.step (stAt cs i) c).2.length : Int) :: (Mu51Neutral.step (stAt cs i) c).2) := by
  unfold outAt PyFlat.told
  rw [take_succ_get h, played_snoc, List.flatMap_append]
  congr 1
  rw [List.flatMap_cons, List.flatMap_nil, List.append_nil]
  rfl
theorem answers_eq {l : List Int} {cs : List (List (List Int))} (h : PyMu51.calls l = some cs) : PyMu51.answers l = outAt cs cs.length := by
  unfold PyMu51.answers outAt
  rw [h, List.take_length]
  rfl
theorem asked_of {l : List Int} (h : PyMu51.answers_asked l = true) : ∃ cs, PyMu51.calls l = some cs ∧ cs.length ≤ 60 ∧ ∀ c ∈ cs, Mu51Neutral.asked1 c = true := by
  unfold PyMu51.answers_asked at h
  split at h
  · cases h
  · rename_i cs e
    simp only [Bool.and_eq_true] at h
    have h2 := h.1.2
    unfold Mu51Neutral.asked at h2
    simp only [Bool.and_eq_true, decide_eq_true_eq, List.all_eq_true] at h2
    exact ⟨cs, e, h2.2.1, h2.2.2⟩
end Gk
namespace Gk
open PySem PySem.Spec PyProof.Rows L2

def topS (i : Nat) : Stmt := PySem.Challenge.pw_goneoak_s01_answers.main.body.getD i (.Pass ⟨0, 0, 0, 0⟩)

/-! ### names of the module -/
theorem pgI {X : Cx} {x : Str} {i : Int} {pos : Pos} (hg : Gl X x) (hm : ∃ t, X.mg x = some (.int i t)) (hd : (x == ("__debug__" : Str)) = false := by decide) : PE X (.Name x pos) (tC (.int i)) := by
  obtain ⟨t, e⟩ := hm
  exact pe_glob hg e ⟨t, rfl⟩ hd
theorem pgR {X : Cx} {x : Str} {a : Addr} {pos : Pos} (hg : Gl X x) (hm : X.mg x = some (.ref a)) (hd : (x == ("__debug__" : Str)) = false := by decide) : PE X (.Name x pos) (tC (.ref a)) := pe_glob hg hm rfl hd

/-! ### what can be called -/
section
variable (P : Program) (w : World) (K : PySem.W.Frag) (mg : Str → Option Value) (base : Heap)
def Cal (k : Nat) (x : Str) (ps : List Str) (sp : Sp) : Prop :=
  ∃ f fd, mg x = some (.ref f) ∧ PySem.W.keepIn K (.ref f) = true ∧ Binds K fd ps [] ∧ FnOk P w K mg base CX0 k f fd ps sp
def CalM (k : Nat) (C : Addr) (m : Str) (ps : List Str) (sp : Sp) : Prop :=
  Cls K C ∧ ∃ f fd, Meth K C m f ∧ Binds K fd ps [] ∧ FnOk P w K mg base CX0 k f fd ps sp
def CalN (k : Nat) (x : Str) (C : Addr) (ps : List Str) (sp : Sp) : Prop :=
  mg x = some (.ref C) ∧ ∃ f fd, Mk K C f ∧ Binds K fd ps [] ∧ FnOk P w K mg base CX0 k f fd ps sp
end
section
variable {X : Cx} {k : Nat} {x m : Str} {C : Addr} {ps : List Str} {sp : Sp} {e o : Expr} {es : List Expr} {t : TA} {ta : TE} {p pos apos : Pos}
theorem pcall (c : Cal X.prog X.w X.K X.mg X.base k x ps sp) (hr : Room k X.A) (hg : Gl X x) (ha : PA X (e :: es) t) (hdb : (x == ("__debug__" : Str)) = false := by decide)
    (he : starEach (e :: es) X.env = (false, eval e X.env) :: starEach es X.env := by rfl) (hpl : (backTo pos (starEach es X.env)).any (·.1) = false := by rfl) :
    PE X (.Call (.Name x p) (e :: es) [] pos) (tCall sp [] E0 t) := by
  obtain ⟨f, fd, h1, h2, h3, h4⟩ := c
  exact pe_call h4 hr hg h1 h2 h3 .nil pass0 ha hdb he hpl
theorem pcall0 (c : Cal X.prog X.w X.K X.mg X.base k x ps sp) (hr : Room k X.A) (hg : Gl X x) (hdb : (x == ("__debug__" : Str)) = false := by decide) : PE X (.Call (.Name x p) [] [] pos) (tCall sp [] E0 tNil) := by
  obtain ⟨f, fd, h1, h2, h3, h4⟩ := c
  exact pe_call0 h4 hr hg h1 h2 h3 .nil pass0 hdb
theorem pmeth {pl : Sem Bool} (ho : PE X o ta) (c : CalM X.prog X.w X.K X.mg X.base k C m ps sp) (hr : Room k X.A) (ha : PA X (e :: es) t)
    (hst : starEach (e :: es) X.env = (false, eval e X.env) :: starEach es X.env := by rfl) (hpl : (backTo pos (starEach es X.env)).any (·.1) = false := by rfl)
    (ht : eval (.Call (.Attribute o m apos) (e :: es) [] pos) X.env = (do
      let ov ← eval o X.env
      standAt apos.atName
      let (f, first) ← holding [ov] (getMethod ov m pl)
      callWith pos f first (backTo pos (starEach (e :: es) X.env)) (backToKw pos (keywordEach [] X.env))) := by rfl) :
    PE X (.Call (.Attribute o m apos) (e :: es) [] pos) (tMeth C m sp [] E0 ta t) := by
  obtain ⟨c1, f, fd, h1, h3, h4⟩ := c
  exact pe_meth ho c1 h1 h4 hr h3 .nil pass0 ha hst hpl ht
theorem pmake (c : CalN X.prog X.w X.K X.mg X.base k x C ps sp) (hr : Room (k + 1) X.A) (hg : Gl X x) (ha : PA X (e :: es) t) (hdb : (x == ("__debug__" : Str)) = false := by decide)
    (he : starEach (e :: es) X.env = (false, eval e X.env) :: starEach es X.env := by rfl) (hpl : (backTo pos (starEach es X.env)).any (·.1) = false := by rfl) :
    PE X (.Call (.Name x p) (e :: es) [] pos) (tMake C sp [] E0 t) := by
  obtain ⟨c1, f, fd, h1, h3, h4⟩ := c
  exact pe_make h1 h4 hr hg c1 h3 .nil pass0 ha hdb he hpl
theorem pmake0 (c : CalN X.prog X.w X.K X.mg X.base k x C ps sp) (hr : Room (k + 1) X.A) (hg : Gl X x) (hdb : (x == ("__debug__" : Str)) = false := by decide) : PE X (.Call (.Name x p) [] [] pos) (tMake C sp [] E0 tNil) := by
  obtain ⟨c1, f, fd, h1, h3, h4⟩ := c
  exact pe_make0 h1 h4 hr hg c1 h3 .nil pass0 hdb
end

/-! ### heaps -/
theorem same_upd {H : Hp} {p : Addr} {o : HO} (h : H p = none) : Same H (upd H p o) := fun b x e => by
  rw [upd_ne (ne_of_none e h)]
  exact e
theorem sameTup {K : PySem.W.Frag} {H H' : Hp} {a : Addr} {xs : List V} (e : Same H H') (h : SqT K H a xs) : SqT K H' a xs := by
  rcases h with (h | ⟨o, h⟩) | h
  · exact .inl (.inl (e _ _ h))
  · exact .inl (.inr ⟨o, e _ _ h⟩)
  · exact .inr h
/-- all but what stands at q is as it was -/
def But (q : Addr) (H H' : Hp) : Prop := ∀ b o, H b = some o → b ≠ q → H' b = some o
theorem But.of_same {q : Addr} {H H' : Hp} (h : Same H H') : But q H H' := fun b o e _ => h b o e
theorem But.upd {q : Addr} {H : Hp} {o : HO} : But q H (upd H q o) := fun b u e n => by
  rw [upd_ne n]
  exact e
theorem But.trans {q : Addr} {H H1 H2 : Hp} (a : But q H H1) (b : But q H1 H2) : But q H H2 := fun c o e n => b c o (a c o e n) n
theorem But.seq {K : PySem.W.Frag} {q : Addr} {H H' : Hp} {a : Addr} {xs : List V} (e : But q H H') (n : a ≠ q) (h : SqL K H a xs) : SqL K H' a xs := by
  rcases h with (h | ⟨o, h⟩) | h
  · exact .inl (.inl (e _ _ h n))
  · exact .inl (.inr ⟨o, e _ _ h n⟩)
  · exact .inr h
/-- a tuple is read: it is no list that stands -/
theorem But.tup {K : PySem.W.Frag} {q : Addr} {H H' : Hp} {a : Addr} {xs zs : List V} (e : But q H H') (hq : H q = some (.lst zs)) (h : SqT K H a xs) : SqT K H' a xs := by
  rcases h with (h | ⟨o, h⟩) | h
  · exact .inl (.inl (e _ _ h fun z => by rw [z, hq] at h; cases h))
  · exact .inl (.inr ⟨o, e _ _ h fun z => by rw [z, hq] at h; cases h⟩)
  · exact .inr h

/-! ### mixes in the heap -/
def PtV (K : PySem.W.Frag) (H : Hp) (v : V) (p : Mu51.Pt) : Prop := ∃ a, v = .ref a ∧ SqT K H a [.int p.x, .int p.y]
def MixAt (K : PySem.W.Frag) (H : Hp) (a : Addr) (m : Mu51.Mix) : Prop := ∃ vs, SqL K H a vs ∧ Paired (PtV K H) vs m
theorem PtV.same {K : PySem.W.Frag} {H H' : Hp} {v : V} {p : Mu51.Pt} (s : Same H H') (h : PtV K H v p) : PtV K H' v p := by
  obtain ⟨a, e, q⟩ := h
  exact ⟨a, e, sameTup s q⟩
theorem MixAt.same {K : PySem.W.Frag} {H H' : Hp} {a : Addr} {m : Mu51.Mix} (s : Same H H') (h : MixAt K H a m) : MixAt K H' a m := by
  obtain ⟨vs, q, p⟩ := h
  exact ⟨vs, s.seq q, Paired.mapP p fun _ _ z => z.same s⟩
theorem MixAt.but {K : PySem.W.Frag} {H H' : Hp} {q a : Addr} {zs : List V} {m : Mu51.Mix} (s : But q H H') (hq : H q = some (.lst zs)) (n : a ≠ q) (h : MixAt K H a m) : MixAt K H' a m := by
  obtain ⟨vs, r, p⟩ := h
  exact ⟨vs, s.seq n r, Paired.mapP p fun _ _ ⟨b, e, t⟩ => ⟨b, e, s.tup hq t⟩⟩
theorem pairGet {α β : Type} {F : α → β → Prop} : ∀ {xs : List α} {ys : List β} {i : Nat} {x : α}, Paired F xs ys → xs[i]? = some x → ∃ y, ys[i]? = some y ∧ F x y
  | _, _, _, _, .nil, h => by simp at h
  | _, _, 0, _, .cons r _, h => by
    simp at h
    subst h
    exact ⟨_, rfl, r⟩
  | _, _, i + 1, _, .cons _ t, h => by
    obtain ⟨y, h1, h2⟩ := pairGet (i := i) t (by simpa using h)
    exact ⟨y, by simpa using h1, h2⟩
theorem pairGetR {α β : Type} {F : α → β → Prop} : ∀ {xs : List α} {ys : List β} {i : Nat} {y : β}, Paired F xs ys → ys[i]? = some y → ∃ x, xs[i]? = some x ∧ F x y
  | _, _, _, _, .nil, h => by simp at h
  | _, _, 0, _, .cons r _, h => by
    simp at h
    subst h
    exact ⟨_, rfl, r⟩
  | _, _, i + 1, _, .cons _ t, h => by
    obtain ⟨y, h1, h2⟩ := pairGetR (i := i) t (by simpa using h)
    exact ⟨y, by simpa using h1, h2⟩
theorem pairSnoc {α β : Type} {F : α → β → Prop} : ∀ {xs : List α} {ys : List β} {x : α} {y : β}, Paired F xs ys → F x y → Paired F (xs ++ [x]) (ys ++ [y])
  | _, _, _, _, .nil, h => .cons h .nil
  | _, _, _, _, .cons r t, h => .cons r (pairSnoc t h)
theorem pairLen {α β : Type} {F : α → β → Prop} : ∀ {xs : List α} {ys : List β}, Paired F xs ys → xs.length = ys.length
  | _, _, .nil => rfl
  | _, _, .cons _ t => by rw [List.length_cons, List.length_cons, pairLen t]
/-- a tuple that the module has written -/
def TupIn (K : PySem.W.Frag) (a : Addr) (xs : List V) : Prop :=
  ∃ (o : Obj) (its : Array Value) (n : Nat), K.lookup a = some o ∧ o.cls = .type "tuple" ∧ o.data = .seq its n ∧ its.size ≤ sizeLine ∧ Vals xs its.toList
theorem TupIn.sq {K : PySem.W.Frag} {a : Addr} {xs : List V} (h : TupIn K a xs) (H : Hp) : SqT K H a xs := .inr h

/-! ### rules that name the written part, for the blocks of comprehensions -/
section
variable {X : Cx}
theorem ix_tupK {K : PySem.W.Frag} (h : X.K = K) : IxR X (rIxT K) := by
  subst h
  exact ix_tup
theorem ix_listK {K : PySem.W.Frag} (h : X.K = K) : IxR X (rIxL K) := by
  subst h
  exact ix_list
theorem ix_ltK {K : PySem.W.Frag} (h : X.K = K) : IxR X (fun x y H Q => rIxL K x y H Q ∨ rIxT K x y H Q) := (ix_listK h).or (ix_tupK h)
def rLen (K : PySem.W.Frag) : List V → Hp → VK → Prop := fun xs H Q => ∃ p ys, xs = [.ref p] ∧ (SqL K H p ys ∨ SqT K H p ys) ∧ Q (.int ys.length) H
theorem call_lenK {K : PySem.W.Frag} (h : X.K = K) : CallR X (.builtin "len") (rLen K) := by
  subst h
  exact call_len_seq
theorem op_eqDK {K : PySem.W.Frag} (h : X.K = K) (hu : X.A.units + 64 < cLine) : OpR X (compareOp .Eq) (rEqD K) := by
  subst h
  exact op_eqD hu
theorem op_neDK {K : PySem.W.Frag} (h : X.K = K) (hu : X.A.units + 64 < cLine) : OpR X (compareOp .NotEq) (rNeD K) := by
  subst h
  exact op_neD hu
theorem pe_fldK {K : PySem.W.Frag} {e : Expr} {f : Str} {pos : Pos} {ta : TE} (h : X.K = K) (he : PE X e ta) (hb : attributeBase e f X.env (eval e X.env) = eval e X.env) : PE X (.Attribute e f pos) (tFld K ta f) := by
  subst h
  exact pe_fld he hb
theorem pg_tupK {K : PySem.W.Frag} {es : List Expr} {k n : Nat} {pos : Pos} {t : TGs} (h : X.K = K) (hc : X.calm = true) (hg : PGs X es t) (hn : (assignEach es X.env).length = n := by rfl) (hst : (assignEach es X.env).findIdx? (·.1) = none := by rfl) : PG X (.Tuple es k pos) (gTup K n t) := by
  subst h
  exact pg_tup hc hg hn hst
end

/-- a list or a tuple that is read -/
def SqQ (K : PySem.W.Frag) (H : Hp) (b : Addr) (xs : List V) : Prop := SqL K H b xs ∨ SqT K H b xs
theorem SqQ.same {K : PySem.W.Frag} {H H' : Hp} {b : Addr} {xs : List V} (s : Same H H') (h : SqQ K H b xs) : SqQ K H' b xs := h.imp (fun z => s.seq z) (fun z => sameTup s z)
theorem ixQ {K : PySem.W.Frag} {H : Hp} {p : Addr} {xs : List V} {i : Int} {v : V} {Q : VK} (h : SqQ K H p xs) (e : atI xs i = some v) (q : Q v H) : rIxL K (.ref p) (.int i) H Q ∨ rIxT K (.ref p) (.int i) H Q :=
  h.imp (fun z => ⟨p, xs, i, v, rfl, rfl, z, e, q⟩) (fun z => ⟨p, xs, i, v, rfl, rfl, z, e, q⟩)
theorem at0 {x : V} {r : List V} : atI (x :: r) 0 = some x := atI_nat (j := 0) rfl
theorem at1 {x y : V} {r : List V} : atI (x :: y :: r) 1 = some y := atI_nat (j := 1) rfl

/-! ### what the top has written -/
structure Txt (K : PySem.W.Frag) (mg : Str → Option Value) (aN aS aM : Addr) : Prop where
  gPARTS : ∃ t, mg "PARTS" = some (.int 256 t)
  gNOTHING : mg "NOTHING" = some (.ref aN)
  nNOTHING : TupIn K aN [.int 0, .int 0]
  gMIDDLE : mg "MIDDLE" = some (.ref aM)
  nMIDDLE : TupIn K aM [.int 0, .int 0]
  gSAYING_LENGTHS : mg "SAYING_LENGTHS" = some (.ref aS)
  nSAYING_LENGTHS : TupIn K aS (sayLen.map fun (n : Nat) => V.int n)
  gSTAND : ∃ t, mg "STAND" = some (.int 0 t)
  gTO_LANDMARK : ∃ t, mg "TO_LANDMARK" = some (.int 1 t)
  gTO_PEG : ∃ t, mg "TO_PEG" = some (.int 2 t)
  gTURN : ∃ t, mg "TURN" = some (.int 3 t)
  gGO_ON : ∃ t, mg "GO_ON" = some (.int 4 t)
  gGO_HALF : ∃ t, mg "GO_HALF" = some (.int 5 t)
  gDRIVE : ∃ t, mg "DRIVE" = some (.int 6 t)
  gHALFWAY : ∃ t, mg "HALFWAY" = some (.int 7 t)
  gWRONG : ∃ t, mg "WRONG" = some (.int (-1) t)
  gNO_TEXT : ∃ t, mg "NO_TEXT" = some (.int (-2) t)
  gNOT_THERE : ∃ t, mg "NOT_THERE" = some (.int (-3) t)
  gTOO_FINE : ∃ t, mg "TOO_FINE" = some (.int (-4) t)
  gTEXTS_FULL : ∃ t, mg "TEXTS_FULL" = some (.int (-5) t)
  gIS_GONE : ∃ t, mg "IS_GONE" = some (.int (-6) t)
  gNOT_NEEDED : ∃ t, mg "NOT_NEEDED" = some (.int (-7) t)
  gNO_MAP : ∃ t, mg "NO_MAP" = some (.int (-9) t)
  gMOST_LANDMARKS : ∃ t, mg "MOST_LANDMARKS" = some (.int 4 t)
  gMOST_TEXTS : ∃ t, mg "MOST_TEXTS" = some (.int 4 t)
  gMOST_SAYINGS : ∃ t, mg "MOST_SAYINGS" = some (.int 14 t)
  gMOST_HALVINGS : ∃ t, mg "MOST_HALVINGS" = some (.int 8 t)
  gMOST_TIMES : ∃ t, mg "MOST_TIMES" = some (.int 3 t)
  gFARTHEST : ∃ t, mg "FARTHEST" = some (.int 1000 t)
  gBEGIN : ∃ t, mg "BEGIN" = some (.int 0 t)
  gTEXT : ∃ t, mg "TEXT" = some (.int 1 t)
  gTREASURE : ∃ t, mg "TREASURE" = some (.int 2 t)
  gNEEDS : ∃ t, mg "NEEDS" = some (.int 3 t)
  gTELLS : ∃ t, mg "TELLS" = some (.int 4 t)
  gSAME : ∃ t, mg "SAME" = some (.int 5 t)
  gLOST : ∃ t, mg "LOST" = some (.int 6 t)
  gLINE : ∃ t, mg "LINE" = some (.int 7 t)
  gAPART : ∃ t, mg "APART" = some (.int 8 t)
  gMOVE : ∃ t, mg "MOVE" = some (.int 9 t)
  gGONE : ∃ t, mg "GONE" = some (.int 10 t)
  gLOOK : ∃ t, mg "LOOK" = some (.int 11 t)
  len : mg "len" = none
  range : mg "range" = none
  zip : mg "zip" = none
  enumerate : mg "enumerate" = none
  all : mg "all" = none
  abs : mg "abs" = none
end Gk
namespace Gk
open PySem PySem.Spec PyProof.Rows L2

/-! ### a mix that is made in a comprehension -/
def Made (K : PySem.W.Frag) (H : Hp) (D : Addr) (m : Mu51.Mix) (H' : Hp) : Prop := Same H H' ∧ ∃ vs, H' D = some (.lst vs) ∧ Paired (PtV K H') vs m
theorem Made.start {K : PySem.W.Frag} {H : Hp} {D : Addr} (h : H D = none) : Made K H D [] (upd H D (.lst [])) := ⟨same_upd h, [], upd_same, .nil⟩
theorem Made.put {K : PySem.W.Frag} {H H' : Hp} {D : Addr} {m : Mu51.Mix} {v : V} {q : Mu51.Pt} (h : H D = none) (M : Made K H D m H') (hv : PtV K H' v q) :
    ∃ acc, H' D = some (.lst acc) ∧ acc.length = m.length ∧ Made K H D (m ++ [q]) (upd H' D (.lst (acc ++ [v]))) := by
  obtain ⟨s, vs, e, p⟩ := M
  have b : But D H' (upd H' D (.lst (vs ++ [v]))) := But.upd
  refine ⟨vs, e, pairLen p, fun c o z => b c o (s c o z) (ne_of_none z h), vs ++ [v], upd_same, pairSnoc (Paired.mapP p fun _ _ ⟨t, z, r⟩ => ⟨t, z, b.tup e r⟩) ?_⟩
  obtain ⟨t, z, r⟩ := hv
  exact ⟨t, z, b.tup e r⟩
theorem Made.same {K : PySem.W.Frag} {H H' H2 : Hp} {D : Addr} {m : Mu51.Mix} (M : Made K H D m H') (s : Same H' H2) : Made K H D m H2 := by
  obtain ⟨s1, vs, e, p⟩ := M
  exact ⟨s1.trans s, vs, s _ _ e, Paired.mapP p fun _ _ z => z.same s⟩
theorem Made.mix {K : PySem.W.Frag} {H H' : Hp} {D : Addr} {m : Mu51.Mix} (M : Made K H D m H') : Same H H' ∧ MixAt K H' D m := by
  obtain ⟨s1, vs, e, p⟩ := M
  exact ⟨s1, vs, SqL.of e, p⟩
theorem small_mix {m : Mu51.Mix} {n : Nat} (h : m.length ≤ n) (hn : n < 16777216) {acc : List V} (e : acc.length = m.length) : acc.length < sizeLine := by
  have : sizeLine = 16777216 := by decide
  omega
theorem take_map_succ {α β : Type} {f : α → β} {l : List α} {i : Nat} {x : α} (h : l[i]? = some x) : (l.map f).take (i + 1) = (l.map f).take i ++ [f x] :=
  take_succ_get (by rw [List.getElem?_map, h]; rfl)
theorem take_all_map {α β : Type} (f : α → β) (l : List α) : (l.map f).take l.length = l.map f := by
  rw [← List.length_map (f := f), List.take_length]

/-- an item without a test is kept -/
theorem keepIt {A B : Hp → Prop} {σ : L2.St} {H : Hp} (h : A H) : tYes σ H (fun b H3 => if b = true then A H3 else B H3) := by
  show (if true = true then A H else B H)
  exact iteT h
section
variable {P : Program} {w : World} {K : PySem.W.Frag} {mg : Str → Option Value} {base : Heap} {aN aS aM : Addr}

/-! ### halved -/
abbrev s_halved : Stmt := topS 23
theorem sc_halved : FnScope ["shares", "share"] ["shares"] (defScope s_halved) := ⟨rfl, rfl, rfl, by decide +kernel, rfl, by decide +kernel, by decide +kernel⟩
def sp_halved (K : PySem.W.Frag) : Sp := fun vs H Q _ => ∃ (a : Addr) (m : Mu51.Mix), vs = [.ref a] ∧ MixAt K H a m ∧ m.length ≤ 1000 ∧
  ∀ H' p, Same H H' → H p = none → MixAt K H' p (Mu51.Mix.half m) → Q (.ref p) H'
theorem ok_halved {f : Addr} {fd : FuncData} {k : Nat} (F : Fun K "halved" "halved" s_halved f fd) (T : Txt K mg aN aS aM) : FnOk P w K mg base CX0 (k + 1) f fd ["shares"] (sp_halved K) := by
  refine F.ok sc_halved (fun vs H Q E h => ?_) (fun cdv A outer s H vs Q E hr h => ?_)
  · obtain ⟨a, m, rfl, _⟩ := h
    rfl
  obtain ⟨a, m, rfl, hM, hlen, q⟩ := h
  refine ⟨_, (pss_one (ps_ret (pe_lc (own := [("share", 1)]) rfl sc_halved.nd (pi_list (pv 0)) (blkOk_by (N := ["shares", "share"]) (sc := defScope s_halved) (by decide +kernel)) (fun _ _ _ _ _ => (pg_name (i := 1) sc_halved.nd rfl (Or.inl rfl))) (fun _ _ _ _ _ => pts_nil) (fun _ _ _ _ _ => (pe_tup (pa_cons (pe_op op_fdivW (pe_ix (ix_tupK (K := K) rfl) (pv 1) pe_int (fun _ _ => rfl)) pe_int) (pa_cons (pe_op op_fdivW (pe_ix (ix_tupK (K := K) rfl) (pv 1) pe_int (fun _ _ => rfl)) pe_int) pa_nil))))))), ?_⟩
  obtain ⟨vs, hL, hP⟩ := hM
  refine ⟨_, rfl, a, rfl, ⟨_, hL⟩, fun D nD => lc_list (xs := vs) (fun i H' => Made K H D ((Mu51.Mix.half m).take i) H') (Made.start nD) (fun i H' _ M => M.1.seq hL) (fun i x H' hx M => ?_) (fun H' M => ?_)⟩
  · obtain ⟨p, hp, t, rfl, ht⟩ := pairGet hP hx
    have ht' := sameTup M.1 ht
    refine ⟨rfl, keepIt ?_⟩
    refine ⟨_, rfl, t, _, 0, _, rfl, rfl, ht', rfl, _, _, rfl, rfl, wide_div (b := 2) (by decide) (by decide) (by decide) (by decide), _, rfl, t, _, 1, _, rfl, rfl, ht', rfl, _, _, rfl, rfl, wide_div (b := 2) (by decide) (by decide) (by decide) (by decide), (by show 2 ≤ sizeLine; decide), fun u nu => ?_⟩
    have M2 := M.same (same_upd (o := .tup [.int (p.x / 2), .int (p.y / 2)]) nu)
    obtain ⟨acc, e1, e2, e3⟩ := Made.put (v := .ref u) (q := Mu51.Pt.half p) nD M2 ⟨u, rfl, SqT.of upd_same⟩
    refine ⟨acc, e1, small_mix (n := 1000) (by rw [List.length_take, Mu51.Mix.half, List.length_map]; omega) (by decide) e2, ?_⟩
    rw [show (Mu51.Mix.half m).take (i + 1) = (Mu51.Mix.half m).take i ++ [Mu51.Pt.half p] from take_map_succ hp]
    exact e3
  · have e : (Mu51.Mix.half m).take vs.length = Mu51.Mix.half m := by rw [pairLen hP]; exact take_all_map _ _
    rw [e] at M
    exact q H' D M.mix.1 nD M.mix.2

/-! ### added -/
abbrev s_added : Stmt := topS 22
theorem sc_added : FnScope ["shares", "others", "times", "share", "other"] ["shares", "others", "times"] (defScope s_added) := ⟨rfl, rfl, rfl, by decide +kernel, rfl, by decide +kernel, by decide +kernel⟩
def addBy (t : Int) (u v : Mu51.Pt) : Mu51.Pt := ⟨u.x + t * v.x, u.y + t * v.y⟩
def sp_added (K : PySem.W.Frag) : Sp := fun vs H Q _ => ∃ (a b : Addr) (m n : Mu51.Mix) (t : Int), vs = [.ref a, .ref b, .int t] ∧ MixAt K H a m ∧ MixAt K H b n ∧ m.length ≤ 1000 ∧ (-(2 ^ 64) < t ∧ t < 2 ^ 64) ∧
  ∀ H' p, Same H H' → H p = none → MixAt K H' p (List.zipWith (addBy t) m n) → Q (.ref p) H'
theorem zip_take_succ {α β γ : Type} {f : α → β → γ} {l : List α} {r : List β} {i : Nat} {x : α} {y : β} (h : l[i]? = some x) (k : r[i]? = some y) : (List.zipWith f l r).take (i + 1) = (List.zipWith f l r).take i ++ [f x y] :=
  take_succ_get (by rw [List.getElem?_zipWith, h, k])
theorem ok_added {f : Addr} {fd : FuncData} {k : Nat} (F : Fun K "added" "added" s_added f fd) (T : Txt K mg aN aS aM) : FnOk P w K mg base CX0 (k + 1) f fd ["shares", "others", "times"] (sp_added K) := by
  refine F.ok sc_added (fun vs H Q E h => ?_) (fun cdv A outer s H vs Q E hr h => ?_)
  · obtain ⟨a, b, m, n, t, rfl, _⟩ := h
    rfl
  obtain ⟨a, b, m, n, t, rfl, hM, hN, hlen, ht, q⟩ := h
  refine ⟨_, (pss_one (ps_ret (pe_lc (own := [("share", 3), ("other", 4)]) rfl sc_added.nd (pi_zip (by rfl) T.zip (pa_cons (pv 0) (pa_cons (pv 1) pa_nil))) (blkOk_by (N := ["shares", "others", "times", "share", "other"]) (sc := defScope s_added) (by decide +kernel)) (fun _ _ _ _ _ => (pg_tupK (K := K) (n := 2) rfl rfl (pgs_cons (pg_name (i := 3) sc_added.nd rfl (Or.inl rfl)) (pgs_cons (pg_name (i := 4) sc_added.nd rfl (Or.inl rfl)) pgs_nil)))) (fun _ _ _ _ _ => pts_nil) (fun _ _ _ _ _ => (pe_tup (pa_cons (pe_op op_add (pe_ix (ix_tupK (K := K) rfl) (pv 3) pe_int (fun _ _ => rfl)) (pe_op op_mul (pv 2) (pe_ix (ix_tupK (K := K) rfl) (pv 4) pe_int (fun _ _ => rfl)))) (pa_cons (pe_op op_add (pe_ix (ix_tupK (K := K) rfl) (pv 3) pe_int (fun _ _ => rfl)) (pe_op op_mul (pv 2) (pe_ix (ix_tupK (K := K) rfl) (pv 4) pe_int (fun _ _ => rfl)))) pa_nil))))))), ?_⟩
  obtain ⟨vs, hL, hP⟩ := hM
  obtain ⟨us, hL2, hP2⟩ := hN
  refine ⟨_, rfl, _, rfl, a, b, vs, us, rfl, hL, hL2, fun D nD => lc_it (walk_zip (xs := vs) (ys := us) rfl) (fun i H' => Made K H D ((List.zipWith (addBy t) m n).take i) H') (Made.start nD) (fun i H' _ M => ⟨M.1.seq hL, M.1.seq hL2⟩) (fun i x H' H2 hi M hy => ?_) (fun H' M => ?_)⟩
  · obtain ⟨z, x1, x2, rfl, nz, rfl, e1, e2⟩ := hy
    obtain ⟨p1, hp1, t1, rfl, ht1⟩ := pairGet hP e1
    obtain ⟨p2, hp2, t2, rfl, ht2⟩ := pairGet hP2 e2
    have s2 : Same H (upd H' z (.tup [.ref t1, .ref t2])) := M.1.trans (same_upd nz)
    have ht1' := sameTup s2 ht1
    have ht2' := sameTup s2 ht2
    refine ⟨z, _, rfl, SqT.of upd_same, rfl, _, _, rfl, _, _, rfl, rfl, rfl, keepIt ?_⟩
    refine ⟨_, rfl, t1, _, 0, _, rfl, rfl, ht1', rfl, _, rfl, _, rfl, t2, _, 0, _, rfl, rfl, ht2', rfl, _, _, rfl, rfl, .inl ht, _, _, rfl, rfl,
      _, rfl, t1, _, 1, _, rfl, rfl, ht1', rfl, _, rfl, _, rfl, t2, _, 1, _, rfl, rfl, ht2', rfl, _, _, rfl, rfl, .inl ht, _, _, rfl, rfl, (by show 2 ≤ sizeLine; decide), fun u nu => ?_⟩
    have M2 := (M.same (same_upd (o := .tup [.ref t1, .ref t2]) nz)).same (same_upd (o := .tup [.int (p1.x + t * p2.x), .int (p1.y + t * p2.y)]) nu)
    obtain ⟨acc, e1, e2, e3⟩ := Made.put (v := .ref u) (q := addBy t p1 p2) nD M2 ⟨u, rfl, SqT.of upd_same⟩
    refine ⟨acc, e1, small_mix (n := 1000) (by rw [List.length_take, List.length_zipWith]; omega) (by decide) e2, ?_⟩
    rw [zip_take_succ hp1 hp2]
    exact e3
  · have e : (List.zipWith (addBy t) m n).take (min vs.length us.length) = List.zipWith (addBy t) m n := by
      rw [pairLen hP, pairLen hP2, ← List.length_zipWith (f := addBy t), List.take_length]
    rw [e] at M
    exact q H' D M.mix.1 nD M.mix.2

/-! ### turned -/
abbrev s_turned : Stmt := topS 24
theorem sc_turned : FnScope ["shares", "turns", "facing", "turn", "share"] ["shares", "turns"] (defScope s_turned) := ⟨rfl, rfl, rfl, by decide +kernel, rfl, by decide +kernel, by decide +kernel⟩
def turnN : Nat → Mu51.Mix → Mu51.Mix
  | 0, m => m
  | n + 1, m => Mu51.Mix.turn (turnN n m)
theorem turnN_len : ∀ (n : Nat) (m : Mu51.Mix), (turnN n m).length = m.length
  | 0, _ => rfl
  | n + 1, m => by rw [turnN, Mu51.Mix.turn, List.length_map, turnN_len n m]
def sp_turned (K : PySem.W.Frag) : Sp := fun vs H Q _ => ∃ (a : Addr) (m : Mu51.Mix) (t : Nat), vs = [.ref a, .int t] ∧ MixAt K H a m ∧ m.length ≤ 1000 ∧ 1 ≤ t ∧ t ≤ 1000 ∧
  ∀ H' p, Same H H' → H p = none → MixAt K H' p (turnN t m) → Q (.ref p) H'
theorem ok_turned {f : Addr} {fd : FuncData} {k : Nat} (F : Fun K "turned" "turned" s_turned f fd) (T : Txt K mg aN aS aM) : FnOk P w K mg base CX0 (k + 1) f fd ["shares", "turns"] (sp_turned K) := by
  refine F.ok sc_turned (fun vs H Q E h => ?_) (fun cdv A outer s H vs Q E hr h => ?_)
  · obtain ⟨a, m, t, rfl, _⟩ := h
    rfl
  obtain ⟨a, m, t, rfl, hM, hlen, ht1, ht2, q⟩ := h
  refine ⟨_, (pss_cons (ps_set (i := 2) sc_turned.nd rfl (Or.inl rfl) (pv 0))
      (pss_cons (ps_for PassesOwn.never rfl (pi_range1 rfl T.range (pa_cons (pv 1) pa_nil)) (pg_name (i := 3) sc_turned.nd rfl (Or.inl rfl))
        (pss_one (ps_setLc (i := 2) (own := [("share", 4)]) rfl sc_turned.nd rfl rfl (sw_true rfl rfl rfl (by decide +kernel)) (pi_list (pv 2)) (blkOk_by (N := ["shares", "turns", "facing", "turn", "share"]) (sc := defScope s_turned) (by decide +kernel)) (fun _ _ _ _ _ => (pg_name (i := 4) sc_turned.nd rfl (Or.inl rfl))) (fun _ _ _ _ _ => pts_nil) (fun _ _ _ _ _ => (pe_tup (pa_cons (pe_un un_neg (pe_ix (ix_tupK (K := K) rfl) (pv 4) pe_int (fun _ _ => rfl))) (pa_cons (pe_ix (ix_tupK (K := K) rfl) (pv 4) pe_int (fun _ _ => rfl)) pa_nil)))))))
      (pss_one (ps_ret (pv 2))))), ?_⟩
  refine ⟨_, rfl, _, rfl, (t : Int), rfl, by omega, by omega, ?_⟩
  refine for_range (lo := 0) (n := (t : Int).toNat) (fun i σ H' => ∃ (b : Addr) (z w : Option V), σ = [some (.ref a), some (.int t), some (.ref b), z, w] ∧ Same H H' ∧ MixAt K H' b (turnN i m) ∧ (0 < i → H b = none)) ⟨a, none, none, rfl, Same.refl _, hM, fun h => absurd h (by omega)⟩ ?_ ?_
  · rintro i σ H' hi ⟨b, z, w', rfl, s1, hb, _⟩
    obtain ⟨vs, hL, hP⟩ := hb
    have hsmall : (turnN (i + 1) m).length ≤ 1000 := by rw [turnN_len]; exact hlen
    refine ⟨_, rfl, b, rfl, ⟨_, hL⟩, fun D nD => lc_list (xs := vs) (fun j H2 => Made K H' D ((turnN (i + 1) m).take j) H2) (Made.start nD) (fun j H2 _ M => M.1.seq hL) (fun j x H2 hx M => ?_) (fun H2 M => ?_)⟩
    · obtain ⟨p, hp, t, rfl, ht⟩ := pairGet hP hx
      have ht' := sameTup M.1 ht
      refine ⟨rfl, keepIt ?_⟩
      refine ⟨_, rfl, t, _, 1, _, rfl, rfl, ht', rfl, _, rfl, _, rfl, t, _, 0, _, rfl, rfl, ht', rfl, (by show 2 ≤ sizeLine; decide), fun u nu => ?_⟩
      have M2 := M.same (same_upd (o := .tup [.int (-p.y), .int p.x]) nu)
      obtain ⟨acc, e1, e2, e3⟩ := Made.put (v := .ref u) (q := Mu51.Pt.turn p) nD M2 ⟨u, rfl, SqT.of upd_same⟩
      refine ⟨acc, e1, small_mix (n := 1000) (by rw [List.length_take]; omega) (by decide) e2, ?_⟩
      rw [show (turnN (i + 1) m).take (j + 1) = (turnN (i + 1) m).take j ++ [Mu51.Pt.turn p] from take_map_succ hp]
      exact e3
    · have e : (turnN (i + 1) m).take vs.length = turnN (i + 1) m := by rw [pairLen hP]; exact take_all_map _ _
      rw [e] at M
      exact ⟨D, _, _, rfl, s1.trans M.mix.1, M.mix.2, fun _ => s1.free nD⟩
  · rintro σ H' ⟨b, z, w', rfl, s1, hb, hn⟩
    exact ⟨_, rfl, q H' b s1 (hn (by omega)) hb⟩

end
end Gk
namespace Gk
open PySem PySem.Spec PyProof.Rows L2
/-- a list that is made -/
def MadeV (H : Hp) (D : Addr) (vs : List V) (H' : Hp) : Prop := Same H H' ∧ H' D = some (.lst vs)
theorem MadeV.start {H : Hp} {D : Addr} (h : H D = none) : MadeV H D [] (upd H D (.lst [])) := ⟨same_upd h, upd_same⟩
theorem MadeV.put {H H' : Hp} {D : Addr} {vs : List V} (h : H D = none) (M : MadeV H D vs H') (v : V) : MadeV H D (vs ++ [v]) (upd H' D (.lst (vs ++ [v]))) :=
  ⟨fun c o z => by rw [upd_ne (ne_of_none z h)]; exact M.1 c o z, upd_same⟩
theorem small_of {n : Nat} (h : n ≤ 10000) : n < sizeLine := by
  have : sizeLine = 16777216 := by decide
  omega

section
variable {P : Program} {w : World} {K : PySem.W.Frag} {mg : Str → Option Value} {base : Heap} {aN aS aM : Addr}

/-! ### landmark_shares -/
abbrev s_landmark_shares : Stmt := topS 21
theorem sc_landmark_shares : FnScope ["standing", "landmarks", "landmark"] ["standing", "landmarks"] (defScope s_landmark_shares) := ⟨rfl, rfl, rfl, by decide +kernel, rfl, by decide +kernel, by decide +kernel⟩
def sp_landmark_shares (K : PySem.W.Frag) : Sp := fun vs H Q _ => ∃ (k n : Nat), vs = [.int k, .int n] ∧ n ≤ 1000 ∧
  ∀ H' p, Same H H' → H p = none → MixAt K H' p ((Mu51.mixes n).mark k) → Q (.ref p) H'
theorem mark_take (n k i : Nat) (h : i < n) : ((Mu51.mixes n).mark k).take (i + 1) = ((Mu51.mixes n).mark k).take i ++ [if i = k then (⟨Mu51.PARTS, 0⟩ : Mu51.Pt) else ⟨0, 0⟩] :=
  take_succ_get (by simp [Mu51.mixes, h])
theorem mark_len (n k : Nat) : ((Mu51.mixes n).mark k).length = n := by simp [Mu51.mixes]
theorem ok_landmark_shares {f : Addr} {fd : FuncData} {k : Nat} (F : Fun K "landmark_shares" "landmark_shares" s_landmark_shares f fd) (T : Txt K mg aN aS aM) : FnOk P w K mg base CX0 (k + 1) f fd ["standing", "landmarks"] (sp_landmark_shares K) := by
  refine F.ok sc_landmark_shares (fun vs H Q E h => ?_) (fun cdv A outer s H vs Q E hr h => ?_)
  · obtain ⟨k, n, rfl, _⟩ := h
    rfl
  obtain ⟨k, n, rfl, hlen, q⟩ := h
  refine ⟨_, (pss_one (ps_ret (pe_lc (own := [("landmark", 2)]) rfl sc_landmark_shares.nd (pi_range1 rfl T.range (pa_cons (pv 1) pa_nil)) (blkOk_by (N := ["standing", "landmarks", "landmark"]) (sc := defScope s_landmark_shares) (by decide +kernel)) (fun _ _ _ _ _ => (pg_name (i := 2) sc_landmark_shares.nd rfl (Or.inl rfl))) (fun _ _ _ _ _ => pts_nil) (fun _ _ _ _ _ => (pe_ifExp (pt_cmpR op_eq (pv 2) (pv 0) (nomark _)) (pe_tup (pa_cons (pgI rfl T.gPARTS) (pa_cons pe_int pa_nil))) (pgR rfl T.gNOTHING)))))), ?_⟩
  refine ⟨_, rfl, (n : Int), rfl, by omega, by omega, fun D nD => lc_range (lo := 0) (n := (n : Int).toNat) (fun i H' => Made K H D (((Mu51.mixes n).mark k).take i) H') (Made.start nD) (fun i H' hi M => ?_) (fun H' M => ?_)⟩
  · have hi' : i < n := by simpa using hi
    refine ⟨rfl, keepIt ?_⟩
    refine ⟨_, rfl, _, rfl, rfl, _, rfl, ?_⟩
    refine ite2 (fun c => ?_) (fun c => ?_)
    · have e : i = k := by
        have := of_decide_eq_true c
        injection this with this
        omega
      refine ⟨(by show 2 ≤ sizeLine; decide), fun u nu => ?_⟩
      have M2 := M.same (same_upd (o := .tup [.int 256, .int 0]) nu)
      obtain ⟨acc, e1, e2, e3⟩ := Made.put (v := .ref u) (q := ⟨256, 0⟩) nD M2 ⟨u, rfl, SqT.of upd_same⟩
      refine ⟨acc, e1, small_mix (n := 1000) (by rw [List.length_take, mark_len]; omega) (by decide) e2, ?_⟩
      rw [mark_take n k i hi', if_pos e]
      exact e3
    · have e : ¬ i = k := fun z => c (decide_eq_true (by rw [z]; simp))
      obtain ⟨acc, e1, e2, e3⟩ := Made.put (v := .ref aN) (q := ⟨0, 0⟩) nD M ⟨aN, rfl, T.nNOTHING.sq _⟩
      refine ⟨acc, e1, small_mix (n := 1000) (by rw [List.length_take, mark_len]; omega) (by decide) e2, ?_⟩
      rw [mark_take n k i hi', if_neg e]
      exact e3
  · have e : ((Mu51.mixes n).mark k).take (n : Int).toNat = (Mu51.mixes n).mark k := by
      rw [Int.toNat_natCast, List.take_of_length_le (by rw [mark_len]; exact Nat.le_refl _)]
    rw [e] at M
    exact q H' D M.mix.1 nD M.mix.2

/-! ### common_divisor -/
abbrev s_common_divisor : Stmt := topS 53
theorem sc_common_divisor : FnScope ["numbers", "largest", "number", "smaller", "rest"] ["numbers"] (defScope s_common_divisor) := ⟨rfl, rfl, rfl, by decide +kernel, rfl, by decide +kernel, by decide +kernel⟩
def third : List (Option V) → Nat
  | _ :: _ :: _ :: some (.int y) :: _ => y.toNat
  | _ => 0
def sp_common_divisor (K : PySem.W.Frag) : Sp := fun vs H Q _ => ∃ (a : Addr) (l : List Int), vs = [.ref a] ∧ SqL K H a (l.map V.int) ∧ Q (.int (gcdL l : Nat)) H
theorem ok_common_divisor {f : Addr} {fd : FuncData} {k : Nat} (F : Fun K "common_divisor" "common_divisor" s_common_divisor f fd) (T : Txt K mg aN aS aM) : FnOk P w K mg base CX0 (k + 1) f fd ["numbers"] (sp_common_divisor K) := by
  refine F.ok sc_common_divisor (fun vs H Q E h => ?_) (fun cdv A outer s H vs Q E hr h => ?_)
  · obtain ⟨a, l, rfl, _⟩ := h
    rfl
  obtain ⟨a, l, rfl, hL, q⟩ := h
  refine ⟨_, (pss_cons (ps_set (i := 1) sc_common_divisor.nd rfl (Or.inl rfl) pe_int)
      (pss_cons (ps_for PassesOwn.never rfl (pi_list (pv 0)) (pg_name (i := 2) sc_common_divisor.nd rfl (Or.inl rfl))
        (pss_cons (ps_set (i := 3) sc_common_divisor.nd rfl (Or.inl rfl) (pe_callB call_abs (by rfl) T.abs (by decide +kernel) (pa_cons (pv 2) pa_nil)))
        (pss_one (ps_while PassesOwn.never (pt_cmpR op_ne (pv 3) pe_int (nomark _))
          (pss_cons (ps_set (i := 4) sc_common_divisor.nd rfl (Or.inl rfl) (pe_op op_mod (pv 1) (pv 3)))
          (pss_cons (ps_set (i := 1) sc_common_divisor.nd rfl (Or.inl rfl) (pv 3))
          (pss_one (ps_set (i := 3) sc_common_divisor.nd rfl (Or.inl rfl) (pv 4)))))))))
      (pss_one (ps_ret (pv 1))))), ?_⟩
  refine ⟨_, rfl, a, rfl, ⟨_, hL⟩, ?_⟩
  refine for_list (K := K) (a := a) (xs := l.map V.int) (fun i σ H' => H' = H ∧ ∃ z2 z3 z4, σ = [some (.ref a), some (.int (gcdL (l.take i) : Nat)), z2, z3, z4]) ⟨rfl, none, none, none, rfl⟩ (fun i σ H' _ ⟨e, _⟩ => by rw [e]; exact hL) ?_ ?_
  · rintro i v σ H' hv ⟨rfl, z2, z3, z4, rfl⟩
    rw [List.getElem?_map] at hv
    obtain ⟨z, hz, rfl⟩ := Option.map_eq_some_iff.mp hv
    have e1 : gcdL (l.take (i + 1)) = Nat.gcd (gcdL (l.take i)) z.natAbs := by
      rw [take_succ_get hz, gcdL_snoc]
    refine ⟨_, rfl, z, rfl, ?_⟩
    rw [abs_eq]
    refine while_by (fun σ H2 => H2 = H' ∧ ∃ (x y : Nat) (z4 : Option V), σ = [some (.ref a), some (.int x), some (.int z), some (.int y), z4] ∧ Nat.gcd x y = gcdL (l.take (i + 1))) (fun σ _ => third σ) ⟨rfl, gcdL (l.take i), z.natAbs, z4, rfl, e1.symm⟩ ?_ ?_
    · rintro σ H2 ⟨rfl, x, y, z4, rfl, hg⟩
      refine ⟨_, rfl, rfl, _, rfl, ?_⟩
      refine ite2 (fun c => ?_) (fun c => ?_)
      · have hy : 0 < y := by
          rcases Nat.eq_zero_or_pos y with e | e
          · subst e
            exact absurd c (by decide)
          · exact e
        refine ⟨_, rfl, _, rfl, _, _, rfl, rfl, by omega, ?_⟩
        refine ⟨_, rfl, _, rfl, ⟨rfl, y, x % y, _, rfl, ?_⟩, ?_⟩
        · rw [← gcd_step]
          exact hg
        · show ((x : Int) % (y : Int)).toNat < (y : Int).toNat
          have h1 : ((x : Int) % (y : Int)) = ((x % y : Nat) : Int) := rfl
          rw [h1, Int.toNat_natCast, Int.toNat_natCast]
          exact Nat.mod_lt _ hy
      · have e : y = 0 := by
          rcases Nat.eq_zero_or_pos y with e | e
          · exact e
          · exfalso
            apply c
            have : ¬ (V.int (y : Int) = V.int 0) := fun z => by
              injection z with z
              omega
            simp [this]
        subst e
        rw [Nat.gcd_zero_right] at hg
        subst hg
        exact ⟨rfl, _, _, _, rfl⟩
    · rintro σ H' Q1 Q2 hQ ⟨v, h1, h2, k, h3, h4⟩
      exact ⟨v, h1, h2, k, h3, hQ _ _ h4⟩
  · rintro σ H' ⟨rfl, z2, z3, z4, rfl⟩
    rw [List.length_map, List.take_length]
    exact ⟨_, rfl, q⟩

/-! ### in_lowest_terms -/
abbrev s_in_lowest_terms : Stmt := topS 54
theorem sc_in_lowest_terms : FnScope ["numbers", "shared", "number"] ["numbers"] (defScope s_in_lowest_terms) := ⟨rfl, rfl, rfl, by decide +kernel, rfl, by decide +kernel, by decide +kernel⟩
def sp_in_lowest_terms (K : PySem.W.Frag) : Sp := fun vs H Q _ => ∃ (a : Addr) (l : List Int), vs = [.ref a] ∧ SqL K H a (l.map V.int) ∧ l.length ≤ 1000 ∧ 0 < gcdL l ∧ gcdL l < 2 ^ 8999 ∧
  ∀ H' p, Same H H' → H p = none → H' p = some (.lst ((low l).map V.int)) → Q (.ref p) H'
theorem ok_in_lowest_terms {f : Addr} {fd : FuncData} {k : Nat} (F : Fun K "in_lowest_terms" "in_lowest_terms" s_in_lowest_terms f fd) (C_common_divisor : Cal P w K mg base 1 "common_divisor" ["numbers"] (sp_common_divisor K)) :
    FnOk P w K mg base CX0 (k + 2) f fd ["numbers"] (sp_in_lowest_terms K) := by
  refine F.ok sc_in_lowest_terms (fun vs H Q E h => ?_) (fun cdv A outer s H vs Q E hr h => ?_)
  · obtain ⟨a, l, rfl, _⟩ := h
    rfl
  obtain ⟨a, l, rfl, hL, hlen, hp, hb, q⟩ := h
  refine ⟨_, (pss_cons (ps_set (i := 1) sc_in_lowest_terms.nd rfl (Or.inr rfl) (pcall C_common_divisor (hr.mono (by omega)) rfl (pa_cons (pv 0) pa_nil)))
      (pss_one (ps_ret (pe_lc (own := [("number", 2)]) rfl sc_in_lowest_terms.nd (pi_list (pv 0)) (blkOk_by (N := ["numbers", "shared", "number"]) (sc := defScope s_in_lowest_terms) (by decide +kernel)) (fun _ _ _ _ _ => (pg_name (i := 2) sc_in_lowest_terms.nd rfl (Or.inl rfl))) (fun _ _ _ _ _ => pts_nil) (fun _ _ _ _ _ => (pe_op op_fdivW (pv 2) (pv 1))))))), ?_⟩
  have hd : ∀ i : Int, CDivW i ((gcdL l : Nat) : Int) := fun i => wide_div (b := 8999) (by omega) (by rw [Int.natAbs_natCast]; exact hb) (by decide) (by decide)
  refine ⟨_, rfl, a, l, rfl, hL, ?_⟩
  refine ⟨_, rfl, a, rfl, ⟨_, hL⟩, fun D nD => lc_list (xs := l.map V.int) (fun i H' => MadeV H D (((low l).take i).map V.int) H') (MadeV.start nD) (fun i H' _ M => M.1.seq hL) (fun i x H' hx M => ?_) (fun H' M => ?_)⟩
  · rw [List.getElem?_map] at hx
    obtain ⟨z, hz, rfl⟩ := Option.map_eq_some_iff.mp hx
    refine ⟨rfl, keepIt ?_⟩
    refine ⟨_, rfl, _, rfl, _, _, rfl, rfl, hd z, ?_⟩
    refine ⟨_, M.2, small_of (by rw [List.length_map, List.length_take, low, List.length_map]; omega), ?_⟩
    have e : (low l).take (i + 1) = (low l).take i ++ [z / ((gcdL l : Nat) : Int)] := take_map_succ hz
    rw [e, List.map_append]
    exact M.put nD _
  · have e : (low l).take (l.map V.int).length = low l := by
      rw [List.length_map]
      exact take_all_map _ _
    rw [e] at M
    exact q H' D M.1 nD M.2

/-! ### product -/
abbrev s_product : Stmt := topS 55
theorem sc_product : FnScope ["pair", "other"] ["pair", "other"] (defScope s_product) := ⟨rfl, rfl, rfl, by decide +kernel, rfl, by decide +kernel, by decide +kernel⟩
def sp_product (K : PySem.W.Frag) : Sp := fun vs H Q _ => ∃ (a b : Addr) (p q : Mu51.Pt), vs = [.ref a, .ref b] ∧ SqT K H a [.int p.x, .int p.y] ∧ SqQ K H b [.int q.x, .int q.y] ∧ (-(2 ^ 64) < q.x ∧ q.x < 2 ^ 64) ∧ (-(2 ^ 64) < q.y ∧ q.y < 2 ^ 64) ∧
  ∀ H' r, Same H H' → H r = none → H' r = some (.tup [.int (p.times q).x, .int (p.times q).y]) → Q (.ref r) H'
theorem ok_product {f : Addr} {fd : FuncData} {k : Nat} (F : Fun K "product" "product" s_product f fd) : FnOk P w K mg base CX0 (k + 1) f fd ["pair", "other"] (sp_product K) := by
  refine F.ok sc_product (fun vs H Q E h => ?_) (fun cdv A outer s H vs Q E hr h => ?_)
  · obtain ⟨a, b, p, q, rfl, _⟩ := h
    rfl
  obtain ⟨a, b, p, q, rfl, hA, hB, hx, hy, qq⟩ := h
  refine ⟨_, (pss_one (ps_ret (pe_tup (pa_cons (pe_op op_sub (pe_op op_mul (pe_ix ix_tup (pv 0) pe_int (fun _ _ => rfl)) (pe_ix (ix_ltK (K := K) rfl) (pv 1) pe_int (fun _ _ => rfl))) (pe_op op_mul (pe_ix ix_tup (pv 0) pe_int (fun _ _ => rfl)) (pe_ix (ix_ltK (K := K) rfl) (pv 1) pe_int (fun _ _ => rfl)))) (pa_cons (pe_op op_add (pe_op op_mul (pe_ix ix_tup (pv 0) pe_int (fun _ _ => rfl)) (pe_ix (ix_ltK (K := K) rfl) (pv 1) pe_int (fun _ _ => rfl))) (pe_op op_mul (pe_ix ix_tup (pv 0) pe_int (fun _ _ => rfl)) (pe_ix (ix_ltK (K := K) rfl) (pv 1) pe_int (fun _ _ => rfl)))) pa_nil))))), ?_⟩
  refine ⟨_, rfl, a, _, 0, _, rfl, rfl, hA, at0, _, rfl, ixQ hB at0 ?_⟩
  refine ⟨_, _, rfl, rfl, .inr hx, ?_⟩
  refine ⟨_, rfl, a, _, 1, _, rfl, rfl, hA, at1, _, rfl, ixQ hB at1 ?_⟩
  refine ⟨_, _, rfl, rfl, .inr hy, _, _, rfl, rfl, ?_⟩
  refine ⟨_, rfl, a, _, 0, _, rfl, rfl, hA, at0, _, rfl, ixQ hB at1 ?_⟩
  refine ⟨_, _, rfl, rfl, .inr hy, ?_⟩
  refine ⟨_, rfl, a, _, 1, _, rfl, rfl, hA, at1, _, rfl, ixQ hB at0 ?_⟩
  refine ⟨_, _, rfl, rfl, .inr hx, _, _, rfl, rfl, (by show 2 ≤ sizeLine; decide), fun u nu => ?_⟩
  exact qq _ u (same_upd nu) nu upd_same
end
end Gk
namespace Gk
open PySem PySem.Spec PyProof.Rows L2

/-! ### tests -/
theorem tEq {i j : Int} {A B : Prop} (h1 : i = j → A) (h2 : i ≠ j → B) : if decide (V.int i = V.int j) = true then A else B := by
  by_cases c : i = j
  · subst c
    rw [decide_eq_true rfl]
    exact iteT (h1 rfl)
  · rw [decide_eq_false (fun z => c (by injection z))]
    exact iteF (h2 c)
theorem tNe {i j : Int} {A B : Prop} (h1 : i ≠ j → A) (h2 : i = j → B) : if (!decide (V.int i = V.int j)) = true then A else B := by
  by_cases c : i = j
  · subst c
    rw [decide_eq_true rfl]
    exact iteF (h2 rfl)
  · rw [decide_eq_false (fun z => c (by injection z))]
    exact iteT (h1 c)
theorem tDec {p A B : Prop} [Decidable p] (h1 : p → A) (h2 : ¬ p → B) : if decide p = true then A else B := by
  by_cases c : p
  · rw [decide_eq_true c]
    exact iteT (h1 c)
  · rw [decide_eq_false c]
    exact iteF (h2 c)
theorem tBool {c : Bool} {A B : Prop} (h1 : c = true → A) (h2 : c = false → B) : if c = true then A else B := by
  cases c
  · exact iteF (h2 rfl)
  · exact iteT (h1 rfl)
theorem tNot' {c : Bool} {A B : Prop} (h1 : c = false → A) (h2 : c = true → B) : if (!c) = true then A else B := by
  cases c
  · exact iteT (h1 rfl)
  · exact iteF (h2 rfl)
theorem chain_le {a b c : Int} {σ : L2.St} {H : Hp} {Q : VK} (h : Q (.bl (decide (a ≤ b) && decide (b ≤ c))) H) :
    ∃ k, V.bl (decide (a ≤ b)) = V.bl k ∧ (if k = true then tC (V.int c) σ H (fun w' H4 => rI0 (fun i j => V.bl (decide (i ≤ j))) (V.int b) w' H4 Q) else Q (.bl false) H) := by
  refine ⟨_, rfl, ?_⟩
  refine tDec (fun x => ?_) (fun x => ?_)
  · rw [decide_eq_true x, Bool.true_and] at h
    exact ⟨_, _, rfl, rfl, h⟩
  · rw [decide_eq_false x, Bool.false_and] at h
    exact h
theorem dEq (i j : Int) : decide (V.int i = V.int j) = decide (i = j) := by
  by_cases c : i = j
  · subst c
    simp
  · rw [decide_eq_false c, decide_eq_false (fun z => c (by injection z))]

/-! ### a heap without what may change -/
def hide (H : Hp) (S : List Addr) : Hp := fun b => if b ∈ S then none else H b
theorem hide_some {H : Hp} {S : List Addr} {b : Addr} {o : HO} (h : hide H S b = some o) : b ∉ S ∧ H b = some o := by
  unfold hide at h
  by_cases c : b ∈ S
  · rw [if_pos c] at h
    cases h
  · rw [if_neg c] at h
    exact ⟨c, h⟩
theorem hide_of {H : Hp} {S : List Addr} {b : Addr} {o : HO} (n : b ∉ S) (h : H b = some o) : hide H S b = some o := by
  unfold hide
  rw [if_neg n]
  exact h
theorem hide_same (H : Hp) (S : List Addr) : Same (hide H S) H := fun b o h => (hide_some h).2
theorem Same.hide {H H' : Hp} (s : Same H H') (S : List Addr) : Same (hide H S) (hide H' S) := fun b o h => hide_of (hide_some h).1 (s b o (hide_some h).2)
/-- only what stands at S may have changed; new names of what may change are new -/
theorem hide_mono {H H' : Hp} {S S' : List Addr} (k : ∀ b o, H b = some o → b ∉ S → H' b = some o) (f : ∀ b ∈ S', b ∈ S ∨ H b = none) : Same (hide H S) (hide H' S') := fun b o h => by
  obtain ⟨n, e⟩ := hide_some h
  refine hide_of (fun z => ?_) (k b o e n)
  rcases f b z with z | z
  · exact n z
  · rw [z] at e
    cases e

/-! ### rows of numbers in the heap -/
def RowV (K : PySem.W.Frag) (H : Hp) (v : V) (l : List Int) : Prop := ∃ b, v = .ref b ∧ SqL K H b (l.map V.int)
def Rows (K : PySem.W.Frag) (H : Hp) (a : Addr) (ls : List (List Int)) : Prop := ∃ vs, SqL K H a vs ∧ Paired (RowV K H) vs ls
theorem RowV.same {K : PySem.W.Frag} {H H' : Hp} {v : V} {l : List Int} (s : Same H H') (h : RowV K H v l) : RowV K H' v l := by
  obtain ⟨b, e, q⟩ := h
  exact ⟨b, e, s.seq q⟩
theorem Rows.same {K : PySem.W.Frag} {H H' : Hp} {a : Addr} {ls : List (List Int)} (s : Same H H') (h : Rows K H a ls) : Rows K H' a ls := by
  obtain ⟨vs, q, p⟩ := h
  exact ⟨vs, s.seq q, Paired.mapP p fun _ _ z => z.same s⟩
/-- rows that stand there themselves -/
def Row1V (H : Hp) (v : V) (l : List Int) : Prop := ∃ b, v = .ref b ∧ H b = some (.lst (l.map V.int))
def Rows1 (K : PySem.W.Frag) (H : Hp) (a : Addr) (ls : List (List Int)) : Prop := ∃ vs, SqL K H a vs ∧ Paired (Row1V H) vs ls
theorem Row1V.same {H H' : Hp} {v : V} {l : List Int} (s : Same H H') (h : Row1V H v l) : Row1V H' v l := by
  obtain ⟨b, e, q⟩ := h
  exact ⟨b, e, s _ _ q⟩
theorem Rows1.same {K : PySem.W.Frag} {H H' : Hp} {a : Addr} {ls : List (List Int)} (s : Same H H') (h : Rows1 K H a ls) : Rows1 K H' a ls := by
  obtain ⟨vs, q, p⟩ := h
  exact ⟨vs, s.seq q, Paired.mapP p fun _ _ z => z.same s⟩
theorem Rows1.rows {K : PySem.W.Frag} {H : Hp} {a : Addr} {ls : List (List Int)} (h : Rows1 K H a ls) : Rows K H a ls := by
  obtain ⟨vs, q, p⟩ := h
  exact ⟨vs, q, Paired.mapP p fun _ _ ⟨b, e, z⟩ => ⟨b, e, SqL.of z⟩⟩
/-- rows of which some may be tuples -/
def RowWV (K : PySem.W.Frag) (H : Hp) (v : V) (l : List Int) : Prop := ∃ b, v = .ref b ∧ SqQ K H b (l.map V.int)
def RowsW (K : PySem.W.Frag) (H : Hp) (a : Addr) (ls : List (List Int)) : Prop := ∃ vs, SqL K H a vs ∧ Paired (RowWV K H) vs ls
theorem RowWV.same {K : PySem.W.Frag} {H H' : Hp} {v : V} {l : List Int} (s : Same H H') (h : RowWV K H v l) : RowWV K H' v l := by
  obtain ⟨b, e, q⟩ := h
  exact ⟨b, e, q.same s⟩
theorem RowsW.same {K : PySem.W.Frag} {H H' : Hp} {a : Addr} {ls : List (List Int)} (s : Same H H') (h : RowsW K H a ls) : RowsW K H' a ls := by
  obtain ⟨vs, q, p⟩ := h
  exact ⟨vs, s.seq q, Paired.mapP p fun _ _ z => z.same s⟩
theorem Row1V.wide {K : PySem.W.Frag} {H : Hp} {v : V} {l : List Int} (h : Row1V H v l) : RowWV K H v l := by
  obtain ⟨b, e, q⟩ := h
  exact ⟨b, e, .inl (SqL.of q)⟩
theorem Rows1.wide {K : PySem.W.Frag} {H : Hp} {a : Addr} {ls : List (List Int)} (h : Rows1 K H a ls) : RowsW K H a ls := by
  obtain ⟨vs, q, p⟩ := h
  exact ⟨vs, q, Paired.mapP p fun _ _ z => z.wide⟩

section
variable {P : Program} {w : World} {K : PySem.W.Frag} {mg : Str → Option Value} {base : Heap} {aN aS aM : Addr}

/-! ### is_place -/
abbrev s_is_place : Stmt := topS 56
theorem sc_is_place : FnScope ["numbers", "number"] ["numbers"] (defScope s_is_place) := ⟨rfl, rfl, rfl, by decide +kernel, rfl, by decide +kernel, by decide +kernel⟩
def placeOk (l : List Int) : Bool := decide (l.length = 2) && l.all fun z => decide (-1000 ≤ z) && decide (z ≤ 1000)
def sp_is_place (K : PySem.W.Frag) : Sp := fun vs H Q _ => ∃ (a : Addr) (l : List Int), vs = [.ref a] ∧ SqL K H a (l.map V.int) ∧ l.length ≤ 10000 ∧ ∀ H', Same H H' → Q (.bl (placeOk l)) H'
theorem ok_is_place {f : Addr} {fd : FuncData} {k : Nat} (F : Fun K "is_place" "is_place" s_is_place f fd) (T : Txt K mg aN aS aM) : FnOk P w K mg base CX0 (k + 1) f fd ["numbers"] (sp_is_place K) := by
  refine F.ok sc_is_place (fun vs H Q E h => ?_) (fun cdv A outer s H vs Q E hr h => ?_)
  · obtain ⟨a, l, rfl, _⟩ := h
    rfl
  obtain ⟨a, l, rfl, hL, hlen, q⟩ := h
  refine ⟨_, (pss_one (ps_ret (pe_and (pe_cmpR op_eq (pe_callB (call_lenK (K := K) rfl) (by rfl) T.len PySem.boot_len (pa_cons (pv 0) pa_nil)) pe_int (nomark _)) (pe_one (pe_callB (cr_all rfl) (by rfl) T.all (by decide +kernel) (pa_cons (pe_lc (own := [("number", 1)]) rfl sc_is_place.nd (pi_list (pv 0)) (blkOk_by (N := ["numbers", "number"]) (sc := defScope s_is_place) (by decide +kernel)) (fun _ _ _ _ _ => (pg_name (i := 1) sc_is_place.nd rfl (Or.inl rfl))) (fun _ _ _ _ _ => pts_nil) (fun _ _ _ _ _ => (pe_chain op_le op_le (pe_un un_neg (pgI rfl T.gFARTHEST)) (pv 1) (pgI rfl T.gFARTHEST)))) pa_nil)))))), ?_⟩
  refine ⟨_, rfl, a, _, rfl, .inl hL, rfl, _, rfl, ?_⟩
  refine tEq (fun c => ?_) (fun c => ?_)
  · refine ⟨_, rfl, a, rfl, ⟨_, hL⟩, fun D nD => lc_list (xs := l.map V.int) (fun i H' => MadeV H D (((l.map fun z => decide (-1000 ≤ z) && decide (z ≤ 1000)).take i).map V.bl) H') (MadeV.start nD) (fun i H' _ M => M.1.seq hL) (fun i x H' hx M => ?_) (fun H' M => ?_)⟩
    · rw [List.getElem?_map] at hx
      obtain ⟨z, hz, rfl⟩ := Option.map_eq_some_iff.mp hx
      refine ⟨rfl, keepIt ?_⟩
      refine ⟨_, rfl, _, rfl, _, _, rfl, rfl, chain_le ?_⟩
      refine ⟨_, M.2, small_of (by rw [List.length_map, List.length_take, List.length_map]; omega), ?_⟩
      rw [take_map_succ hz, List.map_append]
      exact M.put nD _
    · rw [List.length_map, take_all_map] at M
      refine ⟨D, _, rfl, SqL.of M.2, ?_⟩
      have e : placeOk l = (l.map fun z => decide (-1000 ≤ z) && decide (z ≤ 1000)).all id := by
        unfold placeOk
        have c' : l.length = 2 := by
          rw [List.length_map] at c
          omega
        rw [decide_eq_true c', Bool.true_and, List.all_map]
        rfl
      rw [← e]
      exact q H' M.1
  · have e : placeOk l = false := by
      unfold placeOk
      have c' : ¬ l.length = 2 := by
        rw [List.length_map] at c
        omega
      rw [decide_eq_false c', Bool.false_and]
    have := q H (Same.refl _)
    rw [e] at this
    exact this

/-! ### is_saying -/
abbrev s_is_saying : Stmt := topS 15
theorem sc_is_saying : FnScope ["saying"] ["saying"] (defScope s_is_saying) := ⟨rfl, rfl, rfl, by decide +kernel, rfl, by decide +kernel, by decide +kernel⟩
def sp_is_saying (K : PySem.W.Frag) : Sp := fun vs H Q _ => ∃ (a : Addr) (l : List Int), vs = [.ref a] ∧ SqL K H a (l.map V.int) ∧ (∀ z ∈ l, (0 : Int) ≤ z) ∧ Q (.bl (Mu51.sayOf l).isSome) H
theorem ok_is_saying {f : Addr} {fd : FuncData} {k : Nat} (F : Fun K "is_saying" "is_saying" s_is_saying f fd) (T : Txt K mg aN aS aM) : FnOk P w K mg base CX0 (k + 1) f fd ["saying"] (sp_is_saying K) := by
  refine F.ok sc_is_saying (fun vs H Q E h => ?_) (fun cdv A outer s H vs Q E hr h => ?_)
  · obtain ⟨a, l, rfl, _⟩ := h
    rfl
  obtain ⟨a, l, rfl, hL, hn, q⟩ := h
  refine ⟨_, (pss_cons (ps_if (PW.pt (pw_or (pt_cmpR op_eq (pe_callB (call_lenK (K := K) rfl) (by rfl) T.len PySem.boot_len (pa_cons (pv 0) pa_nil)) pe_int (nomark _)) (pw_or1 (pt_cmpR op_ge (pe_ix ix_list (pv 0) pe_int (fun _ _ => rfl)) (pe_callB (call_lenK (K := K) rfl) (by rfl) T.len PySem.boot_len (pa_cons (pgR rfl T.gSAYING_LENGTHS) pa_nil)) (nomark _))))) (pss_one (ps_ret pe_bl))
        pss_nil)
      (pss_one (ps_ret (pe_cmpR op_eq (pe_callB (call_lenK (K := K) rfl) (by rfl) T.len PySem.boot_len (pa_cons (pv 0) pa_nil)) (pe_ix ix_tup (pgR rfl T.gSAYING_LENGTHS) (pe_ix ix_list (pv 0) pe_int (fun _ _ => rfl)) (fun _ _ => rfl)) (nomark _))))), ?_⟩
  refine ⟨_, rfl, a, _, rfl, .inl hL, rfl, _, rfl, ?_⟩
  cases l with
  | nil =>
    exact iteT (iteT q)
  | cons x r =>
    refine tEq (fun c => absurd c (by rw [List.length_map, List.length_cons]; omega)) (fun _ => ?_)
    have hx : (0 : Int) ≤ x := hn x List.mem_cons_self
    obtain ⟨h, rfl⟩ := Int.eq_ofNat_of_zero_le hx
    rw [sayOf_isSome (fun z hz => hn z (List.mem_cons_of_mem _ hz))] at q
    refine ⟨_, rfl, a, _, 0, _, rfl, rfl, hL, atI_nat (j := 0) (v := V.int h) rfl, aS, _, rfl, .inr (T.nSAYING_LENGTHS.sq _), _, _, rfl, rfl, _, rfl, ?_⟩
    refine tDec (fun c => ?_) (fun c => ?_)
    · have hh : 8 ≤ h := by
        have c' : ((sayLen.map fun (n : Nat) => V.int n).length : Int) ≤ (h : Int) := c
        rw [List.length_map] at c'
        have : sayLen.length = 8 := rfl
        omega
      have e : sayLen[h]? = none := List.getElem?_eq_none (by show 8 ≤ h; exact hh)
      rw [e] at q
      exact q
    · have hh : h < 8 := by
        have c' : ¬ ((sayLen.map fun (n : Nat) => V.int n).length : Int) ≤ (h : Int) := c
        rw [List.length_map] at c'
        have : sayLen.length = 8 := rfl
        omega
      obtain ⟨m, hm⟩ : ∃ m, sayLen[h]? = some m := ⟨sayLen[h], List.getElem?_eq_getElem (by show h < 8; exact hh)⟩
      refine ⟨_, rfl, a, _, rfl, .inl hL, _, rfl, a, _, 0, _, rfl, rfl, hL, atI_nat (j := 0) (v := V.int h) rfl, aS, _, _, _, rfl, rfl, T.nSAYING_LENGTHS.sq _, atI_nat (v := V.int m) (by rw [List.getElem?_map, hm]; rfl), rfl, ?_⟩
      rw [dEq]
      have e : decide (((((h : Int) :: r).map V.int).length : Int) = (m : Int)) = decide (sayLen[h]? = some (r.length + 1)) := by
        rw [hm, List.length_map, List.length_cons]
        by_cases c : m = r.length + 1
        · subst c
          simp
        · rw [decide_eq_false (by omega), decide_eq_false (fun z => c (Option.some.inj z))]
      rw [e]
      exact q
end
end Gk
namespace Gk
open PySem PySem.Spec PyProof.Rows L2

theorem cut_mid (xs : List V) (a b : Nat) (h : a ≤ b) (k : b ≤ xs.length) : cutV xs (some (a : Int)) (some (b : Int)) = (xs.drop a).take (b - a) := by
  unfold cutV
  rw [HT.sIx_nat, HT.sIx_nat, Nat.min_eq_left (Nat.le_trans h k), Nat.min_eq_left k]
theorem cut_from (xs : List V) (a : Nat) (k : a ≤ xs.length) : cutV xs (some (a : Int)) none = xs.drop a := by
  unfold cutV
  rw [HT.sIx_nat, HT.sIx_none, Nat.min_eq_left k, List.take_of_length_le (by rw [List.length_drop]; exact Nat.le_refl _)]
theorem allGood_at {ls : List (List Int)} {i : Nat} {l : List Int} (h : ls[i]? = some l) : allGood i (ls.drop i) = (goodAt i l && allGood (i + 1) (ls.drop (i + 1))) := by
  rw [drop_get h]
  rfl
theorem halves_snoc {t : Mu51.Text} {i : Nat} {s : Mu51.Say} (h : t[i]? = some s) : Mu51.halves (t.take (i + 1)) = Mu51.halves (t.take i) + (if halfish s = true then 1 else 0) := by
  rw [take_succ_get h]
  unfold Mu51.halves
  rw [List.filter_append, List.length_append]
  congr 1
  cases s <;> rfl
theorem encT_get {t : Mu51.Text} {i : Nat} {l : List Int} (h : (encT t)[i]? = some l) : ∃ s, t[i]? = some s ∧ l = encS s := by
  unfold encT at h
  rw [List.getElem?_map] at h
  obtain ⟨s, h1, h2⟩ := Option.map_eq_some_iff.mp h
  exact ⟨s, h1, h2.symm⟩
theorem encT_len (t : Mu51.Text) : (encT t).length = t.length := List.length_map _

section
variable {P : Program} {w : World} {K : PySem.W.Frag} {mg : Str → Option Value} {base : Heap} {aN aS aM : Addr}

/-! ### is_text -/
abbrev s_is_text : Stmt := topS 16
theorem sc_is_text : FnScope ["sayings", "number", "saying"] ["sayings"] (defScope s_is_text) := ⟨rfl, rfl, rfl, by decide +kernel, rfl, by decide +kernel, by decide +kernel⟩
def sp_is_text (K : PySem.W.Frag) : Sp := fun vs H Q _ => ∃ (a : Addr) (ls : List (List Int)), vs = [.ref a] ∧ Rows K H a ls ∧ (∀ l ∈ ls, ∀ z ∈ l, (0 : Int) ≤ z) ∧ ∀ H', Same H H' → Q (.bl (textOk ls)) H'
theorem ok_is_text {f : Addr} {fd : FuncData} {k : Nat} (F : Fun K "is_text" "is_text" s_is_text f fd) (T : Txt K mg aN aS aM) (C_is_saying : Cal P w K mg base 1 "is_saying" ["saying"] (sp_is_saying K)) : FnOk P w K mg base CX0 (k + 2) f fd ["sayings"] (sp_is_text K) := by
  refine F.ok sc_is_text (fun vs H Q E h => ?_) (fun cdv A outer s H vs Q E hr h => ?_)
  · obtain ⟨a, l, rfl, _⟩ := h
    rfl
  obtain ⟨a, ls, rfl, ⟨vs, hL, hP⟩, hn, q⟩ := h
  refine ⟨_, (pss_cons (ps_if (pt_not (pt_chain op_le op_le pe_int (pe_callB (call_lenK (K := K) rfl) (by rfl) T.len PySem.boot_len (pa_cons (pv 0) pa_nil)) (pgI rfl T.gMOST_SAYINGS))) (pss_one (ps_ret pe_bl))
        pss_nil)
      (pss_cons (ps_for PassesOwn.never rfl (pi_enum (by rfl) T.enumerate (pa_cons (pv 0) pa_nil)) (pg_tup rfl (pgs_cons (pg_name (i := 1) sc_is_text.nd rfl (Or.inl rfl)) (pgs_cons (pg_name (i := 2) sc_is_text.nd rfl (Or.inl rfl)) pgs_nil)))
        (pss_one (ps_if (PW.pt (pw_or (pt_not (pt_val (pcall C_is_saying (hr.mono (by omega)) rfl (pa_cons (pv 2) pa_nil)))) (pw_or1 (pt_cmpR op_ne (pe_cmpR op_eq (pe_ix ix_list (pv 2) pe_int (fun _ _ => rfl)) (pgI rfl T.gSTAND) (nomark _)) (pe_cmpR op_eq (pv 1) pe_int (nomark _)) (nomark _))))) (pss_one (ps_ret pe_bl))
          pss_nil)))
      (pss_one (ps_ret pe_bl)))), ?_⟩
  have el := pairLen hP
  refine ⟨_, rfl, a, _, rfl, .inl hL, _, _, rfl, rfl, chain_le ⟨_, rfl, ?_⟩⟩
  refine tNot' (fun c => ?_) (fun c => ?_)
  · have e : textOk ls = false := by
      unfold textOk
      rw [← el]
      have c' : (decide (1 ≤ vs.length) && decide (vs.length ≤ 14)) = false := by
        rw [← c]
        congr 1
        · rw [decide_eq_decide]
          omega
        · rw [decide_eq_decide]
          omega
      rw [c', Bool.false_and]
    have := q H (Same.refl _)
    rw [e] at this
    exact this
  · have c' : (decide (1 ≤ ls.length) && decide (ls.length ≤ 14)) = true := by
      rw [← c, ← el]
      congr 1
      · rw [decide_eq_decide]
        omega
      · rw [decide_eq_decide]
        omega
    have ht : textOk ls = allGood 0 ls := by
      unfold textOk
      rw [c', Bool.true_and]
    refine ⟨_, rfl, a, vs, rfl, hL, for_it (walk_enum (xs := vs)) (fun i σ H' => ∃ z1 z2, σ = [some (.ref a), z1, z2] ∧ Same H H' ∧ allGood 0 ls = allGood i (ls.drop i)) ⟨none, none, rfl, Same.refl _, rfl⟩ (fun i σ H' _ ⟨_, _, _, s1, _⟩ => s1.seq hL) ?_ ?_⟩
    · rintro i x σ H1 H2 hi ⟨z1, z2, rfl, s1, hg⟩ ⟨z, x1, x2, rfl, nz, rfl, e1, e2⟩
      cases e1
      obtain ⟨l, hl, b, rfl, hb⟩ := pairGet hP e2
      have s2 : Same H (upd H1 z (.tup [.int (i : Nat), .ref b])) := s1.trans (same_upd nz)
      refine ⟨z, _, rfl, SqT.of upd_same, rfl, _, _, rfl, _, _, rfl, rfl, ?_⟩
      have hb2 := s2.seq hb
      have hln : ∀ z ∈ l, (0 : Int) ≤ z := hn l (List.mem_of_getElem? hl)
      have hgi := hg.trans (allGood_at hl)
      refine ⟨_, rfl, b, l, rfl, hb2, hln, _, rfl, ?_⟩
      cases hs : Mu51.sayOf l with
      | none =>
        have e : textOk ls = false := by
          rw [ht, hgi, goodAt, hs, Bool.false_and]
        have := q _ s2
        rw [e] at this
        exact iteT (iteT this)
      | some say =>
        have es := encS_inv hln hs
        obtain ⟨h, r, e', _, _, e4⟩ := encS_head say
        refine iteF ?_
        rw [es, e'] at hb2
        refine ⟨_, rfl, b, _, 0, _, rfl, rfl, hb2, atI_nat (j := 0) (v := V.int h) rfl, rfl, _, rfl, rfl, rfl, _, rfl, ?_⟩
        have eh : decide (V.int (h : Int) = V.int 0) = isStand say := by
          rw [dEq]
          by_cases c : h = 0
          · rw [decide_eq_true (by omega), e4.mp c]
          · rw [decide_eq_false (by omega)]
            cases hq : isStand say with
            | false => rfl
            | true => exact absurd (e4.mpr hq) c
        have ei : decide (V.int (i : Int) = V.int 0) = decide (i = 0) := by
          rw [dEq, decide_eq_decide]
          omega
        rw [eh, ei]
        have hgood : goodAt i l = (isStand say == decide (i = 0)) := by
          rw [goodAt, hs]
        refine tNot' (fun c => ?_) (fun c => ?_)
        · have c2 : (isStand say == decide (i = 0)) = false := by
            have c3 := of_decide_eq_false c
            exact beq_eq_false_iff_ne.mpr fun z => c3 (by rw [z])
          have e : textOk ls = false := by
            rw [ht, hgi, hgood, c2, Bool.false_and]
          have := q _ s2
          rw [e] at this
          exact this
        · have c2 : (isStand say == decide (i = 0)) = true := by
            have c3 := of_decide_eq_true c
            injection c3 with c3
            rw [c3]
            exact beq_self_eq_true _
          refine ⟨_, _, rfl, s2, ?_⟩
          rw [hgi, hgood, c2, Bool.true_and]
    · rintro σ H' ⟨z1, z2, rfl, s1, hg⟩
      have e : textOk ls = true := by
        rw [ht, hg, el, List.drop_length]
        rfl
      have := q _ s1
      rw [e] at this
      exact this

/-! ### can_follow -/
abbrev s_can_follow : Stmt := topS 17
theorem sc_can_follow : FnScope ["saying", "landmarks", "pegs", "sort", "peg"] ["saying", "landmarks", "pegs"] (defScope s_can_follow) := ⟨rfl, rfl, rfl, by decide +kernel, rfl, by decide +kernel, by decide +kernel⟩
def sp_can_follow (K : PySem.W.Frag) : Sp := fun vs H Q _ => ∃ (a : Addr) (say : Mu51.Say) (n p : Nat), vs = [.ref a, .int n, .int p] ∧ SqL K H a ((encS say).map V.int) ∧ ∀ H', Same H H' → Q (.bl (okSay n p say)) H'
theorem ok_can_follow {f : Addr} {fd : FuncData} {k : Nat} (F : Fun K "can_follow" "can_follow" s_can_follow f fd) (T : Txt K mg aN aS aM) : FnOk P w K mg base CX0 (k + 1) f fd ["saying", "landmarks", "pegs"] (sp_can_follow K) := by
  refine F.ok sc_can_follow (fun vs H Q E h => ?_) (fun cdv A outer s H vs Q E hr h => ?_)
  · obtain ⟨a, say, n, p, rfl, _⟩ := h
    rfl
  obtain ⟨a, say, n, p, rfl, hL, q⟩ := h
  refine ⟨_, (pss_cons (ps_set (i := 3) sc_can_follow.nd rfl (Or.inl rfl) (pe_ix ix_list (pv 0) pe_int (fun _ _ => rfl)))
      (pss_cons (ps_if (PW.pt (pw_or (pt_cmpR op_eq (pv 3) (pgI rfl T.gSTAND) (nomark _)) (pw_or1 (pt_cmpR op_eq (pv 3) (pgI rfl T.gTO_LANDMARK) (nomark _))))) (pss_one (ps_ret (pe_cmpR op_lt (pe_ix ix_list (pv 0) pe_int (fun _ _ => rfl)) (pv 1) (nomark _))))
        pss_nil)
      (pss_cons (ps_if (PW.pt (pw_or (pt_cmpR op_eq (pv 3) (pgI rfl T.gTURN) (nomark _)) (pw_or1 (pt_cmpR op_eq (pv 3) (pgI rfl T.gGO_ON) (nomark _))))) (pss_one (ps_ret (pe_chain op_le op_le pe_int (pe_ix ix_list (pv 0) pe_int (fun _ _ => rfl)) (pgI rfl T.gMOST_TIMES))))
        pss_nil)
      (pss_one (ps_ret (pe_callB (cr_all rfl) (by rfl) T.all (by decide +kernel) (pa_cons (pe_lc (own := [("peg", 4)]) rfl sc_can_follow.nd (pi_list (pe_slice sl_list (pv 0) (po_some pe_int) po_none)) (blkOk_by (N := ["saying", "landmarks", "pegs", "sort", "peg"]) (sc := defScope s_can_follow) (by decide +kernel)) (fun _ _ _ _ _ => (pg_name (i := 4) sc_can_follow.nd rfl (Or.inl rfl))) (fun _ _ _ _ _ => pts_nil) (fun _ _ _ _ _ => (pe_cmpR op_lt (pv 4) (pv 2) (nomark _)))) pa_nil))))))), ?_⟩
  have alt : (∃ (h : Int) (r : List Int), encS say = h :: r ∧ okSay n p say = (r.map fun z => decide (z < (p : Int))).all id ∧ h ≠ 0 ∧ h ≠ 1 ∧ h ≠ 3 ∧ h ≠ 4 ∧ r.length ≤ 10) ∨ (∃ k, say = .stand k) ∨ (∃ k, say = .to k) ∨ (∃ k, say = .turn k) ∨ (∃ k, say = .on k) := by
    cases say with
    | stand k => exact .inr (.inl ⟨k, rfl⟩)
    | to k => exact .inr (.inr (.inl ⟨k, rfl⟩))
    | turn k => exact .inr (.inr (.inr (.inl ⟨k, rfl⟩)))
    | on k => exact .inr (.inr (.inr (.inr ⟨k, rfl⟩)))
    | back j =>
      refine .inl ⟨2, [(j : Int)], rfl, ?_, by decide, by decide, by decide, by decide, by simp⟩
      show decide (j < p) = (decide ((j : Int) < (p : Int)) && true)
      rw [Bool.and_true, decide_eq_decide]
      omega
    | half => exact .inl ⟨5, [], rfl, rfl, by decide, by decide, by decide, by decide, by decide⟩
    | peg => exact .inl ⟨6, [], rfl, rfl, by decide, by decide, by decide, by decide, by decide⟩
    | between j k =>
      refine .inl ⟨7, [(j : Int), (k : Int)], rfl, ?_, by decide, by decide, by decide, by decide, by simp⟩
      show (decide (j < p) && decide (k < p)) = (decide ((j : Int) < (p : Int)) && (decide ((k : Int) < (p : Int)) && true))
      rw [Bool.and_true]
      congr 1 <;> (rw [decide_eq_decide]; omega)
  have q0 := q H (Same.refl _)
  rcases alt with ⟨h, r, e, hok, n0, n1, n3, n4, hlr⟩ | ⟨k, rfl⟩ | ⟨k, rfl⟩ | ⟨t, rfl⟩ | ⟨t, rfl⟩
  · rw [e] at hL
    refine ⟨_, rfl, a, _, 0, _, rfl, rfl, hL, atI_nat (j := 0) (v := V.int h) rfl, ?_⟩
    refine ⟨_, rfl, rfl, _, rfl, ?_⟩
    refine tEq (fun c => absurd c n0) (fun _ => ?_)
    refine ⟨_, rfl, rfl, _, rfl, ?_⟩
    refine tEq (fun c => absurd c n1) (fun _ => ?_)
    refine ⟨_, rfl, rfl, _, rfl, ?_⟩
    refine tEq (fun c => absurd c n3) (fun _ => ?_)
    refine ⟨_, rfl, rfl, _, rfl, ?_⟩
    refine tEq (fun c => absurd c n4) (fun _ => ?_)
    refine ⟨_, rfl, 1, rfl, a, _, rfl, hL, fun b nb => ?_⟩
    have ec : cutV ((h :: r).map V.int) (some 1) none = r.map V.int := by
      rw [show (1 : Int) = ((1 : Nat) : Int) from rfl, cut_from _ 1 (by rw [List.length_map, List.length_cons]; omega)]
      rfl
    rw [ec]
    have s1 : Same H (upd H b (.lst (r.map V.int))) := same_upd nb
    have hB : SqL K (upd H b (.lst (r.map V.int))) b (r.map V.int) := SqL.of upd_same
    refine ⟨b, rfl, ⟨_, hB⟩, fun D nD => lc_list (xs := r.map V.int) (fun i H' => MadeV (upd H b (.lst (r.map V.int))) D (((r.map fun z => decide (z < (p : Int))).take i).map V.bl) H') (MadeV.start nD) (fun i H' _ M => M.1.seq hB) (fun i x H' hx M => ?_) (fun H' M => ?_)⟩
    · rw [List.getElem?_map] at hx
      obtain ⟨z, hz, rfl⟩ := Option.map_eq_some_iff.mp hx
      refine ⟨rfl, keepIt ?_⟩
      refine ⟨_, rfl, _, rfl, _, _, rfl, rfl, ?_⟩
      refine ⟨_, M.2, small_of (by rw [List.length_map, List.length_take, List.length_map]; omega), ?_⟩
      rw [take_map_succ hz, List.map_append]
      exact M.put nD _
    · rw [List.length_map, take_all_map] at M
      refine ⟨D, _, rfl, SqL.of M.2, ?_⟩
      rw [← hok]
      exact q H' (s1.trans M.1)
  · refine ⟨_, rfl, a, _, 0, _, rfl, rfl, hL, atI_nat (j := 0) (v := V.int 0) rfl, _, rfl, rfl, _, rfl, iteT (iteT ?_)⟩
    refine ⟨_, rfl, a, _, 1, _, rfl, rfl, hL, atI_nat (j := 1) (v := V.int k) rfl, _, rfl, _, _, rfl, rfl, ?_⟩
    show Q (.bl (decide ((k : Int) < (n : Int)))) H
    rw [show decide ((k : Int) < (n : Int)) = decide (k < n) by rw [decide_eq_decide]; omega]
    exact q0
  · refine ⟨_, rfl, a, _, 0, _, rfl, rfl, hL, atI_nat (j := 0) (v := V.int 1) rfl, _, rfl, rfl, _, rfl, iteF ⟨_, rfl, rfl, _, rfl, iteT ?_⟩⟩
    refine ⟨_, rfl, a, _, 1, _, rfl, rfl, hL, atI_nat (j := 1) (v := V.int k) rfl, _, rfl, _, _, rfl, rfl, ?_⟩
    show Q (.bl (decide ((k : Int) < (n : Int)))) H
    rw [show decide ((k : Int) < (n : Int)) = decide (k < n) by rw [decide_eq_decide]; omega]
    exact q0
  · refine ⟨_, rfl, a, _, 0, _, rfl, rfl, hL, atI_nat (j := 0) (v := V.int 3) rfl, _, rfl, rfl, _, rfl, iteF ⟨_, rfl, rfl, _, rfl, iteF ⟨_, rfl, rfl, _, rfl, iteT (iteT ?_)⟩⟩⟩
    refine ⟨_, rfl, a, _, 1, _, rfl, rfl, hL, atI_nat (j := 1) (v := V.int t) rfl, _, _, rfl, rfl, chain_le ?_⟩
    show Q (.bl (decide ((1 : Int) ≤ (t : Int)) && decide ((t : Int) ≤ 3))) H
    rw [show (decide ((1 : Int) ≤ (t : Int)) && decide ((t : Int) ≤ 3)) = (decide (1 ≤ t) && decide (t ≤ 3)) by congr 1 <;> (rw [decide_eq_decide]; omega)]
    exact q0
  · refine ⟨_, rfl, a, _, 0, _, rfl, rfl, hL, atI_nat (j := 0) (v := V.int 4) rfl, _, rfl, rfl, _, rfl, iteF ⟨_, rfl, rfl, _, rfl, iteF ⟨_, rfl, rfl, _, rfl, iteF ⟨_, rfl, rfl, _, rfl, iteT ?_⟩⟩⟩⟩
    refine ⟨_, rfl, a, _, 1, _, rfl, rfl, hL, atI_nat (j := 1) (v := V.int t) rfl, _, _, rfl, rfl, chain_le ?_⟩
    show Q (.bl (decide ((1 : Int) ≤ (t : Int)) && decide ((t : Int) ≤ 3))) H
    rw [show (decide ((1 : Int) ≤ (t : Int)) && decide ((t : Int) ≤ 3)) = (decide (1 ≤ t) && decide (t ≤ 3)) by congr 1 <;> (rw [decide_eq_decide]; omega)]
    exact q0

/-! ### count_followed -/
abbrev s_count_followed : Stmt := topS 18
theorem sc_count_followed : FnScope ["sayings", "landmarks", "pegs", "number", "saying"] ["sayings", "landmarks"] (defScope s_count_followed) := ⟨rfl, rfl, rfl, by decide +kernel, rfl, by decide +kernel, by decide +kernel⟩
def followed (n : Nat) (t : Mu51.Text) : Nat := (Mu51.wrongAt n 0 0 t).getD t.length
def sp_count_followed (K : PySem.W.Frag) : Sp := fun vs H Q _ => ∃ (a : Addr) (t : Mu51.Text) (n : Nat), vs = [.ref a, .int n] ∧ Rows K H a (encT t) ∧ ∀ H', Same H H' → Q (.int (followed n t : Nat)) H'
theorem ok_count_followed {f : Addr} {fd : FuncData} {k : Nat} (F : Fun K "count_followed" "count_followed" s_count_followed f fd) (T : Txt K mg aN aS aM) (C_can_follow : Cal P w K mg base 1 "can_follow" ["saying", "landmarks", "pegs"] (sp_can_follow K)) :
    FnOk P w K mg base CX0 (k + 2) f fd ["sayings", "landmarks"] (sp_count_followed K) := by
  refine F.ok sc_count_followed (fun vs H Q E h => ?_) (fun cdv A outer s H vs Q E hr h => ?_)
  · obtain ⟨a, t, n, rfl, _⟩ := h
    rfl
  obtain ⟨a, t, n, rfl, ⟨vs, hL, hP⟩, q⟩ := h
  refine ⟨_, (pss_cons (ps_set (i := 2) sc_count_followed.nd rfl (Or.inl rfl) pe_int)
      (pss_cons (ps_for PassesOwn.never rfl (pi_enum (by rfl) T.enumerate (pa_cons (pv 0) pa_nil)) (pg_tup rfl (pgs_cons (pg_name (i := 3) sc_count_followed.nd rfl (Or.inl rfl)) (pgs_cons (pg_name (i := 4) sc_count_followed.nd rfl (Or.inl rfl)) pgs_nil)))
        (pss_cons (ps_if (pt_not (pt_val (pcall C_can_follow (hr.mono (by omega)) rfl (pa_cons (pv 4) (pa_cons (pv 1) (pa_cons (pv 2) pa_nil)))))) (pss_one (ps_ret (pv 3)))
          pss_nil)
        (pss_one (ps_if (pt_cmpR op_eq (pe_ix ix_list (pv 4) pe_int (fun _ _ => rfl)) (pgI rfl T.gDRIVE) (nomark _)) (pss_one (ps_set (i := 2) sc_count_followed.nd rfl (Or.inl rfl) (pe_op op_add (pv 2) pe_int)))
          pss_nil))))
      (pss_one (ps_ret (pe_callB (call_lenK (K := K) rfl) (by rfl) T.len PySem.boot_len (pa_cons (pv 0) pa_nil)))))), ?_⟩
  have el : vs.length = t.length := (pairLen hP).trans (encT_len t)
  refine ⟨_, rfl, a, vs, rfl, hL, for_it (walk_enum (xs := vs)) (fun i σ H' => ∃ z3 z4, σ = [some (.ref a), some (.int n), some (.int (pegsAt t i : Nat)), z3, z4] ∧ Same H H' ∧ Fol n t i) ⟨none, none, rfl, Same.refl _, Fol.zero n t⟩ (fun i σ H' _ ⟨_, _, _, s1, _⟩ => s1.seq hL) ?_ ?_⟩
  · rintro i x σ H1 H2 hi ⟨z1, z2, rfl, s1, hf⟩ ⟨z, x1, x2, rfl, nz, rfl, e1, e2⟩
    cases e1
    obtain ⟨l, hl, b, rfl, hb⟩ := pairGet hP e2
    obtain ⟨say, hs, rfl⟩ := encT_get hl
    have s2 : Same H (upd H1 z (.tup [.int (i : Nat), .ref b])) := s1.trans (same_upd nz)
    refine ⟨z, _, rfl, SqT.of upd_same, rfl, _, _, rfl, _, _, rfl, rfl, ?_⟩
    refine ⟨_, rfl, _, rfl, _, rfl, b, say, n, pegsAt t i, rfl, s2.seq hb, fun H3 s3 => ⟨_, rfl, ?_⟩⟩
    refine tNot' (fun c => ?_) (fun c => ?_)
    · refine ⟨_, rfl, ?_⟩
      have e : followed n t = i := by
        unfold followed
        rw [hf.bad hs c]
        rfl
      have := q H3 (s2.trans s3)
      rw [e] at this
      exact this
    · have hb3 := s3.seq (s2.seq hb)
      obtain ⟨h, r, e', _⟩ := encS_head say
      have hhead : (h = 6 ↔ isPeg say = true) := by
        cases say <;> (unfold encS at e'; injection e' with e1 e2; unfold isPeg; simp; omega)
      rw [e'] at hb3
      refine ⟨_, rfl, b, _, 0, _, rfl, rfl, hb3, atI_nat (j := 0) (v := V.int h) rfl, rfl, _, rfl, ?_⟩
      refine tEq (fun d => ?_) (fun d => ?_)
      · refine ⟨_, rfl, _, _, rfl, rfl, some (.int i), some (.ref b), ?_, s2.trans s3, hf.succ hs c⟩
        have : pegsAt t (i + 1) = pegsAt t i + 1 := by
          rw [pegsAt_succ hs, pegs', if_pos (hhead.mp (by omega))]
        rw [this]
        rfl
      · refine ⟨some (.int i), some (.ref b), ?_, s2.trans s3, hf.succ hs c⟩
        have : pegsAt t (i + 1) = pegsAt t i := by
          rw [pegsAt_succ hs, pegs', if_neg (fun z => d (by have := hhead.mpr z; omega))]
        rw [this]
        rfl
  · rintro σ H' ⟨z1, z2, rfl, s1, hf⟩
    refine ⟨_, rfl, a, vs, rfl, .inl (s1.seq hL), ?_⟩
    rw [el] at hf
    have e : followed n t = vs.length := by
      unfold followed
      rw [hf.ends, el]
      rfl
    have := q H' s1
    rw [e] at this
    exact this

/-! ### is_too_fine -/
abbrev s_is_too_fine : Stmt := topS 19
theorem sc_is_too_fine : FnScope ["sayings", "saying"] ["sayings"] (defScope s_is_too_fine) := ⟨rfl, rfl, rfl, by decide +kernel, rfl, by decide +kernel, by decide +kernel⟩
def sp_is_too_fine (K : PySem.W.Frag) : Sp := fun vs H Q _ => ∃ (a : Addr) (t : Mu51.Text), vs = [.ref a] ∧ Rows K H a (encT t) ∧ t.length ≤ 10000 ∧ ∀ H', Same H H' → Q (.bl (decide (8 < Mu51.halves t))) H'
theorem ok_is_too_fine {f : Addr} {fd : FuncData} {k : Nat} (F : Fun K "is_too_fine" "is_too_fine" s_is_too_fine f fd) (T : Txt K mg aN aS aM) : FnOk P w K mg base CX0 (k + 1) f fd ["sayings"] (sp_is_too_fine K) := by
  refine F.ok sc_is_too_fine (fun vs H Q E h => ?_) (fun cdv A outer s H vs Q E hr h => ?_)
  · obtain ⟨a, t, rfl, _⟩ := h
    rfl
  obtain ⟨a, t, rfl, ⟨vs, hL, hP⟩, hlen, q⟩ := h
  refine ⟨_, (pss_one (ps_ret (pe_cmpR op_gt (pe_callB (call_lenK (K := K) rfl) (by rfl) T.len PySem.boot_len (pa_cons (pe_lc (own := [("saying", 1)]) rfl sc_is_too_fine.nd (pi_list (pv 0)) (blkOk_by (N := ["sayings", "saying"]) (sc := defScope s_is_too_fine) (by decide +kernel)) (fun _ _ _ _ _ => (pg_name (i := 1) sc_is_too_fine.nd rfl (Or.inl rfl))) (fun _ _ _ _ _ => (pts_one (PW.pt (pw_or (pt_cmpR op_eq (pe_ix (ix_listK (K := K) rfl) (pv 1) pe_int (fun _ _ => rfl)) (pgI rfl T.gGO_HALF) (nomark _)) (pw_or1 (pt_cmpR op_eq (pe_ix (ix_listK (K := K) rfl) (pv 1) pe_int (fun _ _ => rfl)) (pgI rfl T.gHALFWAY) (nomark _))))))) (fun _ _ _ _ _ => (pv 1))) pa_nil)) (pgI rfl T.gMOST_HALVINGS) (nomark _)))), ?_⟩
  have el : vs.length = t.length := (pairLen hP).trans (encT_len t)
  refine ⟨_, rfl, a, rfl, ⟨_, hL⟩, fun D nD => lc_list (xs := vs) (fun i H' => ∃ us, us.length = Mu51.halves (t.take i) ∧ MadeV H D us H') ⟨[], rfl, MadeV.start nD⟩ (fun i H' _ ⟨_, _, M⟩ => M.1.seq hL) (fun i x H' hx ⟨us, eu, M⟩ => ?_) (fun H' ⟨us, eu, M⟩ => ?_)⟩
  · obtain ⟨l, hl, b, rfl, hb⟩ := pairGet hP hx
    obtain ⟨say, hs, rfl⟩ := encT_get hl
    have hb1 := M.1.seq hb
    obtain ⟨h, r, e', _⟩ := encS_head say
    have hhead : (h = 5 ∨ h = 7 ↔ halfish say = true) := by
      cases say <;> (unfold encS at e'; injection e' with e1 e2; unfold halfish; simp; omega)
    rw [e'] at hb1
    have hsz : us.length < sizeLine := small_of (by
      have h1 := halves_take t i
      have h2 : Mu51.halves t ≤ t.length := List.length_filter_le _ _
      omega)
    have yes : halfish say = true → ∃ us', us'.length = Mu51.halves (t.take (i + 1)) ∧ MadeV H D us' (upd H' D (.lst (us ++ [.ref b]))) := fun hh => ⟨us ++ [.ref b], by rw [halves_snoc hs, if_pos hh, List.length_append, eu]; rfl, M.put nD _⟩
    refine ⟨rfl, _, rfl, b, _, 0, _, rfl, rfl, hb1, atI_nat (j := 0) (v := V.int h) rfl, rfl, _, rfl, ?_⟩
    refine tEq (fun d => ?_) (fun d => ?_)
    · exact iteT ⟨_, rfl, us, M.2, hsz, yes (hhead.mp (.inl (by omega)))⟩
    · refine ⟨_, rfl, b, _, 0, _, rfl, rfl, hb1, atI_nat (j := 0) (v := V.int h) rfl, rfl, _, rfl, ?_⟩
      refine tEq (fun d2 => ?_) (fun d2 => ?_)
      · exact ⟨_, rfl, us, M.2, hsz, yes (hhead.mp (.inr (by omega)))⟩
      · refine ⟨us, ?_, M⟩
        rw [halves_snoc hs, if_neg (fun z => by have := hhead.mpr z; omega), eu]
        rfl
  · rw [el, List.take_length] at eu
    refine ⟨D, us, rfl, .inl (SqL.of M.2), _, _, rfl, rfl, ?_⟩
    have e : decide ((8 : Int) < (us.length : Int)) = decide (8 < Mu51.halves t) := by
      rw [eu, decide_eq_decide]
      omega
    show Q (.bl (decide ((8 : Int) < (us.length : Int)))) H'
    rw [e]
    exact q H' M.1
end
end Gk
namespace Gk
open PySem PySem.Spec PyProof.Rows L2

/-! ### fields -/
theorem lk_here {k : Str} {v : V} {r : List (Str × V)} : List.lookup k ((k, v) :: r) = some v := by
  have e : (k == k) = true := beq_self_eq_true k
  simp only [List.lookup, e]
theorem lk_past {k g : Str} {v : V} {r : List (Str × V)} (h : (k == g) = false) : List.lookup k ((g, v) :: r) = List.lookup k r := by
  simp only [List.lookup, h]
theorem put_here {f : Str} {v x : V} {r : List (Str × V)} : putF f v ((f, x) :: r) = (f, v) :: r := if_pos rfl
theorem put_past {f g : Str} {v x : V} {r : List (Str × V)} (h : ¬ g = f) : putF f v ((g, x) :: r) = (g, x) :: putF f v r := if_neg h
def F4 (n : Int) (h y q : Addr) : List (Str × V) := [("landmarks", .int n), ("here", .ref h), ("way", .ref y), ("pegs", .ref q)]
theorem F4_landmarks (n : Int) (h y q : Addr) : (F4 n h y q).lookup ("landmarks" : Str) = some (V.int n) := lk_here
theorem F4_here (n : Int) (h y q : Addr) : (F4 n h y q).lookup ("here" : Str) = some (V.ref h) := (lk_past (by decide +kernel)).trans lk_here
theorem F4_way (n : Int) (h y q : Addr) : (F4 n h y q).lookup ("way" : Str) = some (V.ref y) := (lk_past (by decide +kernel)).trans ((lk_past (by decide +kernel)).trans lk_here)
theorem F4_pegs (n : Int) (h y q : Addr) : (F4 n h y q).lookup ("pegs" : Str) = some (V.ref q) := (lk_past (by decide +kernel)).trans ((lk_past (by decide +kernel)).trans ((lk_past (by decide +kernel)).trans lk_here))
theorem F4_none (n : Int) (h y q : Addr) {f : Str} (h1 : (f == ("landmarks" : Str)) = false) (h2 : (f == ("here" : Str)) = false) (h3 : (f == ("way" : Str)) = false) (h4 : (f == ("pegs" : Str)) = false) : (F4 n h y q).lookup f = none :=
  (lk_past h1).trans ((lk_past h2).trans ((lk_past h3).trans ((lk_past h4).trans rfl)))
theorem F4_put_here (n : Int) (h y q b : Addr) : putF "here" (.ref b) (F4 n h y q) = F4 n b y q := (put_past (by decide +kernel)).trans (congrArg _ put_here)
theorem F4_put_way (n : Int) (h y q b : Addr) : putF "way" (.ref b) (F4 n h y q) = F4 n h b q := (put_past (by decide +kernel)).trans (congrArg _ ((put_past (by decide +kernel)).trans (congrArg _ put_here)))
theorem F4_new (n : Int) (h y q : Addr) : putF "pegs" (.ref q) (putF "way" (.ref y) (putF "here" (.ref h) (putF "landmarks" (.int n) []))) = F4 n h y q := by
  have e1 : putF ("landmarks" : Str) (V.int n) [] = ([("landmarks", .int n)] : List (Str × V)) := rfl
  have e2 : putF ("here" : Str) (V.ref h) ([("landmarks", .int n)] : List (Str × V)) = ([("landmarks", .int n), ("here", .ref h)] : List (Str × V)) := (put_past (by decide +kernel)).trans rfl
  have e3 : putF ("way" : Str) (V.ref y) ([("landmarks", .int n), ("here", .ref h)] : List (Str × V)) = ([("landmarks", .int n), ("here", .ref h), ("way", .ref y)] : List (Str × V)) := (put_past (by decide +kernel)).trans (congrArg _ ((put_past (by decide +kernel)).trans rfl))
  have e4 : putF ("pegs" : Str) (V.ref q) ([("landmarks", .int n), ("here", .ref h), ("way", .ref y)] : List (Str × V)) = F4 n h y q := (put_past (by decide +kernel)).trans (congrArg _ ((put_past (by decide +kernel)).trans (congrArg _ ((put_past (by decide +kernel)).trans rfl))))
  rw [e1, e2, e3, e4]
def F2 (p t : Addr) : List (Str × V) := [("places", .ref p), ("texts", .ref t)]
theorem F2_places (p t : Addr) : (F2 p t).lookup ("places" : Str) = some (V.ref p) := lk_here
theorem F2_texts (p t : Addr) : (F2 p t).lookup ("texts" : Str) = some (V.ref t) := (lk_past (by decide +kernel)).trans lk_here
theorem F2_put_places (p t b : Addr) : putF "places" (.ref b) (F2 p t) = F2 b t := put_here
theorem F2_put_texts (p t b : Addr) : putF "texts" (.ref b) (F2 p t) = F2 p b := (put_past (by decide +kernel)).trans (congrArg _ put_here)
theorem F2_new (p t : Addr) : putF "texts" (.ref t) (putF "places" (.ref p) []) = F2 p t := (put_past (by decide +kernel)).trans rfl

/-- what the top has written of a class -/
structure TxC (K : PySem.W.Frag) (C : Addr) (fs : List Str) : Prop where
  cl : Cls K C
  na : ∀ f ∈ fs, NoAttr K C f
abbrev foF : List Str := ["landmarks", "here", "way", "pegs"]
abbrev chF : List Str := ["places", "texts"]
theorem TxC.fo {K : PySem.W.Frag} {C : Addr} (T : TxC K C foF) : NoAttr K C "landmarks" ∧ NoAttr K C "here" ∧ NoAttr K C "way" ∧ NoAttr K C "pegs" :=
  ⟨T.na _ List.mem_cons_self, T.na _ (List.mem_cons_of_mem _ List.mem_cons_self), T.na _ (List.mem_cons_of_mem _ (List.mem_cons_of_mem _ List.mem_cons_self)), T.na _ (List.mem_cons_of_mem _ (List.mem_cons_of_mem _ (List.mem_cons_of_mem _ List.mem_cons_self)))⟩
theorem TxC.ch {K : PySem.W.Frag} {C : Addr} (T : TxC K C chF) : NoAttr K C "places" ∧ NoAttr K C "texts" :=
  ⟨T.na _ List.mem_cons_self, T.na _ (List.mem_cons_of_mem _ List.mem_cons_self)⟩

/-! ### what stands apart -/
/-- only what stands at S may have changed -/
def Mut (S : List Addr) (H H' : Hp) : Prop := ∀ b o, H b = some o → b ∉ S → H' b = some o
theorem Mut.of_same {S : List Addr} {H H' : Hp} (s : Same H H') : Mut S H H' := fun b o e _ => s b o e
theorem Mut.trans {S : List Addr} {H H1 H2 : Hp} (a : Mut S H H1) (b : Mut S H1 H2) : Mut S H H2 := fun c o e n => b c o (a c o e n) n
theorem Mut.upd {S : List Addr} {H : Hp} {q : Addr} {o : HO} (h : q ∈ S) : Mut S H (upd H q o) := fun b u e n => by
  have hb : b ≠ q := fun z => n (by rw [z]; exact h)
  rw [upd_ne hb]
  exact e
theorem Mut.mono {S S' : List Addr} {H H' : Hp} (a : Mut S H H') (h : ∀ b ∈ S, b ∈ S') : Mut S' H H' := fun c o e n => a c o e fun z => n (h c z)
theorem Mut.hide {S : List Addr} {H H' : Hp} (a : Mut S H H') : Same (hide H S) (hide H' S) := hide_mono a fun _ h => .inl h
/-- a thing that is no tuple and no list frozen -/
def Solid (H : Hp) (b : Addr) : Prop := (∃ xs, H b = some (.lst xs)) ∨ (∃ C dx fs, H b = some (.ins C dx fs)) ∨ H b = none
theorem SqT.hid {K : PySem.W.Frag} {H : Hp} {S : List Addr} {a : Addr} {xs : List V} (ok : ∀ b ∈ S, Solid H b) (h : SqT K H a xs) : SqT K (hide H S) a xs := by
  have no : ∀ {o}, H a = some o → (∀ ys, o ≠ .lst ys) → (∀ C dx fs, o ≠ .ins C dx fs) → a ∉ S := fun {o} e n1 n2 z => by
    rcases ok a z with ⟨ys, q⟩ | ⟨C, dx, fs, q⟩ | q
    · rw [e] at q; exact n1 ys (Option.some.inj q)
    · rw [e] at q; exact n2 C dx fs (Option.some.inj q)
    · rw [e] at q; cases q
  rcases h with (h | ⟨o, h⟩) | h
  · exact .inl (.inl (hide_of (no h (fun _ z => by cases z) (fun _ _ _ z => by cases z)) h))
  · exact .inl (.inr ⟨o, hide_of (no h (fun _ z => by cases z) (fun _ _ _ z => by cases z)) h⟩)
  · exact .inr h
theorem SqL.hid {K : PySem.W.Frag} {H : Hp} {S : List Addr} {a : Addr} {xs : List V} (n : a ∉ S) (h : SqL K H a xs) : SqL K (hide H S) a xs := by
  rcases h with (h | ⟨o, h⟩) | h
  · exact .inl (.inl (hide_of n h))
  · exact .inl (.inr ⟨o, hide_of n h⟩)
  · exact .inr h
theorem MixAt.hid {K : PySem.W.Frag} {H : Hp} {S : List Addr} {a : Addr} {m : Mu51.Mix} (n : a ∉ S) (ok : ∀ b ∈ S, Solid H b) (h : MixAt K H a m) : MixAt K (hide H S) a m := by
  obtain ⟨vs, q, p⟩ := h
  exact ⟨vs, SqL.hid n q, Paired.mapP p fun _ _ ⟨t, e, r⟩ => ⟨t, e, SqT.hid ok r⟩⟩

/-! ### one who follows -/
def PegV (K : PySem.W.Frag) (H : Hp) (v : V) (m : Mu51.Mix) : Prop := ∃ b, v = .ref b ∧ MixAt K H b m
def FolAt (K : PySem.W.Frag) (CF : Addr) (H : Hp) (x q : Addr) (n : Nat) (w : Mu51.Walk Mu51.Mix) : Prop :=
  ∃ dx h y vs, H x = some (.ins CF dx (F4 n h y q)) ∧ MixAt K (hide H [x, q]) h w.here ∧ MixAt K (hide H [x, q]) y w.way ∧ H q = some (.lst vs) ∧ Paired (PegV K (hide H [x, q])) vs w.pegs
theorem FolAt.same {K : PySem.W.Frag} {CF : Addr} {H H' : Hp} {x q : Addr} {n : Nat} {w : Mu51.Walk Mu51.Mix} (s : Same H H') (f : FolAt K CF H x q n w) : FolAt K CF H' x q n w := by
  obtain ⟨dx, h, y, vs, e1, m1, m2, e2, p⟩ := f
  have s2 := Same.hide s [x, q]
  exact ⟨dx, h, y, vs, s _ _ e1, m1.same s2, m2.same s2, s _ _ e2, Paired.mapP p fun _ _ ⟨b, z, r⟩ => ⟨b, z, r.same s2⟩⟩
theorem FolAt.solid {K : PySem.W.Frag} {CF : Addr} {H : Hp} {x q : Addr} {n : Nat} {w : Mu51.Walk Mu51.Mix} (f : FolAt K CF H x q n w) : ∀ b ∈ [x, q], Solid H b := by
  obtain ⟨dx, h, y, vs, e1, m1, m2, e2, p⟩ := f
  intro b hb
  simp only [List.mem_cons, List.not_mem_nil, or_false] at hb
  rcases hb with rfl | rfl
  · exact .inr (.inl ⟨_, _, _, e1⟩)
  · exact .inl ⟨_, e2⟩
theorem notin2 {H : Hp} {x q p : Addr} {o u : HO} (hx : H x = some o) (hq : H q = some u) (hp : H p = none) : p ∉ [x, q] := fun z => by
  simp only [List.mem_cons, List.not_mem_nil, or_false] at z
  rcases z with rfl | rfl
  · rw [hp] at hx; cases hx
  · rw [hp] at hq; cases hq

section
variable {P : Program} {w : World} {K : PySem.W.Frag} {mg : Str → Option Value} {base : Heap} {aN aS aM CF CC : Addr}

/-! ### Follower.go_to -/
abbrev s_Follower_go_to : Stmt := inClass (topS 20) 2
theorem sc_Follower_go_to : FnScope ["self", "there"] ["self", "there"] (defScope s_Follower_go_to) := ⟨rfl, rfl, rfl, by decide +kernel, rfl, by decide +kernel, by decide +kernel⟩
theorem sub_eq (m n : Mu51.Mix) : List.zipWith (addBy (-1)) m n = Mu51.Mix.sub m n := by
  unfold Mu51.Mix.sub
  congr 1
  funext u v
  exact Pt.ext' (by simp only [addBy, Mu51.Pt.sub]; omega) (by simp only [addBy, Mu51.Pt.sub]; omega)
def sp_go_to (K : PySem.W.Frag) (CF : Addr) : Sp := fun vs H Q _ => ∃ (x q b : Addr) (n : Nat) (wk : Mu51.Walk Mu51.Mix) (m : Mu51.Mix), vs = [.ref x, .ref b] ∧ FolAt K CF H x q n wk ∧ MixAt K (hide H [x, q]) b m ∧ m.length ≤ 1000 ∧
  ∀ H', FolAt K CF H' x q n (Mu51.goTo (Mu51.mixes n) wk m) → Mut [x] H H' → Q .non H'
theorem ok_go_to {f : Addr} {fd : FuncData} {k : Nat} (F : Fun K "go_to" "Follower.go_to" s_Follower_go_to f fd) (TC : TxC K CF foF) (C_added : Cal P w K mg base 1 "added" ["shares", "others", "times"] (sp_added K)) :
    FnOk P w K mg base CX0 (k + 2) f fd ["self", "there"] (sp_go_to K CF) := by
  refine F.ok sc_Follower_go_to (fun vs H Q E h => ?_) (fun cdv A outer s H vs Q E hr h => ?_)
  · obtain ⟨x, q, b, n, wk, m, rfl, _⟩ := h
    rfl
  obtain ⟨x, q, b, n, wk, m, rfl, hF, hM, hlen, k⟩ := h
  refine ⟨_, (pss_cons (ps_fld (pv 0) (pcall C_added (hr.mono (by omega)) rfl (pa_cons (pv 1) (pa_cons (pe_fld (pv 0) rfl) (pa_cons (pe_un un_neg pe_int) pa_nil)))) rfl)
      (pss_one (ps_fld (pv 0) (pv 1) rfl))), ?_⟩
  obtain ⟨nl, nh, ny, np⟩ := TC.fo
  have hF0 := hF
  obtain ⟨dx, h, y, vs, e1, m1, m2, e2, p⟩ := hF
  have hs : Same (hide H [x, q]) H := hide_same _ _
  refine ⟨_, rfl, _, rfl, x, CF, dx, _, _, rfl, e1, TC.cl, nh, F4_here n h y q, _, rfl, b, h, m, wk.here, -1, rfl, hM.same hs, m1.same hs, hlen, ⟨by decide, by decide⟩, fun H1 u s1 nu hu => ?_⟩
  have hF1 := hF0.same s1
  have hu2 := hu.hid (notin2 e1 e2 nu) hF1.solid
  have xq : q ≠ x := fun z => by rw [z, e1] at e2; cases e2
  refine ⟨_, rfl, x, CF, dx, _, rfl, s1 _ _ e1, TC.cl, ny, (by show 4 < 1000; decide), ?_⟩
  rw [F4_put_way]
  refine ⟨_, rfl, _, rfl, x, CF, dx, _, rfl, upd_same, TC.cl, nh, (by show 4 < 1000; decide), ?_⟩
  rw [F4_put_here]
  have M1 : Mut [x, q] H1 (upd (upd H1 x (.ins CF dx (F4 n h u q))) x (.ins CF dx (F4 n b u q))) := (Mut.upd List.mem_cons_self).trans (Mut.upd List.mem_cons_self)
  have S1 := (Same.hide s1 [x, q]).trans M1.hide
  refine k _ ⟨dx, b, u, vs, upd_same, hM.same S1, ?_, ?_, Paired.mapP p fun _ _ ⟨c, z, r⟩ => ⟨c, z, r.same S1⟩⟩ (fun c o z n => ?_)
  · have := hu2.same M1.hide
    rw [sub_eq] at this
    exact this
  · rw [upd_ne xq, upd_ne xq]
    exact s1 _ _ e2
  · have hc : c ≠ x := fun e => n (by rw [e]; exact List.mem_cons_self)
    rw [upd_ne hc, upd_ne hc]
    exact s1 _ _ z

/-! ### Follower.__init__ -/
abbrev s_Follower___init__ : Stmt := inClass (topS 20) 0
theorem sc_Follower___init__ : FnScope ["self", "landmarks", "landmark"] ["self", "landmarks"] (defScope s_Follower___init__) := ⟨rfl, rfl, rfl, by decide +kernel, rfl, by decide +kernel, by decide +kernel⟩
def sp_Follower (K : PySem.W.Frag) (CF : Addr) : Sp := fun vs H Q _ => ∃ (x dx : Addr) (n : Nat), vs = [.ref x, .int n] ∧ H x = some (.ins CF dx []) ∧ n ≤ 1000 ∧
  ∀ H' q, FolAt K CF H' x q n ⟨(Mu51.mixes n).zero, (Mu51.mixes n).zero, []⟩ → Mut [x] H H' → H q = none → Q .non H'
theorem zero_take (n i : Nat) (h : i < n) : ((Mu51.mixes n).zero).take (i + 1) = ((Mu51.mixes n).zero).take i ++ [(⟨0, 0⟩ : Mu51.Pt)] :=
  take_succ_get (by simp [Mu51.mixes, h])
theorem ok_Follower {f : Addr} {fd : FuncData} {k : Nat} (F : Fun K "__init__" "Follower.__init__" s_Follower___init__ f fd) (T : Txt K mg aN aS aM) (TC : TxC K CF foF) :
    FnOk P w K mg base CX0 (k + 1) f fd ["self", "landmarks"] (sp_Follower K CF) := by
  refine F.ok sc_Follower___init__ (fun vs H Q E h => ?_) (fun cdv A outer s H vs Q E hr h => ?_)
  · obtain ⟨x, dx, n, rfl, _⟩ := h
    rfl
  obtain ⟨x, dx, n, rfl, hx, hlen, k⟩ := h
  refine ⟨_, (pss_cons (ps_fld (pv 0) (pv 1) rfl)
      (pss_cons (ps_fld (pv 0) (pe_lc (own := [("landmark", 2)]) rfl sc_Follower___init__.nd (pi_range1 rfl T.range (pa_cons (pv 1) pa_nil)) (blkOk_by (N := ["self", "landmarks", "landmark"]) (sc := defScope s_Follower___init__) (by decide +kernel)) (fun _ _ _ _ _ => (pg_name (i := 2) sc_Follower___init__.nd rfl (Or.inl rfl))) (fun _ _ _ _ _ => pts_nil) (fun _ _ _ _ _ => (pgR rfl T.gNOTHING))) rfl)
      (pss_cons (ps_fld (pv 0) (pe_lc (own := [("landmark", 2)]) rfl sc_Follower___init__.nd (pi_range1 rfl T.range (pa_cons (pv 1) pa_nil)) (blkOk_by (N := ["self", "landmarks", "landmark"]) (sc := defScope s_Follower___init__) (by decide +kernel)) (fun _ _ _ _ _ => (pg_name (i := 2) sc_Follower___init__.nd rfl (Or.inl rfl))) (fun _ _ _ _ _ => pts_nil) (fun _ _ _ _ _ => (pgR rfl T.gNOTHING))) rfl)
      (pss_one (ps_fld (pv 0) (pe_lst pa_nil) rfl))))), ?_⟩
  obtain ⟨nl, nh, ny, np⟩ := TC.fo
  refine ⟨_, rfl, _, rfl, x, CF, dx, [], rfl, hx, TC.cl, nl, (by show 0 < 1000; decide), ?_⟩
  refine ⟨_, rfl, (n : Int), rfl, by omega, by omega, fun D nD => lc_range (lo := 0) (n := (n : Int).toNat) (fun i H' => Made K (upd H x (.ins CF dx (putF "landmarks" (.int n) []))) D (((Mu51.mixes n).zero).take i) H') (Made.start nD) (fun i H' hi M => ?_) (fun H' M => ?_)⟩
  · have hi' : i < n := by simpa using hi
    refine ⟨rfl, keepIt ?_⟩
    obtain ⟨acc, e1, e2, e3⟩ := Made.put (v := .ref aN) (q := ⟨0, 0⟩) nD M ⟨aN, rfl, T.nNOTHING.sq _⟩
    refine ⟨acc, e1, small_mix (n := 1000) (by rw [List.length_take]; simp [Mu51.mixes]; omega) (by decide) e2, ?_⟩
    rw [zero_take n i hi']
    exact e3
  have ez : ((Mu51.mixes n).zero).take (n : Int).toNat = (Mu51.mixes n).zero := by
    rw [Int.toNat_natCast, List.take_of_length_le (by simp [Mu51.mixes])]
  rw [ez] at M
  obtain ⟨s1, hD⟩ := M.mix
  have nDx : D ≠ x := fun z => by rw [z, upd_same] at nD; cases nD
  refine ⟨_, rfl, x, CF, dx, _, rfl, s1 _ _ upd_same, TC.cl, nh, (by show 1 < 1000; decide), ?_⟩
  refine ⟨_, rfl, (n : Int), rfl, by omega, by omega, fun D2 nD2 => lc_range (lo := 0) (n := (n : Int).toNat) (fun i H2 => Made K (upd H' x (.ins CF dx (putF "here" (.ref D) (putF "landmarks" (.int n) [])))) D2 (((Mu51.mixes n).zero).take i) H2) (Made.start nD2) (fun i H2 hi M2 => ?_) (fun H2 M2 => ?_)⟩
  · have hi' : i < n := by simpa using hi
    refine ⟨rfl, keepIt ?_⟩
    obtain ⟨acc, e1, e2, e3⟩ := Made.put (v := .ref aN) (q := ⟨0, 0⟩) nD2 M2 ⟨aN, rfl, T.nNOTHING.sq _⟩
    refine ⟨acc, e1, small_mix (n := 1000) (by rw [List.length_take]; simp [Mu51.mixes]; omega) (by decide) e2, ?_⟩
    rw [zero_take n i hi']
    exact e3
  rw [ez] at M2
  obtain ⟨s2, hD2⟩ := M2.mix
  have nD2x : D2 ≠ x := fun z => by rw [z, upd_same] at nD2; cases nD2
  refine ⟨_, rfl, x, CF, dx, _, rfl, s2 _ _ upd_same, TC.cl, ny, (by show 2 < 1000; decide), ?_⟩
  refine ⟨Nat.zero_le _, fun q nq => ?_⟩
  have nqx : q ≠ x := fun z => by rw [z, upd_same] at nq; cases nq
  refine ⟨_, rfl, x, CF, dx, _, rfl, (upd_ne nqx.symm).trans upd_same, TC.cl, np, (by show 3 < 1000; decide), ?_⟩
  rw [F4_new]
  have m12 : Mut [x] H H' := (Mut.upd List.mem_cons_self).trans (Mut.of_same s1)
  have m23 : Mut [x] H' H2 := (Mut.upd List.mem_cons_self).trans (Mut.of_same s2)
  have nq2 : H2 q = none := by rw [upd_ne nqx] at nq; exact nq
  have m34 : Mut [x] H2 (upd (upd (upd H2 x (.ins CF dx (putF "way" (.ref D2) (putF "here" (.ref D) (putF "landmarks" (.int n) []))))) q (.lst [])) x (.ins CF dx (F4 n D D2 q))) := fun b o e nb => by
    have hb : b ≠ x := fun e => nb (by rw [e]; exact List.mem_cons_self)
    rw [upd_ne hb, upd_ne (ne_of_none e nq2), upd_ne hb]
    exact e
  have sx : ∀ {H : Hp}, (∃ C dx fs, H x = some (.ins C dx fs)) → ∀ b ∈ [x], Solid H b := fun h b hb => by
    obtain rfl := List.mem_singleton.mp hb
    exact .inr (.inl h)
  have hD' := hD.hid (S := [x]) (fun z => nDx (List.mem_singleton.mp z)) (sx ⟨_, _, _, s1 _ _ upd_same⟩)
  have hD2' := hD2.hid (S := [x]) (fun z => nD2x (List.mem_singleton.mp z)) (sx ⟨_, _, _, s2 _ _ upd_same⟩)
  have ext : Same (hide H2 [x]) (hide (upd (upd (upd H2 x (.ins CF dx (putF "way" (.ref D2) (putF "here" (.ref D) (putF "landmarks" (.int n) []))))) q (.lst [])) x (.ins CF dx (F4 n D D2 q))) [x, q]) := hide_mono m34 fun b hb => by
    simp only [List.mem_cons, List.not_mem_nil, or_false] at hb
    rcases hb with rfl | rfl
    · exact .inl List.mem_cons_self
    · exact .inr nq2
  refine k _ q ⟨dx, D, D2, [], upd_same, hD'.same (m23.hide.trans ext), hD2'.same ext, ?_, .nil⟩ ((m12.trans m23).trans m34) ?_
  · rw [upd_ne nqx, upd_same]
  · cases e : H q with
    | none => rfl
    | some o =>
      have := (m12.trans m23) q o e (fun z => nqx (List.mem_singleton.mp z))
      rw [nq2] at this
      cases this
end
end Gk
namespace Gk
open PySem PySem.Spec PyProof.Rows L2

/-! ### one who follows, in parts -/
structure FolD (K : PySem.W.Frag) (CF : Addr) (H : Hp) (x q : Addr) (n : Nat) (w : Mu51.Walk Mu51.Mix) (dx h y : Addr) (vs : List V) : Prop where
  e1 : H x = some (.ins CF dx (F4 n h y q))
  m1 : MixAt K (hide H [x, q]) h w.here
  m2 : MixAt K (hide H [x, q]) y w.way
  e2 : H q = some (.lst vs)
  pg : Paired (PegV K (hide H [x, q])) vs w.pegs
theorem FolAt.parts {K : PySem.W.Frag} {CF : Addr} {H : Hp} {x q : Addr} {n : Nat} {w : Mu51.Walk Mu51.Mix} (f : FolAt K CF H x q n w) : ∃ dx h y vs, FolD K CF H x q n w dx h y vs := by
  obtain ⟨dx, h, y, vs, e1, m1, m2, e2, p⟩ := f
  exact ⟨dx, h, y, vs, e1, m1, m2, e2, p⟩
section
variable {K : PySem.W.Frag} {CF : Addr} {H H' : Hp} {x q dx h y u : Addr} {n : Nat} {w : Mu51.Walk Mu51.Mix} {vs : List V} {m : Mu51.Mix}
theorem FolD.at (f : FolD K CF H x q n w dx h y vs) : FolAt K CF H x q n w := ⟨dx, h, y, vs, f.e1, f.m1, f.m2, f.e2, f.pg⟩
theorem FolD.same (s : Same H H') (f : FolD K CF H x q n w dx h y vs) : FolD K CF H' x q n w dx h y vs := by
  have s2 := Same.hide s [x, q]
  exact ⟨s _ _ f.e1, f.m1.same s2, f.m2.same s2, s _ _ f.e2, Paired.mapP f.pg fun _ _ ⟨b, z, r⟩ => ⟨b, z, r.same s2⟩⟩
theorem FolD.xq (f : FolD K CF H x q n w dx h y vs) : q ≠ x := fun z => by
  have e2 := f.e2
  rw [z, f.e1] at e2
  cases e2
theorem FolD.put {o : HO} (f : FolD K CF H x q n w dx h y vs) : Same (hide H [x, q]) (hide (upd H x o) [x, q]) := (Mut.upd List.mem_cons_self : Mut [x, q] H (upd H x o)).hide
theorem FolD.setHere (f : FolD K CF H x q n w dx h y vs) (hm : MixAt K (hide H [x, q]) u m) : FolD K CF (upd H x (.ins CF dx (putF "here" (.ref u) (F4 n h y q)))) x q n { w with here := m } dx u y vs := by
  rw [F4_put_here]
  exact ⟨upd_same, hm.same f.put, f.m2.same f.put, (upd_ne f.xq).trans f.e2, Paired.mapP f.pg fun _ _ ⟨b, z, r⟩ => ⟨b, z, r.same f.put⟩⟩
theorem FolD.setWay (f : FolD K CF H x q n w dx h y vs) (hm : MixAt K (hide H [x, q]) u m) : FolD K CF (upd H x (.ins CF dx (putF "way" (.ref u) (F4 n h y q)))) x q n { w with way := m } dx h u vs := by
  rw [F4_put_way]
  exact ⟨upd_same, f.m1.same f.put, hm.same f.put, (upd_ne f.xq).trans f.e2, Paired.mapP f.pg fun _ _ ⟨b, z, r⟩ => ⟨b, z, r.same f.put⟩⟩
/-- a new mix stands apart -/
theorem FolD.newMix {H0 : Hp} (f : FolD K CF H x q n w dx h y vs) (s : Same H0 H) (f0 : FolD K CF H0 x q n w dx h y vs) (nu : H0 u = none) (hm : MixAt K H u m) : MixAt K (hide H [x, q]) u m :=
  hm.hid (notin2 f0.e1 f0.e2 nu) f.at.solid
theorem FolD.peg (f : FolD K CF H x q n w dx h y vs) {j : Nat} (hj : j < w.pegs.length) : ∃ (b : Addr) (m : Mu51.Mix), vs[j]? = some (.ref b) ∧ w.pegs[j]? = some m ∧ MixAt K (hide H [x, q]) b m := by
  have hm : w.pegs[j]? = some w.pegs[j] := List.getElem?_eq_getElem hj
  obtain ⟨v, e, b, rfl, r⟩ := pairGetR f.pg hm
  exact ⟨b, _, e, hm, r⟩
end
theorem add_eq (m n : Mu51.Mix) (t : Int) : List.zipWith (addBy t) m n = Mu51.Mix.add m (Mu51.Mix.by_ t n) := by
  unfold Mu51.Mix.add Mu51.Mix.by_
  rw [List.zipWith_map_right]
  rfl
theorem add_one (m n : Mu51.Mix) : List.zipWith (addBy 1) m n = Mu51.Mix.add m n := by
  unfold Mu51.Mix.add
  congr 1
  funext u v
  exact Pt.ext' (by simp only [addBy, Mu51.Pt.add]; omega) (by simp only [addBy, Mu51.Pt.add]; omega)
theorem turnN_eq (n : Nat) : ∀ (t : Nat) (m : Mu51.Mix), turnN t m = Mu51.turned (Mu51.mixes n) t m
  | 0, _ => rfl
  | t + 1, m => by
    show Mu51.Mix.turn (turnN t m) = Mu51.Mix.turn (Mu51.turned (Mu51.mixes n) t m)
    rw [turnN_eq n t m]
theorem getD_of {α : Type} {l : List α} {j : Nat} {m d : α} (h : l[j]? = some m) : l.getD j d = m := by
  rw [List.getD_eq_getElem?_getD, h]
  rfl
theorem half_len (m : Mu51.Mix) : (Mu51.Mix.half m).length = m.length := List.length_map _

section
variable {P : Program} {w : World} {K : PySem.W.Frag} {mg : Str → Option Value} {base : Heap} {aN aS aM CF CC : Addr}

/-! ### Follower.follow -/
abbrev s_Follower_follow : Stmt := inClass (topS 20) 1
theorem sc_Follower_follow : FnScope ["self", "saying", "sort"] ["self", "saying"] (defScope s_Follower_follow) := ⟨rfl, rfl, rfl, by decide +kernel, rfl, by decide +kernel, by decide +kernel⟩
def sp_follow (K : PySem.W.Frag) (CF : Addr) : Sp := fun vs H Q _ => ∃ (x q b : Addr) (n : Nat) (wk : Mu51.Walk Mu51.Mix) (say : Mu51.Say), vs = [.ref x, .ref b] ∧ FolAt K CF H x q n wk ∧ SqL K H b ((encS say).map V.int) ∧ n ≤ 1000 ∧
  okSay n wk.pegs.length say = true ∧ wk.here.length = n ∧ wk.way.length = n ∧ (∀ m ∈ wk.pegs, m.length = n) ∧ wk.pegs.length ≤ 1000 ∧ ((∃ k, say = .stand k) → wk.way = (Mu51.mixes n).zero) ∧
  ∀ H', FolAt K CF H' x q n (Mu51.does (Mu51.mixes n) wk say) → Mut [x, q] H H' → Q .non H'
theorem ok_follow {f : Addr} {fd : FuncData} {k : Nat} (F : Fun K "follow" "Follower.follow" s_Follower_follow f fd) (T : Txt K mg aN aS aM) (TC : TxC K CF foF)
    (C_landmark_shares : Cal P w K mg base 1 "landmark_shares" ["standing", "landmarks"] (sp_landmark_shares K)) (C_added : Cal P w K mg base 1 "added" ["shares", "others", "times"] (sp_added K))
    (C_halved : Cal P w K mg base 1 "halved" ["shares"] (sp_halved K)) (C_turned : Cal P w K mg base 1 "turned" ["shares", "turns"] (sp_turned K)) (C_go_to : CalM P w K mg base 2 CF "go_to" ["self", "there"] (sp_go_to K CF)) :
    FnOk P w K mg base CX0 (k + 3) f fd ["self", "saying"] (sp_follow K CF) := by
  refine F.ok sc_Follower_follow (fun vs H Q E h => ?_) (fun cdv A outer s H vs Q E hr h => ?_)
  · obtain ⟨x, q, b, n, wk, say, rfl, _⟩ := h
    rfl
  obtain ⟨x, q, b, n, wk, say, rfl, hF, hb, hn, hok, l1, l2, l3, l4, hst, kk⟩ := h
  refine ⟨_, (pss_cons (ps_set (i := 2) sc_Follower_follow.nd rfl (Or.inl rfl) (pe_ix ix_list (pv 1) pe_int (fun _ _ => rfl)))
      (pss_one (ps_if (pt_cmpR op_eq (pv 2) (pgI rfl T.gSTAND) (nomark _)) (pss_one (ps_fld (pv 0) (pcall C_landmark_shares (hr.mono (by omega)) rfl (pa_cons (pe_ix ix_list (pv 1) pe_int (fun _ _ => rfl)) (pa_cons (pe_fld (pv 0) rfl) pa_nil))) rfl))
        (pss_one (ps_if (pt_cmpR op_eq (pv 2) (pgI rfl T.gTO_LANDMARK) (nomark _)) (pss_one (ps_expr (pmeth (pv 0) C_go_to (hr.mono (by omega)) (pa_cons (pcall C_landmark_shares (hr.mono (by omega)) rfl (pa_cons (pe_ix ix_list (pv 1) pe_int (fun _ _ => rfl)) (pa_cons (pe_fld (pv 0) rfl) pa_nil))) pa_nil))))
          (pss_one (ps_if (pt_cmpR op_eq (pv 2) (pgI rfl T.gTO_PEG) (nomark _)) (pss_one (ps_expr (pmeth (pv 0) C_go_to (hr.mono (by omega)) (pa_cons (pe_ix ix_list (pe_fld (pv 0) rfl) (pe_ix ix_list (pv 1) pe_int (fun _ _ => rfl)) (fun _ _ => rfl)) pa_nil))))
            (pss_one (ps_if (pt_cmpR op_eq (pv 2) (pgI rfl T.gTURN) (nomark _)) (pss_one (ps_fld (pv 0) (pcall C_turned (hr.mono (by omega)) rfl (pa_cons (pe_fld (pv 0) rfl) (pa_cons (pe_ix ix_list (pv 1) pe_int (fun _ _ => rfl)) pa_nil))) rfl))
              (pss_one (ps_if (pt_cmpR op_eq (pv 2) (pgI rfl T.gGO_ON) (nomark _)) (pss_one (ps_fld (pv 0) (pcall C_added (hr.mono (by omega)) rfl (pa_cons (pe_fld (pv 0) rfl) (pa_cons (pe_fld (pv 0) rfl) (pa_cons (pe_ix ix_list (pv 1) pe_int (fun _ _ => rfl)) pa_nil)))) rfl))
                (pss_one (ps_if (pt_cmpR op_eq (pv 2) (pgI rfl T.gGO_HALF) (nomark _)) (pss_one (ps_fld (pv 0) (pcall C_added (hr.mono (by omega)) rfl (pa_cons (pe_fld (pv 0) rfl) (pa_cons (pcall C_halved (hr.mono (by omega)) rfl (pa_cons (pe_fld (pv 0) rfl) pa_nil)) (pa_cons pe_int pa_nil)))) rfl))
                  (pss_one (ps_if (pt_cmpR op_eq (pv 2) (pgI rfl T.gDRIVE) (nomark _)) (pss_one (ps_expr (pe_bm PySem.F.plainAttrs_list PySem.F.slot_list_append PySem.F.type_list_append mt_append (pe_fld (pv 0) rfl) (pa_cons (pe_fld (pv 0) rfl) pa_nil))))
                    (pss_one (ps_expr (pmeth (pv 0) C_go_to (hr.mono (by omega)) (pa_cons (pcall C_halved (hr.mono (by omega)) rfl (pa_cons (pcall C_added (hr.mono (by omega)) rfl (pa_cons (pe_ix ix_list (pe_fld (pv 0) rfl) (pe_ix ix_list (pv 1) pe_int (fun _ _ => rfl)) (fun _ _ => rfl)) (pa_cons (pe_ix ix_list (pe_fld (pv 0) rfl) (pe_ix ix_list (pv 1) pe_int (fun _ _ => rfl)) (fun _ _ => rfl)) (pa_cons pe_int pa_nil)))) pa_nil)) pa_nil))))))))))))))))))), ?_⟩
  obtain ⟨nl, nh, ny, np⟩ := TC.fo
  obtain ⟨dx, h, y, vs, D⟩ := hF.parts
  have hs : Same (hide H [x, q]) H := hide_same _ _
  have lg : (F4 n h y q).lookup ("go_to" : Str) = none := F4_none _ _ _ _ (by decide +kernel) (by decide +kernel) (by decide +kernel) (by decide +kernel)
  have mu : ∀ {H1 : Hp} {o : HO}, Same H H1 → Mut [x, q] H (upd H1 x o) := fun s1 => (Mut.of_same s1).trans (Mut.upd List.mem_cons_self)
  cases say with
  | stand k =>
    refine ⟨_, rfl, b, _, 0, _, rfl, rfl, hb, atI_nat (j := 0) (v := V.int 0) rfl, _, rfl, rfl, _, rfl, iteT ?_⟩
    refine ⟨_, rfl, b, _, 1, _, rfl, rfl, hb, atI_nat (j := 1) (v := V.int k) rfl, _, rfl, x, CF, dx, _, _, rfl, D.e1, TC.cl, nl, F4_landmarks n h y q, k, n, rfl, hn, fun H1 u s1 nu hu => ?_⟩
    have D1 := D.same s1
    refine ⟨_, rfl, x, CF, dx, _, rfl, D1.e1, TC.cl, nh, (by show 4 < 1000; decide), ?_⟩
    refine kk _ ?_ (mu s1)
    have := (D1.setHere (D1.newMix s1 D nu hu)).at
    have e : Mu51.does (Mu51.mixes n) wk (.stand k) = { wk with here := (Mu51.mixes n).mark k } := by
      show (⟨(Mu51.mixes n).mark k, (Mu51.mixes n).zero, wk.pegs⟩ : Mu51.Walk Mu51.Mix) = _
      rw [← hst ⟨k, rfl⟩]
    rw [e]
    exact this
  | to k =>
    refine ⟨_, rfl, b, _, 0, _, rfl, rfl, hb, atI_nat (j := 0) (v := V.int 1) rfl, _, rfl, rfl, _, rfl, iteF ⟨_, rfl, rfl, _, rfl, iteT ?_⟩⟩
    refine ⟨_, rfl, x, dx, _, rfl, D.e1, lg, ?_⟩
    refine ⟨_, rfl, b, _, 1, _, rfl, rfl, hb, atI_nat (j := 1) (v := V.int k) rfl, _, rfl, x, CF, dx, _, _, rfl, D.e1, TC.cl, nl, F4_landmarks n h y q, k, n, rfl, hn, fun H1 u s1 nu hu => ?_⟩
    have D1 := D.same s1
    exact ⟨x, q, u, n, wk, _, rfl, D1.at, D1.newMix s1 D nu hu, by rw [mark_len]; exact hn, fun H2 f2 m2 => kk H2 f2 ((Mut.of_same s1).trans (m2.mono fun c hc => by rw [List.mem_singleton.mp hc]; exact List.mem_cons_self))⟩
  | back j =>
    have hj : j < wk.pegs.length := by simpa [okSay] using hok
    obtain ⟨c, m, ev, em, hm⟩ := D.peg hj
    refine ⟨_, rfl, b, _, 0, _, rfl, rfl, hb, atI_nat (j := 0) (v := V.int 2) rfl, _, rfl, rfl, _, rfl, iteF ⟨_, rfl, rfl, _, rfl, iteF ⟨_, rfl, rfl, _, rfl, iteT ?_⟩⟩⟩
    refine ⟨_, rfl, x, dx, _, rfl, D.e1, lg, ?_⟩
    refine ⟨_, rfl, x, CF, dx, _, _, rfl, D.e1, TC.cl, np, F4_pegs n h y q, _, rfl, b, _, 1, _, rfl, rfl, hb, atI_nat (j := 1) (v := V.int j) rfl, q, _, _, _, rfl, rfl, SqL.of D.e2, atI_nat ev, ?_⟩
    refine ⟨x, q, c, n, wk, m, rfl, D.at, hm, by rw [l3 m (List.mem_of_getElem? em)]; exact hn, fun H2 f2 m2 => kk H2 ?_ (m2.mono fun c hc => by rw [List.mem_singleton.mp hc]; exact List.mem_cons_self)⟩
    have e : Mu51.does (Mu51.mixes n) wk (.back j) = Mu51.goTo (Mu51.mixes n) wk m := by
      show Mu51.goTo (Mu51.mixes n) wk (wk.pegs.getD j _) = _
      rw [getD_of em]
    rw [e]
    exact f2
  | turn t =>
    have ht : 1 ≤ t ∧ t ≤ 3 := by simpa [okSay] using hok
    refine ⟨_, rfl, b, _, 0, _, rfl, rfl, hb, atI_nat (j := 0) (v := V.int 3) rfl, _, rfl, rfl, _, rfl, iteF ⟨_, rfl, rfl, _, rfl, iteF ⟨_, rfl, rfl, _, rfl, iteF ⟨_, rfl, rfl, _, rfl, iteT ?_⟩⟩⟩⟩
    refine ⟨_, rfl, x, CF, dx, _, _, rfl, D.e1, TC.cl, ny, F4_way n h y q, _, rfl, b, _, 1, _, rfl, rfl, hb, atI_nat (j := 1) (v := V.int t) rfl, y, wk.way, t, rfl, D.m2.same hs, by rw [l2]; exact hn, ht.1, by omega, fun H1 u s1 nu hu => ?_⟩
    have D1 := D.same s1
    refine ⟨_, rfl, x, CF, dx, _, rfl, D1.e1, TC.cl, ny, (by show 4 < 1000; decide), ?_⟩
    refine kk _ ?_ (mu s1)
    have := (D1.setWay (D1.newMix s1 D nu hu)).at
    rw [turnN_eq n] at this
    exact this
  | on t =>
    have ht : 1 ≤ t ∧ t ≤ 3 := by simpa [okSay] using hok
    refine ⟨_, rfl, b, _, 0, _, rfl, rfl, hb, atI_nat (j := 0) (v := V.int 4) rfl, _, rfl, rfl, _, rfl, iteF ⟨_, rfl, rfl, _, rfl, iteF ⟨_, rfl, rfl, _, rfl, iteF ⟨_, rfl, rfl, _, rfl, iteF ⟨_, rfl, rfl, _, rfl, iteT ?_⟩⟩⟩⟩⟩
    refine ⟨_, rfl, x, CF, dx, _, _, rfl, D.e1, TC.cl, nh, F4_here n h y q, _, rfl, x, CF, dx, _, _, rfl, D.e1, TC.cl, ny, F4_way n h y q, _, rfl, b, _, 1, _, rfl, rfl, hb, atI_nat (j := 1) (v := V.int t) rfl, h, y, wk.here, wk.way, t, rfl, D.m1.same hs, D.m2.same hs, by rw [l1]; exact hn, ⟨by omega, by omega⟩, fun H1 u s1 nu hu => ?_⟩
    have D1 := D.same s1
    refine ⟨_, rfl, x, CF, dx, _, rfl, D1.e1, TC.cl, nh, (by show 4 < 1000; decide), ?_⟩
    refine kk _ ?_ (mu s1)
    have := (D1.setHere (D1.newMix s1 D nu hu)).at
    rw [add_eq] at this
    exact this
  | half =>
    refine ⟨_, rfl, b, _, 0, _, rfl, rfl, hb, atI_nat (j := 0) (v := V.int 5) rfl, _, rfl, rfl, _, rfl, iteF ⟨_, rfl, rfl, _, rfl, iteF ⟨_, rfl, rfl, _, rfl, iteF ⟨_, rfl, rfl, _, rfl, iteF ⟨_, rfl, rfl, _, rfl, iteF ⟨_, rfl, rfl, _, rfl, iteT ?_⟩⟩⟩⟩⟩⟩
    refine ⟨_, rfl, x, CF, dx, _, _, rfl, D.e1, TC.cl, nh, F4_here n h y q, _, rfl, x, CF, dx, _, _, rfl, D.e1, TC.cl, ny, F4_way n h y q, y, wk.way, rfl, D.m2.same hs, by rw [l2]; exact hn, fun H1 u s1 nu hu => ?_⟩
    have D1 := D.same s1
    have hs1 : Same (hide H1 [x, q]) H1 := hide_same _ _
    refine ⟨h, u, wk.here, _, 1, rfl, D1.m1.same hs1, hu, by rw [l1]; exact hn, ⟨by decide, by decide⟩, fun H2 u2 s2 nu2 hu2 => ?_⟩
    have D2 := D1.same s2
    refine ⟨_, rfl, x, CF, dx, _, rfl, D2.e1, TC.cl, nh, (by show 4 < 1000; decide), ?_⟩
    refine kk _ ?_ (mu (s1.trans s2))
    have := (D2.setHere (D2.newMix s2 D1 nu2 hu2)).at
    rw [add_one] at this
    exact this
  | peg =>
    refine ⟨_, rfl, b, _, 0, _, rfl, rfl, hb, atI_nat (j := 0) (v := V.int 6) rfl, _, rfl, rfl, _, rfl, iteF ⟨_, rfl, rfl, _, rfl, iteF ⟨_, rfl, rfl, _, rfl, iteF ⟨_, rfl, rfl, _, rfl, iteF ⟨_, rfl, rfl, _, rfl, iteF ⟨_, rfl, rfl, _, rfl, iteF ⟨_, rfl, rfl, _, rfl, iteT ?_⟩⟩⟩⟩⟩⟩⟩
    have ep := pairLen D.pg
    refine ⟨_, rfl, x, CF, dx, _, _, rfl, D.e1, TC.cl, np, F4_pegs n h y q, .inl ⟨rfl, _, SqL.of D.e2⟩, _, rfl, x, CF, dx, _, _, rfl, D.e1, TC.cl, nh, F4_here n h y q, q, _, _, rfl, rfl, D.e2, small_of (by omega), ?_⟩
    have M1 : Mut [x, q] H (upd H q (.lst (vs ++ [.ref h]))) := Mut.upd (List.mem_cons_of_mem _ List.mem_cons_self)
    refine kk _ ⟨dx, h, y, vs ++ [.ref h], (upd_ne D.xq.symm).trans D.e1, D.m1.same M1.hide, D.m2.same M1.hide, upd_same, pairSnoc (Paired.mapP D.pg fun _ _ ⟨c, z, r⟩ => ⟨c, z, r.same M1.hide⟩) ⟨h, rfl, D.m1.same M1.hide⟩⟩ M1
  | between i j =>
    have hij : i < wk.pegs.length ∧ j < wk.pegs.length := by simpa [okSay] using hok
    obtain ⟨c, m, ev, em, hm⟩ := D.peg hij.1
    obtain ⟨c2, m2, ev2, em2, hm2⟩ := D.peg hij.2
    refine ⟨_, rfl, b, _, 0, _, rfl, rfl, hb, atI_nat (j := 0) (v := V.int 7) rfl, _, rfl, rfl, _, rfl, iteF ⟨_, rfl, rfl, _, rfl, iteF ⟨_, rfl, rfl, _, rfl, iteF ⟨_, rfl, rfl, _, rfl, iteF ⟨_, rfl, rfl, _, rfl, iteF ⟨_, rfl, rfl, _, rfl, iteF ⟨_, rfl, rfl, _, rfl, iteF ?_⟩⟩⟩⟩⟩⟩⟩
    refine ⟨_, rfl, x, dx, _, rfl, D.e1, lg, ?_⟩
    have lm : m.length = n := l3 m (List.mem_of_getElem? em)
    have lm2 : m2.length = n := l3 m2 (List.mem_of_getElem? em2)
    refine ⟨_, rfl, x, CF, dx, _, _, rfl, D.e1, TC.cl, np, F4_pegs n h y q, _, rfl, b, _, 1, _, rfl, rfl, hb, atI_nat (j := 1) (v := V.int i) rfl, q, _, _, _, rfl, rfl, SqL.of D.e2, atI_nat ev,
      _, rfl, x, CF, dx, _, _, rfl, D.e1, TC.cl, np, F4_pegs n h y q, _, rfl, b, _, 2, _, rfl, rfl, hb, atI_nat (j := 2) (v := V.int j) rfl, q, _, _, _, rfl, rfl, SqL.of D.e2, atI_nat ev2,
      c, c2, m, m2, 1, rfl, hm.same hs, hm2.same hs, by rw [lm]; exact hn, ⟨by decide, by decide⟩, fun H1 u s1 nu hu => ?_⟩
    rw [add_one] at hu
    have la : (Mu51.Mix.add m m2).length = n := by rw [Mu51.Mix.add, List.length_zipWith, lm, lm2]; omega
    have D1 := D.same s1
    refine ⟨u, _, rfl, hu, by rw [la]; exact hn, fun H2 u2 s2 nu2 hu2 => ?_⟩
    have D2 := D1.same s2
    refine ⟨x, q, u2, n, wk, _, rfl, D2.at, D2.newMix s2 D1 nu2 hu2, by rw [half_len, la]; exact hn, fun H3 f3 m3 => kk H3 ?_ ((Mut.of_same (s1.trans s2)).trans (m3.mono fun c hc => by rw [List.mem_singleton.mp hc]; exact List.mem_cons_self))⟩
    have e : Mu51.does (Mu51.mixes n) wk (.between i j) = Mu51.goTo (Mu51.mixes n) wk (Mu51.Mix.half (Mu51.Mix.add m m2)) := by
      show Mu51.goTo (Mu51.mixes n) wk (Mu51.Mix.half (Mu51.Mix.add (wk.pegs.getD i _) (wk.pegs.getD j _))) = _
      rw [getD_of em, getD_of em2]
    rw [e]
    exact f3
end
end Gk
namespace Gk
open PySem PySem.Spec PyProof.Rows L2

/-! ### the map in the heap -/
def TextV (K : PySem.W.Frag) (H : Hp) (v : V) (ls : List (List Int)) : Prop := ∃ b, v = .ref b ∧ Rows K H b ls
structure ChD (K : PySem.W.Frag) (CC : Addr) (H : Hp) (x t : Addr) (S : List Addr) (pl : List (List Int)) (tx : List (List (List Int))) (dx p : Addr) (vs : List V) : Prop where
  e1 : H x = some (.ins CC dx (F2 p t))
  pl : Rows1 K (hide H (x :: t :: S)) p pl
  e2 : H t = some (.lst vs)
  tx : Paired (TextV K (hide H (x :: t :: S))) vs tx
def ChartAt (K : PySem.W.Frag) (CC : Addr) (H : Hp) (x t : Addr) (S : List Addr) (pl : List (List Int)) (tx : List (List (List Int))) : Prop := ∃ dx p vs, ChD K CC H x t S pl tx dx p vs
theorem ChD.same {K : PySem.W.Frag} {CC : Addr} {H H' : Hp} {x t : Addr} {S : List Addr} {pl : List (List Int)} {tx : List (List (List Int))} {dx p : Addr} {vs : List V} (s : Same H H') (c : ChD K CC H x t S pl tx dx p vs) : ChD K CC H' x t S pl tx dx p vs := by
  have s2 := Same.hide s (x :: t :: S)
  exact ⟨s _ _ c.e1, c.pl.same s2, s _ _ c.e2, Paired.mapP c.tx fun _ _ ⟨b, z, r⟩ => ⟨b, z, r.same s2⟩⟩
theorem ChartAt.same {K : PySem.W.Frag} {CC : Addr} {H H' : Hp} {x t : Addr} {S : List Addr} {pl : List (List Int)} {tx : List (List (List Int))} (s : Same H H') (c : ChartAt K CC H x t S pl tx) : ChartAt K CC H' x t S pl tx := by
  obtain ⟨dx, p, vs, c⟩ := c
  exact ⟨dx, p, vs, c.same s⟩
theorem ChD.xt {K : PySem.W.Frag} {CC : Addr} {H : Hp} {x t : Addr} {S : List Addr} {pl : List (List Int)} {tx : List (List (List Int))} {dx p : Addr} {vs : List V} (c : ChD K CC H x t S pl tx dx p vs) : t ≠ x := fun z => by
  have e2 := c.e2
  rw [z, c.e1] at e2
  cases e2

/-! ### the mathematics of what is needed -/
open Mu51 (Pt Mix State Text)
def needL (m : Mix) : List Nat := (List.range m.length).filter fun (k : Nat) => m.getD k ⟨0, 0⟩ != ⟨0, 0⟩
theorem mem_needL {m : Mix} {k : Nat} (h : k ∈ needL m) : k < m.length ∧ m.getD k ⟨0, 0⟩ ≠ ⟨0, 0⟩ := by
  have := List.mem_filter.mp h
  exact ⟨List.mem_range.mp this.1, by simpa using this.2⟩
theorem mix_len {n : Nat} {t : Text} (h : Mu51.halves t ≤ 8) (ho : ∀ s ∈ t, onOk s) : (Mu51.mix n t).length = n := (walked_gd n t h ho).here.len
theorem needs_eq {n : Nat} {t : Text} (h : (Mu51.mix n t).length = n) : Mu51.needs n t = needL (Mu51.mix n t) := by
  unfold Mu51.needs needL
  rw [h]
def sumOver (m : Mix) (l : List Pt) (ks : List Nat) : Pt := ks.foldl (fun (a : Pt) (i : Nat) => a.add ((m.getD i ⟨0, 0⟩).times (l.getD i ⟨0, 0⟩))) ⟨0, 0⟩
theorem fold_shift (m : Mix) (l : List Pt) (a : Pt) : ∀ (ks : List Nat) (b : Pt), ks.foldl (fun (a : Pt) (i : Nat) => a.add ((m.getD i ⟨0, 0⟩).times (l.getD i ⟨0, 0⟩))) (Pt.add a b) = Pt.add a (ks.foldl (fun (a : Pt) (i : Nat) => a.add ((m.getD i ⟨0, 0⟩).times (l.getD i ⟨0, 0⟩))) b)
  | [], b => rfl
  | k :: r, b => by
    rw [List.foldl_cons, List.foldl_cons, ← fold_shift m l a r]
    congr 1
    exact Pt.ext' (by simp only [Pt.add]; omega) (by simp only [Pt.add]; omega)
theorem pt_zero_add (a : Pt) : Pt.add ⟨0, 0⟩ a = a := Pt.ext' (by simp [Pt.add]) (by simp [Pt.add])
theorem pt_add_zero (a : Pt) : Pt.add a ⟨0, 0⟩ = a := Pt.ext' (by simp [Pt.add]) (by simp [Pt.add])
theorem pt_zero_times (a : Pt) : Pt.times ⟨0, 0⟩ a = ⟨0, 0⟩ := Pt.ext' (by simp [Pt.times]) (by simp [Pt.times])
theorem sum_map_succ (c : Pt) (m : Mix) (p : Pt) (l : List Pt) : ∀ (ks : List Nat) (b : Pt), (ks.map Nat.succ).foldl (fun (a : Pt) (i : Nat) => a.add (((c :: m).getD i ⟨0, 0⟩).times ((p :: l).getD i ⟨0, 0⟩))) b = ks.foldl (fun (a : Pt) (i : Nat) => a.add ((m.getD i ⟨0, 0⟩).times (l.getD i ⟨0, 0⟩))) b
  | [], _ => rfl
  | k :: r, b => by
    rw [List.map_cons, List.foldl_cons, List.foldl_cons, sum_map_succ c m p l r]
    rfl
theorem sum_all : ∀ (m : Mix) (l : List Pt), m.length = l.length → sumOver m l (List.range m.length) = ev m l
  | [], [], _ => rfl
  | c :: m, p :: l, h => by
    have ih := sum_all m l (by simpa using h)
    unfold sumOver at ih ⊢
    rw [List.length_cons, List.range_succ_eq_map, List.foldl_cons, sum_map_succ, pt_zero_add]
    have := fold_shift m l (Pt.times c p) (List.range m.length) ⟨0, 0⟩
    rw [pt_add_zero] at this
    show List.foldl _ (Pt.times c p) _ = Pt.add (Pt.times c p) (ev m l)
    rw [this, ih]
  | [], _ :: _, h => by simp at h
  | _ :: _, [], h => by simp at h
theorem sum_filter (m : Mix) (l : List Pt) : ∀ (ks : List Nat) (b : Pt), (ks.filter fun (k : Nat) => m.getD k ⟨0, 0⟩ != ⟨0, 0⟩).foldl (fun (a : Pt) (i : Nat) => a.add ((m.getD i ⟨0, 0⟩).times (l.getD i ⟨0, 0⟩))) b = ks.foldl (fun (a : Pt) (i : Nat) => a.add ((m.getD i ⟨0, 0⟩).times (l.getD i ⟨0, 0⟩))) b
  | [], _ => rfl
  | k :: r, b => by
    by_cases c : m.getD k ⟨0, 0⟩ = ⟨0, 0⟩
    · have e : (m.getD k ⟨0, 0⟩ != ⟨0, 0⟩) = false := by rw [c]; rfl
      rw [List.filter_cons, e, List.foldl_cons, c, pt_zero_times, pt_add_zero]
      exact sum_filter m l r b
    · have e : (m.getD k ⟨0, 0⟩ != ⟨0, 0⟩) = true := by simpa using c
      rw [List.filter_cons, e, if_pos rfl, List.foldl_cons, List.foldl_cons]
      exact sum_filter m l r _
theorem sum_need (m : Mix) (l : List Pt) (h : m.length = l.length) : sumOver m l (needL m) = ev m l := by
  rw [← sum_all m l h]
  exact sum_filter m l _ _
theorem sum_snoc (m : Mix) (l : List Pt) (ks : List Nat) (k : Nat) : sumOver m l (ks ++ [k]) = Pt.add (sumOver m l ks) ((m.getD k ⟨0, 0⟩).times (l.getD k ⟨0, 0⟩)) := by
  unfold sumOver
  rw [List.foldl_append]
  rfl

section
variable {P : Program} {w : World} {K : PySem.W.Frag} {mg : Str → Option Value} {base : Heap} {aN aS aM CF CC : Addr}

/-! ### has_text -/
abbrev s_has_text : Stmt := topS 57
theorem sc_has_text : FnScope ["chart", "text"] ["chart", "text"] (defScope s_has_text) := ⟨rfl, rfl, rfl, by decide +kernel, rfl, by decide +kernel, by decide +kernel⟩
def sp_has_text (K : PySem.W.Frag) (CC : Addr) : Sp := fun vs H Q _ => ∃ (x t : Addr) (S : List Addr) (pl : List (List Int)) (tx : List (List (List Int))) (i : Nat), vs = [.ref x, .int i] ∧ ChartAt K CC H x t S pl tx ∧ Q (.bl (decide (i < tx.length))) H
theorem ok_has_text {f : Addr} {fd : FuncData} {k : Nat} (F : Fun K "has_text" "has_text" s_has_text f fd) (T : Txt K mg aN aS aM) (TC : TxC K CC chF) : FnOk P w K mg base CX0 (k + 1) f fd ["chart", "text"] (sp_has_text K CC) := by
  refine F.ok sc_has_text (fun vs H Q E h => ?_) (fun cdv A outer s H vs Q E hr h => ?_)
  · obtain ⟨x, t, S, pl, tx, i, rfl, _⟩ := h
    rfl
  obtain ⟨x, t, S, pl, tx, i, rfl, ⟨dx, p, us, D⟩, q⟩ := h
  refine ⟨_, (pss_one (ps_ret (pe_cmpR op_lt (pv 1) (pe_callB (call_lenK (K := K) rfl) (by rfl) T.len PySem.boot_len (pa_cons (pe_fld (pv 0) rfl) pa_nil)) (nomark _)))), ?_⟩
  obtain ⟨np, nt⟩ := TC.ch
  refine ⟨_, rfl, _, rfl, x, CC, dx, _, _, rfl, D.e1, TC.cl, nt, F2_texts p t, t, us, rfl, .inl (SqL.of D.e2), _, _, rfl, rfl, ?_⟩
  have e : decide ((i : Int) < (us.length : Int)) = decide (i < tx.length) := by
    rw [decide_eq_decide, pairLen D.tx]
    omega
  show Q (.bl (decide ((i : Int) < (us.length : Int)))) H
  rw [e]
  exact q

/-! ### has_landmark -/
abbrev s_has_landmark : Stmt := topS 58
theorem sc_has_landmark : FnScope ["chart", "landmark"] ["chart", "landmark"] (defScope s_has_landmark) := ⟨rfl, rfl, rfl, by decide +kernel, rfl, by decide +kernel, by decide +kernel⟩
def sp_has_landmark (K : PySem.W.Frag) (CC : Addr) : Sp := fun vs H Q _ => ∃ (x t : Addr) (S : List Addr) (pl : List (List Int)) (tx : List (List (List Int))) (i : Nat), vs = [.ref x, .int i] ∧ ChartAt K CC H x t S pl tx ∧ Q (.bl (decide (i < pl.length))) H
theorem ok_has_landmark {f : Addr} {fd : FuncData} {k : Nat} (F : Fun K "has_landmark" "has_landmark" s_has_landmark f fd) (T : Txt K mg aN aS aM) (TC : TxC K CC chF) : FnOk P w K mg base CX0 (k + 1) f fd ["chart", "landmark"] (sp_has_landmark K CC) := by
  refine F.ok sc_has_landmark (fun vs H Q E h => ?_) (fun cdv A outer s H vs Q E hr h => ?_)
  · obtain ⟨x, t, S, pl, tx, i, rfl, _⟩ := h
    rfl
  obtain ⟨x, t, S, pl, tx, i, rfl, ⟨dx, p, us, D⟩, q⟩ := h
  refine ⟨_, (pss_one (ps_ret (pe_cmpR op_lt (pv 1) (pe_callB (call_lenK (K := K) rfl) (by rfl) T.len PySem.boot_len (pa_cons (pe_fld (pv 0) rfl) pa_nil)) (nomark _)))), ?_⟩
  obtain ⟨np, nt⟩ := TC.ch
  obtain ⟨ps, hps, hpp⟩ := D.pl
  refine ⟨_, rfl, _, rfl, x, CC, dx, _, _, rfl, D.e1, TC.cl, np, F2_places p t, p, ps, rfl, .inl ((hide_same _ _).seq hps), _, _, rfl, rfl, ?_⟩
  have e : decide ((i : Int) < (ps.length : Int)) = decide (i < pl.length) := by
    rw [decide_eq_decide, pairLen hpp]
    omega
  show Q (.bl (decide ((i : Int) < (ps.length : Int)))) H
  rw [e]
  exact q

/-! ### places_with -/
abbrev s_places_with : Stmt := topS 59
theorem sc_places_with : FnScope ["chart", "landmark", "place", "number", "kept"] ["chart", "landmark", "place"] (defScope s_places_with) := ⟨rfl, rfl, rfl, by decide +kernel, rfl, by decide +kernel, by decide +kernel⟩
def sp_places_with (K : PySem.W.Frag) (CC : Addr) : Sp := fun vs H Q _ => ∃ (x t : Addr) (S : List Addr) (pl : List (List Int)) (tx : List (List (List Int))) (dx p : Addr) (us ps : List V) (k : Nat) (v : V), vs = [.ref x, .int k, v] ∧ ChD K CC H x t S pl tx dx p us ∧ SqL K H p ps ∧ ps.length ≤ 1000 ∧
  ∀ H' q, Same H H' → H q = none → H' q = some (.lst (ps.set k v)) → Q (.ref q) H'
theorem ok_places_with {f : Addr} {fd : FuncData} {k : Nat} (F : Fun K "places_with" "places_with" s_places_with f fd) (T : Txt K mg aN aS aM) (TC : TxC K CC chF) : FnOk P w K mg base CX0 (k + 1) f fd ["chart", "landmark", "place"] (sp_places_with K CC) := by
  refine F.ok sc_places_with (fun vs H Q E h => ?_) (fun cdv A outer s H vs Q E hr h => ?_)
  · obtain ⟨x, t, S, pl, tx, dx, p, us, ps, k, v, rfl, _⟩ := h
    rfl
  obtain ⟨x, t, S, pl, tx, dx, p, us, ps, k, v, rfl, D, hps, hlen, q⟩ := h
  refine ⟨_, (pss_one (ps_ret (pe_lc (own := [("number", 3), ("kept", 4)]) rfl sc_places_with.nd (pi_enum (by rfl) T.enumerate (pa_cons (pe_fld (pv 0) rfl) pa_nil)) (blkOk_by (N := ["chart", "landmark", "place", "number", "kept"]) (sc := defScope s_places_with) (by decide +kernel)) (fun _ _ _ _ _ => (pg_tupK (K := K) (n := 2) rfl rfl (pgs_cons (pg_name (i := 3) sc_places_with.nd rfl (Or.inl rfl)) (pgs_cons (pg_name (i := 4) sc_places_with.nd rfl (Or.inl rfl)) pgs_nil)))) (fun _ _ _ _ _ => pts_nil) (fun _ _ _ _ _ => (pe_ifExp (pt_cmpR op_eq (pv 3) (pv 1) (nomark _)) (pv 2) (pv 4)))))), ?_⟩
  obtain ⟨np, nt⟩ := TC.ch
  refine ⟨_, rfl, x, CC, dx, _, _, rfl, D.e1, TC.cl, np, F2_places p t, p, ps, rfl, hps, fun E nE => lc_it (walk_enum (xs := ps)) (fun i H' => MadeV H E ((ps.set k v).take i) H') (MadeV.start nE) (fun i H' _ M => M.1.seq hps) (fun i y H' H2 hi M hy => ?_) (fun H' M => ?_)⟩
  · obtain ⟨z, x1, x2, rfl, nz, rfl, e1, e2⟩ := hy
    cases e1
    have hil : i < ps.length := (List.getElem?_eq_some_iff.mp e2).1
    have s2 : Same H (upd H' z (.tup [.int (i : Nat), x2])) := M.1.trans (same_upd nz)
    have M2 : MadeV H E ((ps.set k v).take i) (upd H' z (.tup [.int (i : Nat), x2])) := ⟨s2, (same_upd nz) _ _ M.2⟩
    have hsz : ((ps.set k v).take i).length < sizeLine := small_of (by rw [List.length_take, List.length_set]; omega)
    refine ⟨z, _, rfl, SqT.of upd_same, rfl, _, _, rfl, _, _, rfl, rfl, rfl, keepIt ?_⟩
    refine ⟨_, rfl, _, rfl, rfl, _, rfl, ?_⟩
    refine tEq (fun c => ?_) (fun c => ?_)
    · have e : k = i := by omega
      refine ⟨_, rfl, _, M2.2, hsz, ?_⟩
      have h1 : (ps.set k v).take (i + 1) = (ps.set k v).take i ++ [v] := take_succ_get (by rw [e, List.getElem?_set_self hil])
      rw [h1]
      exact M2.put nE _
    · have e : k ≠ i := by omega
      refine ⟨_, rfl, _, M2.2, hsz, ?_⟩
      have h1 : (ps.set k v).take (i + 1) = (ps.set k v).take i ++ [x2] := take_succ_get (by rw [List.getElem?_set_ne e]; exact e2)
      rw [h1]
      exact M2.put nE _
  · have e : (ps.set k v).take ps.length = ps.set k v := by
      rw [List.take_of_length_le (by rw [List.length_set]; exact Nat.le_refl _)]
    rw [e] at M
    exact q H' E M.1 nE M.2

/-! ### shares_of -/
abbrev s_shares_of : Stmt := topS 25
theorem sc_shares_of : FnScope ["sayings", "landmarks", "follower", "saying"] ["sayings", "landmarks"] (defScope s_shares_of) := ⟨rfl, rfl, rfl, by decide +kernel, rfl, by decide +kernel, by decide +kernel⟩
/-- a text that was taken -/
structure GoodT (n : Nat) (t : Text) : Prop where
  st : Mu51.stands t = true
  ln : t.length ≤ 14
  wr : Mu51.wrongAt n 0 0 t = none
  hv : Mu51.halves t ≤ 8
theorem GoodT.on {n : Nat} {t : Text} (g : GoodT n t) : ∀ s ∈ t, onOk s := onOk_of g.wr
theorem stands_at {t : Text} (h : Mu51.stands t = true) {i k : Nat} (e : t[i]? = some (.stand k)) : i = 0 := by
  cases t with
  | nil => simp at e
  | cons s r =>
    cases i with
    | zero => rfl
    | succ i =>
      exfalso
      have e' : r[i]? = some (Mu51.Say.stand k) := by simpa using e
      have hm := List.mem_of_getElem? e'
      unfold Mu51.stands at h
      split at h
      · rename_i h2
        injection h2 with _ h3
        subst h3
        have := List.all_eq_true.mp h _ hm
        simp at this
      · cases h
def sp_shares_of (K : PySem.W.Frag) : Sp := fun vs H Q _ => ∃ (b : Addr) (n : Nat) (txt : Text), vs = [.ref b, .int n] ∧ Rows K H b (encT txt) ∧ GoodT n txt ∧ n ≤ 1000 ∧
  ∀ H' p, Same H H' → MixAt K H' p (Mu51.mix n txt) → Q (.ref p) H'
theorem ok_shares_of {f : Addr} {fd : FuncData} {k : Nat} (F : Fun K "shares_of" "shares_of" s_shares_of f fd) (T : Txt K mg aN aS aM) (TF : TxC K CF foF)
    (C_Follower : CalN P w K mg base 1 "Follower" CF ["self", "landmarks"] (sp_Follower K CF)) (C_follow : CalM P w K mg base 3 CF "follow" ["self", "saying"] (sp_follow K CF)) :
    FnOk P w K mg base CX0 (k + 4) f fd ["sayings", "landmarks"] (sp_shares_of K) := by
  refine F.ok sc_shares_of (fun vs H Q E h => ?_) (fun cdv A outer s H vs Q E hr h => ?_)
  · obtain ⟨b, n, txt, rfl, _⟩ := h
    rfl
  obtain ⟨b, n, txt, rfl, hR, G, hn, kk⟩ := h
  refine ⟨_, (pss_cons (ps_set (i := 2) sc_shares_of.nd rfl (Or.inl rfl) (pmake C_Follower (hr.mono (by omega)) rfl (pa_cons (pv 1) pa_nil)))
      (pss_cons (ps_for PassesOwn.never rfl (pi_list (pv 0)) (pg_name (i := 3) sc_shares_of.nd rfl (Or.inl rfl))
        (pss_one (ps_expr (pmeth (pv 2) C_follow (hr.mono (by omega)) (pa_cons (pv 3) pa_nil)))))
      (pss_one (ps_ret (pe_fld (pv 2) rfl))))), ?_⟩
  obtain ⟨nl, nh, ny, ng⟩ := TF.fo
  refine ⟨_, rfl, ?_⟩
  intro z dz nz ndz nez
  refine ⟨z, dz, n, rfl, upd_same, hn, fun H1 q F1 M1 nq => ⟨rfl, ?_⟩⟩
  have S1 : Same H H1 := fun b o e => by
    refine M1 b o ?_ (fun h => ?_)
    · rw [upd_ne (ne_of_none e nz), upd_ne (ne_of_none e ndz)]
      exact e
    · obtain rfl := List.mem_singleton.mp h
      rw [nz] at e
      cases e
  have nqH : H q = none := by
    cases e : H q with
    | none => rfl
    | some o =>
      rw [upd_ne (ne_of_none e nz), upd_ne (ne_of_none e ndz), e] at nq
      cases nq
  obtain ⟨rs, hb, hrp⟩ := hR
  have lr : rs.length = txt.length := (pairLen hrp).trans (encT_len txt)
  refine ⟨_, rfl, b, rfl, ⟨_, S1.seq hb⟩, ?_⟩
  refine for_list (K := K) (a := b) (xs := rs) (fun j σ H' => ∃ y, σ = [some (.ref b), some (.int n), some (.ref z), y] ∧ Same H H' ∧ FolAt K CF H' z q n (walkAt n txt j)) ⟨none, rfl, S1, F1⟩ (fun j σ H' _ ⟨_, _, s1, _⟩ => s1.seq hb) ?_ ?_
  · rintro j y σ H' hj ⟨y0, rfl, s1, f1⟩
    obtain ⟨l, hl, c, rfl, hc⟩ := pairGet hrp hj
    obtain ⟨say, hsay, rfl⟩ := encT_get hl
    have hjl : j < txt.length := (List.getElem?_eq_some_iff.mp hsay).1
    have gd := walkAt_gd (n := n) G.hv G.on G.ln j
    have lpg := walkAt_pegs n txt j (by omega)
    obtain ⟨dz1, h1, y1, vs1, FD⟩ := f1.parts
    have lf : (F4 n h1 y1 q).lookup ("follow" : Str) = none := F4_none _ _ _ _ (by decide +kernel) (by decide +kernel) (by decide +kernel) (by decide +kernel)
    refine ⟨_, rfl, z, dz1, _, rfl, FD.e1, lf, _, rfl, z, q, c, n, walkAt n txt j, say, rfl, f1, s1.seq hc, hn, ?_, gd.here.len, gd.way.len, fun m hm => (gd.pegs m hm).len, ?_, ?_, fun H2 f2 m2 => ?_⟩
    · rw [lpg]
      exact ok_of_none G.wr hsay
    · have hle : ∀ j, j ≤ txt.length → pegsAt txt j ≤ j := by
        intro j
        induction j with
        | zero => intro _; exact Nat.le_refl _
        | succ j ih =>
          intro hj
          have hs : txt[j]? = some txt[j] := List.getElem?_eq_getElem (by omega)
          rw [pegsAt_succ hs]
          have := ih (by omega)
          unfold pegs'
          split <;> omega
      have := hle j (by omega)
      have := G.ln
      omega
    · rintro ⟨k, rfl⟩
      have : j = 0 := stands_at G.st hsay
      subst this
      rfl
    · refine ⟨_, rfl, fun b o e => m2 b o (s1 b o e) (fun hb => ?_), ?_⟩
      · simp only [List.mem_cons, List.not_mem_nil, or_false] at hb
        rcases hb with rfl | rfl
        · rw [nz] at e; cases e
        · rw [nqH] at e; cases e
      · rw [walkAt_succ hsay]
        exact f2
  · rintro σ H' ⟨y, rfl, s1, f1⟩
    obtain ⟨dz1, h1, y1, vs1, FD⟩ := f1.parts
    refine ⟨_, rfl, z, CF, dz1, _, _, rfl, FD.e1, TF.cl, nh, F4_here _ _ _ _, ?_⟩
    refine kk H' h1 s1 ?_
    have := FD.m1.same (hide_same _ _)
    rw [lr, walkAt_all] at this
    exact this

/-! ### treasure_shares -/
abbrev s_treasure_shares : Stmt := topS 60
theorem sc_treasure_shares : FnScope ["chart", "text"] ["chart", "text"] (defScope s_treasure_shares) := ⟨rfl, rfl, rfl, by decide +kernel, rfl, by decide +kernel, by decide +kernel⟩
def sp_treasure_shares (K : PySem.W.Frag) (CC : Addr) : Sp := fun vs H Q _ => ∃ (x t : Addr) (S : List Addr) (pl : List (List Int)) (tx : List (List (List Int))) (i : Nat) (txt : Text), vs = [.ref x, .int i] ∧ ChartAt K CC H x t S pl tx ∧ tx[i]? = some (encT txt) ∧ GoodT pl.length txt ∧ pl.length ≤ 1000 ∧
  ∀ H' p, Same H H' → MixAt K H' p (Mu51.mix pl.length txt) → Q (.ref p) H'
theorem ok_treasure_shares {f : Addr} {fd : FuncData} {k : Nat} (F : Fun K "treasure_shares" "treasure_shares" s_treasure_shares f fd) (T : Txt K mg aN aS aM) (TC : TxC K CC chF)
    (C_shares_of : Cal P w K mg base 4 "shares_of" ["sayings", "landmarks"] (sp_shares_of K)) :
    FnOk P w K mg base CX0 (k + 5) f fd ["chart", "text"] (sp_treasure_shares K CC) := by
  refine F.ok sc_treasure_shares (fun vs H Q E h => ?_) (fun cdv A outer s H vs Q E hr h => ?_)
  · obtain ⟨x, t, S, pl, tx, i, txt, rfl, _⟩ := h
    rfl
  obtain ⟨x, t, S, pl, tx, i, txt, rfl, ⟨dx, p, us, D⟩, ei, G, hn, kk⟩ := h
  refine ⟨_, (pss_one (ps_ret (pcall C_shares_of (hr.mono (by omega)) rfl (pa_cons (pe_ix ix_list (pe_fld (pv 0) rfl) (pv 1) (fun _ _ => rfl)) (pa_cons (pe_callB (call_lenK (K := K) rfl) (by rfl) T.len PySem.boot_len (pa_cons (pe_fld (pv 0) rfl) pa_nil)) pa_nil))))), ?_⟩
  obtain ⟨np, nt⟩ := TC.ch
  obtain ⟨ps, hps, hpp⟩ := D.pl
  have hs : Same (hide H (x :: t :: S)) H := hide_same _ _
  have lp : ps.length = pl.length := pairLen hpp
  obtain ⟨v, ev, b, rfl, hR⟩ := pairGetR D.tx ei
  refine ⟨_, rfl, x, CC, dx, _, _, rfl, D.e1, TC.cl, nt, F2_texts p t, _, rfl, t, us, _, _, rfl, rfl, SqL.of D.e2, atI_nat ev, ?_⟩
  refine ⟨_, rfl, x, CC, dx, _, _, rfl, D.e1, TC.cl, np, F2_places p t, p, ps, rfl, .inl (hs.seq hps), ?_⟩
  exact ⟨b, pl.length, txt, by rw [lp]; rfl, hR.same hs, G, hn, kk⟩

/-! ### needed_landmarks -/
abbrev s_needed_landmarks : Stmt := topS 61
theorem sc_needed_landmarks : FnScope ["shares", "landmark", "share"] ["shares"] (defScope s_needed_landmarks) := ⟨rfl, rfl, rfl, by decide +kernel, rfl, by decide +kernel, by decide +kernel⟩
theorem dp_pt {H : Hp} {a : Addr} {i j : Int} (h : SqT K H a [.int i, .int j]) : Dp K H (.ref a) (.tuple [.int i, .int j]) := .tup h (.cons (.int i) (.cons (.int j) .nil))
theorem eqv_pt (i j k l : Int) : PyData.eqv (.tuple [.int i, .int j]) (.tuple [.int k, .int l]) = (decide (i = k) && decide (j = l)) := by
  simp [PyData.eqv, PyData.eqvAll]
  rfl
def nInt (ks : List Nat) : List V := ks.map fun (k : Nat) => V.int k
def sp_needed_landmarks (K : PySem.W.Frag) : Sp := fun vs H Q _ => ∃ (a : Addr) (m : Mix), vs = [.ref a] ∧ MixAt K H a m ∧ m.length ≤ 1000 ∧
  ∀ H' p, Same H H' → H p = none → H' p = some (.lst (nInt (needL m))) → Q (.ref p) H'
theorem ok_needed_landmarks {f : Addr} {fd : FuncData} {k : Nat} (F : Fun K "needed_landmarks" "needed_landmarks" s_needed_landmarks f fd) (T : Txt K mg aN aS aM) : FnOk P w K mg base CX0 (k + 1) f fd ["shares"] (sp_needed_landmarks K) := by
  refine F.ok sc_needed_landmarks (fun vs H Q E h => ?_) (fun cdv A outer s H vs Q E hr h => ?_)
  · obtain ⟨a, m, rfl, _⟩ := h
    rfl
  obtain ⟨a, m, rfl, ⟨vs, hL, hP⟩, hlen, q⟩ := h
  refine ⟨_, (pss_one (ps_ret (pe_lc (own := [("landmark", 1), ("share", 2)]) rfl sc_needed_landmarks.nd (pi_enum (by rfl) T.enumerate (pa_cons (pv 0) pa_nil)) (blkOk_by (N := ["shares", "landmark", "share"]) (sc := defScope s_needed_landmarks) (by decide +kernel)) (fun _ _ _ _ _ => (pg_tupK (K := K) (n := 2) rfl rfl (pgs_cons (pg_name (i := 1) sc_needed_landmarks.nd rfl (Or.inl rfl)) (pgs_cons (pg_name (i := 2) sc_needed_landmarks.nd rfl (Or.inl rfl)) pgs_nil)))) (fun _ _ _ _ _ => (pts_one (pt_cmpR (op_neDK (K := K) rfl hr.units) (pv 2) (pgR rfl T.gNOTHING) (nomark _)))) (fun _ _ _ _ _ => (pv 1))))), ?_⟩
  have el := pairLen hP
  refine ⟨_, rfl, a, vs, rfl, hL, fun D nD => lc_it (walk_enum (xs := vs)) (fun i H' => MadeV H D (nInt ((List.range i).filter fun (k : Nat) => m.getD k ⟨0, 0⟩ != ⟨0, 0⟩)) H') (MadeV.start nD) (fun i H' _ M => M.1.seq hL) (fun i x H' H2 hi M hy => ?_) (fun H' M => ?_)⟩
  · obtain ⟨z, x1, x2, rfl, nz, rfl, e1, e2⟩ := hy
    cases e1
    obtain ⟨p, hp, t, rfl, ht⟩ := pairGet hP e2
    have s2 : Same H (upd H' z (.tup [.int (i : Nat), .ref t])) := M.1.trans (same_upd nz)
    refine ⟨z, _, rfl, SqT.of upd_same, rfl, _, _, rfl, _, _, rfl, rfl, rfl, ?_⟩
    refine ⟨_, rfl, _, _, dp_pt (sameTup s2 ht), dp_pt (T.nNOTHING.sq _), rfl, rfl, _, rfl, ?_⟩
    have M2 : MadeV H D _ (upd H' z (.tup [.int (i : Nat), .ref t])) := ⟨s2, (same_upd nz) _ _ M.2⟩
    have gi : m.getD i ⟨0, 0⟩ = p := getD_of hp
    have er : (List.range (i + 1)).filter (fun (k : Nat) => m.getD k ⟨0, 0⟩ != ⟨0, 0⟩) = (List.range i).filter (fun (k : Nat) => m.getD k ⟨0, 0⟩ != ⟨0, 0⟩) ++ (if p != ⟨0, 0⟩ then [i] else []) := by
      rw [List.range_succ, List.filter_append]
      congr 1
      rw [List.filter_cons, gi]
      rfl
    rw [eqv_pt]
    refine tNot' (fun c => ?_) (fun c => ?_)
    · have hp0 : (p != ⟨0, 0⟩) = true := by
        have : p ≠ ⟨0, 0⟩ := fun z => by rw [z] at c; simp at c
        simpa using this
      refine ⟨_, rfl, _, M2.2, small_of ?_, ?_⟩
      · have h1 := List.length_filter_le (fun (k : Nat) => m.getD k ⟨0, 0⟩ != ⟨0, 0⟩) (List.range i)
        rw [nInt, List.length_map]
        rw [List.length_range] at h1
        omega
      · rw [er, hp0, if_pos rfl, nInt, List.map_append]
        exact M2.put nD _
    · have hp0 : (p != ⟨0, 0⟩) = false := by
        have : p = ⟨0, 0⟩ := by
          simp only [Bool.and_eq_true, decide_eq_true_eq] at c
          exact Pt.ext' c.1 c.2
        rw [this]
        rfl
      rw [er, hp0]
      simpa using M2
  · rw [el] at M
    exact q H' D M.1 nD M.2

/-! ### what a call that changes nothing promises -/
def Told (H : Hp) (Q : VK) (a : List Int) : Prop := ∀ H' p, Same H H' → H p = none → H' p = some (.lst (a.map V.int)) → Q (.ref p) H'
theorem Told.same {H H1 : Hp} {Q : VK} {a : List Int} (t : Told H Q a) (s : Same H H1) : Told H1 Q a := fun H' p s2 n e => t H' p (s.trans s2) (s.free n) e
/-- a list written out -/
theorem Told.lst {H : Hp} {Q : VK} {a : List Int} (t : Told H Q a) {p : Addr} (n : H p = none) : Q (.ref p) (upd H p (.lst (a.map V.int))) := t _ p (same_upd n) n upd_same

/-! ### refusal_if_gone -/
abbrev s_refusal_if_gone : Stmt := topS 62
theorem sc_refusal_if_gone : FnScope ["places", "shares", "landmark"] ["places", "shares"] (defScope s_refusal_if_gone) := ⟨rfl, rfl, rfl, by decide +kernel, rfl, by decide +kernel, by decide +kernel⟩
def goneL (pl : List (List Int)) (m : Mix) : List Nat := (needL m).filter fun k => (pl.getD k []).isEmpty
def refOf : Option Nat → List Int
  | none => []
  | some k => [-6, (k : Int)]
theorem filter_first {α : Type} {f : α → Bool} {ks : List α} {i : Nat} {k : α} (h : (ks.take i).filter f = []) (hk : ks[i]? = some k) (e : f k = true) : (ks.filter f).head? = some k := by
  rw [← List.take_append_drop i ks, List.filter_append, h, drop_get hk, List.filter_cons, if_pos e]
  rfl
theorem filter_next {α : Type} {f : α → Bool} {ks : List α} {i : Nat} {k : α} (h : (ks.take i).filter f = []) (hk : ks[i]? = some k) (e : f k = false) : (ks.take (i + 1)).filter f = [] := by
  rw [take_succ_get hk, List.filter_append, h, List.filter_cons, e]
  rfl
def sp_refusal_if_gone (K : PySem.W.Frag) : Sp := fun vs H Q _ => ∃ (a b : Addr) (pl : List (List Int)) (m : Mix), vs = [.ref a, .ref b] ∧ RowsW K H a pl ∧ MixAt K H b m ∧ m.length = pl.length ∧ m.length ≤ 1000 ∧ Told H Q (refOf (goneL pl m).head?)
theorem ok_refusal_if_gone {f : Addr} {fd : FuncData} {k : Nat} (F : Fun K "refusal_if_gone" "refusal_if_gone" s_refusal_if_gone f fd) (T : Txt K mg aN aS aM)
    (C_needed_landmarks : Cal P w K mg base 1 "needed_landmarks" ["shares"] (sp_needed_landmarks K)) : FnOk P w K mg base CX0 (k + 2) f fd ["places", "shares"] (sp_refusal_if_gone K) := by
  refine F.ok sc_refusal_if_gone (fun vs H Q E h => ?_) (fun cdv A outer s H vs Q E hr h => ?_)
  · obtain ⟨a, b, pl, m, rfl, _⟩ := h
    rfl
  obtain ⟨a, b, pl, m, rfl, hR, hM, hml, hlen, q⟩ := h
  refine ⟨_, (pss_cons (ps_for PassesOwn.never rfl (pi_list (pcall C_needed_landmarks (hr.mono (by omega)) rfl (pa_cons (pv 1) pa_nil))) (pg_name (i := 2) sc_refusal_if_gone.nd rfl (Or.inl rfl))
        (pss_one (ps_if (pt_cmpR op_eq (pe_callB (call_lenK (K := K) rfl) (by rfl) T.len PySem.boot_len (pa_cons (pe_ix ix_list (pv 0) (pv 2) (fun _ _ => rfl)) pa_nil)) pe_int (nomark _)) (pss_one (ps_ret (pe_lst (pa_cons (pgI rfl T.gIS_GONE) (pa_cons (pv 2) pa_nil)))))
          pss_nil)))
      (pss_one (ps_ret (pe_lst pa_nil)))), ?_⟩
  refine ⟨_, rfl, b, m, rfl, hM, hlen, fun H1 nA s1 n1 e1 => ⟨nA, rfl, ⟨_, SqL.of e1⟩, ?_⟩⟩
  obtain ⟨ps, hps, hpp⟩ := hR.same s1
  have e0 : (nInt (needL m)).length = (needL m).length := List.length_map _
  refine for_list (K := K) (a := nA) (xs := nInt (needL m)) (fun i σ H' => H' = H1 ∧ ∃ z2, σ = [some (.ref a), some (.ref b), z2] ∧ ((needL m).take i).filter (fun k => (pl.getD k []).isEmpty) = []) ⟨rfl, none, rfl, rfl⟩ (fun i σ H' _ ⟨e, _⟩ => by rw [e]; exact SqL.of e1) ?_ ?_
  · rintro i v σ H' hv ⟨rfl, z2, rfl, hf⟩
    rw [nInt, List.getElem?_map] at hv
    obtain ⟨k, hk, rfl⟩ := Option.map_eq_some_iff.mp hv
    have hkl : k < pl.length := by
      have := (mem_needL (List.mem_of_getElem? hk)).1
      omega
    have hgk : pl[k]? = some pl[k] := List.getElem?_eq_getElem hkl
    obtain ⟨v, ev, c, rfl, hc⟩ := pairGetR hpp hgk
    have gk : pl.getD k [] = pl[k] := getD_of hgk
    refine ⟨_, rfl, _, rfl, a, ps, _, _, rfl, rfl, hps, atI_nat ev, c, _, rfl, hc, rfl, _, rfl, ?_⟩
    refine tEq (fun z => ?_) (fun z => ?_)
    · have e2 : (pl.getD k []).isEmpty = true := by
        rw [List.length_map] at z
        rw [gk]
        exact List.isEmpty_iff_length_eq_zero.mpr (by omega)
      have e3 : (goneL pl m).head? = some k := filter_first hf hk e2
      rw [e3] at q
      refine ⟨_, rfl, (by show 2 ≤ sizeLine; decide), fun p n => ?_⟩
      exact (q.same s1).lst n
    · have e2 : (pl.getD k []).isEmpty = false := by
        rw [List.length_map] at z
        rw [gk]
        cases h : (pl[k]).isEmpty with
        | false => rfl
        | true =>
          have := List.isEmpty_iff_length_eq_zero.mp h
          omega
      exact ⟨rfl, some (.int k), rfl, filter_next hf hk e2⟩
  · rintro σ H' ⟨rfl, z2, rfl, hf⟩
    rw [e0, List.take_length] at hf
    have e3 : (goneL pl m).head? = none := by
      unfold goneL
      rw [hf]
      rfl
    rw [e3] at q
    exact ⟨Nat.zero_le _, fun p n => (q.same s1).lst n⟩
end
end Gk
namespace Gk
open PySem PySem.Spec PyProof.Rows L2
open Mu51 (Pt Mix State Text)

/-! ### the state -/
structure GoodS (s : State) : Prop where
  m1 : 1 ≤ s.marks.length
  m4 : s.marks.length ≤ 4
  nr : ∀ p, some p ∈ s.marks → (-1000 ≤ p.x ∧ p.x ≤ 1000) ∧ (-1000 ≤ p.y ∧ p.y ≤ 1000)
  t4 : s.texts.length ≤ 4
  tx : ∀ t ∈ s.texts, GoodT s.marks.length t
def plOf (s : State) : List (List Int) := s.marks.map encM
def txOf (s : State) : List (List (List Int)) := s.texts.map encT
def SAt (K : PySem.W.Frag) (CC : Addr) (H : Hp) (x t : Addr) (S : List Addr) (s : State) : Prop := ChartAt K CC H x t S (plOf s) (txOf s) ∧ GoodS s
theorem SAt.same {K : PySem.W.Frag} {CC : Addr} {H H' : Hp} {x t : Addr} {S : List Addr} {s : State} (e : Same H H') (c : SAt K CC H x t S s) : SAt K CC H' x t S s := ⟨c.1.same e, c.2⟩
theorem plOf_len (s : State) : (plOf s).length = s.marks.length := List.length_map _
theorem txOf_len (s : State) : (txOf s).length = s.texts.length := List.length_map _
theorem places_len (s : State) : (Mu51.places s).length = s.marks.length := List.length_map _
theorem plOf_get {s : State} {k : Nat} (h : k < s.marks.length) : (plOf s)[k]? = some (encM s.marks[k]) := by
  unfold plOf
  rw [List.getElem?_map, List.getElem?_eq_getElem h]
  rfl
theorem txOf_get {s : State} {i : Nat} {t : Text} (h : s.texts[i]? = some t) : (txOf s)[i]? = some (encT t) := by
  unfold txOf
  rw [List.getElem?_map, h]
  rfl
theorem gone_iff {s : State} {k : Nat} (h : k < s.marks.length) : ((plOf s).getD k []).isEmpty = (s.marks.getD k none).isNone := by
  rw [getD_of (plOf_get h), getD_of (List.getElem?_eq_getElem h)]
  cases s.marks[k] <;> rfl
theorem find_filter {α : Type} (P : α → Bool) : ∀ (l : List α), l.find? P = (l.filter P).head?
  | [] => rfl
  | a :: l => by
    rw [List.find?_cons, List.filter_cons]
    cases h : P a with
    | true => rfl
    | false => exact find_filter P l
theorem filter_congr' {α : Type} {P R : α → Bool} : ∀ {l : List α}, (∀ x ∈ l, P x = R x) → l.filter P = l.filter R
  | [], _ => rfl
  | a :: l, h => by
    rw [List.filter_cons, List.filter_cons, h a List.mem_cons_self, filter_congr' fun x hx => h x (List.mem_cons_of_mem _ hx)]
/-- what lacks: the first of those that are needed and gone -/
theorem lacks_eq {s : State} {t : Text} (G : GoodT s.marks.length t) (but : Nat) : Mu51.lacks s t but = ((needL (Mu51.mix s.marks.length t)).filter fun k => k != but && ((plOf s).getD k []).isEmpty).head? := by
  have ml := mix_len (n := s.marks.length) G.hv G.on
  unfold Mu51.lacks Mu51.many
  rw [needs_eq ml, find_filter]
  congr 1
  apply filter_congr'
  intro k hk
  have := (mem_needL hk).1
  rw [ml] at this
  rw [gone_iff this]
theorem ev_places {s : State} {t : Text} (G : GoodT s.marks.length t) : Mu51.treasure (Mu51.places s) t = ev (Mu51.mix s.marks.length t) (Mu51.places s) := by
  have := treasure_ev (Mu51.places s) t G.hv G.on
  rw [places_len] at this
  exact this

theorem both_len (p : Pt) (d : Int) : (Mu51.both p d).length ≤ 10 := by
  unfold Mu51.both
  dsimp only
  split <;> simp
/-- those that are needed stand -/
def Stands (pl : List (List Int)) (l : List Pt) (m : Mix) : Prop := ∀ k ∈ needL m, ∃ p : Pt, pl[k]? = some [p.x, p.y] ∧ l[k]? = some p ∧ (-1000 ≤ p.x ∧ p.x ≤ 1000) ∧ (-1000 ≤ p.y ∧ p.y ≤ 1000)
theorem goneL_all {s : State} {t : Text} (G : GoodT s.marks.length t) : Mu51.lacks s t (Mu51.many s) = (goneL (plOf s) (Mu51.mix s.marks.length t)).head? := by
  have ml := mix_len (n := s.marks.length) G.hv G.on
  show Mu51.lacks s t s.marks.length = _
  rw [lacks_eq G]
  unfold goneL
  congr 1
  apply filter_congr'
  intro k hk
  have := (mem_needL hk).1
  have hne : (k != s.marks.length) = true := by simp; omega
  rw [hne, Bool.true_and]
theorem goneL_but {s : State} {t : Text} {j : Nat} {x y : Int} (G : GoodT s.marks.length t) (hj : j < s.marks.length) : Mu51.lacks s t j = (goneL ((plOf s).set j [x, y]) (Mu51.mix s.marks.length t)).head? := by
  rw [lacks_eq G]
  unfold goneL
  congr 1
  apply filter_congr'
  intro k hk
  by_cases c : k = j
  · subst c
    have e : ((plOf s).set k [x, y]).getD k [] = [x, y] := getD_of (List.getElem?_set_self (by rw [plOf_len]; exact hj))
    rw [e]
    simp
  · have hne : (k != j) = true := by simpa using c
    rw [hne, Bool.true_and, List.getD_eq_getElem?_getD, List.getD_eq_getElem?_getD, List.getElem?_set_ne (Ne.symm c)]
theorem head_none {α : Type} {l : List α} (h : l.head? = none) : l = [] := by
  cases l with
  | nil => rfl
  | cons a r => cases h
theorem stands_mark {s : State} (g : GoodS s) {k : Nat} (hkl : k < s.marks.length) (ng : ((plOf s).getD k []).isEmpty = false) : ∃ p : Pt, (plOf s)[k]? = some [p.x, p.y] ∧ (Mu51.places s)[k]? = some p ∧ (-1000 ≤ p.x ∧ p.x ≤ 1000) ∧ (-1000 ≤ p.y ∧ p.y ≤ 1000) := by
  have hmk : s.marks[k]? = some s.marks[k] := List.getElem?_eq_getElem hkl
  rw [gone_iff hkl, getD_of hmk] at ng
  cases hq : s.marks[k] with
  | none => rw [hq] at ng; cases ng
  | some pt =>
    have hmem : some pt ∈ s.marks := by rw [← hq]; exact List.getElem_mem hkl
    refine ⟨pt, ?_, ?_, (g.nr pt hmem).1, (g.nr pt hmem).2⟩
    · rw [plOf_get hkl, hq]
      rfl
    · unfold Mu51.places
      rw [List.getElem?_map, hmk, hq]
      rfl
theorem stands_all {s : State} {t : Text} (g : GoodS s) (G : GoodT s.marks.length t) (h : Mu51.lacks s t (Mu51.many s) = none) : Stands (plOf s) (Mu51.places s) (Mu51.mix s.marks.length t) := fun k hk => by
  have ml := mix_len (n := s.marks.length) G.hv G.on
  have hkl := (mem_needL hk).1
  rw [ml] at hkl
  rw [goneL_all G] at h
  have h0 := head_none h
  refine stands_mark g hkl ?_
  cases e : ((plOf s).getD k []).isEmpty with
  | false => rfl
  | true =>
    have : k ∈ goneL (plOf s) (Mu51.mix s.marks.length t) := List.mem_filter.mpr ⟨hk, e⟩
    rw [h0] at this
    cases this
theorem stands_but {s : State} {t : Text} {j : Nat} {x y : Int} (g : GoodS s) (G : GoodT s.marks.length t) (hj : j < s.marks.length) (hx : -1000 ≤ x ∧ x ≤ 1000) (hy : -1000 ≤ y ∧ y ≤ 1000) (h : Mu51.lacks s t j = none) :
    Stands ((plOf s).set j [x, y]) ((Mu51.places s).set j ⟨x, y⟩) (Mu51.mix s.marks.length t) := fun k hk => by
  have ml := mix_len (n := s.marks.length) G.hv G.on
  have hkl := (mem_needL hk).1
  rw [ml] at hkl
  by_cases c : k = j
  · subst c
    exact ⟨⟨x, y⟩, List.getElem?_set_self (by rw [plOf_len]; exact hj), List.getElem?_set_self (by rw [places_len]; exact hj), hx, hy⟩
  · rw [lacks_eq G] at h
    have h0 := head_none h
    have hne : (k != j) = true := by simpa using c
    obtain ⟨p, h1, h2, h3⟩ := stands_mark g hkl (by
      cases e : ((plOf s).getD k []).isEmpty with
      | false => rfl
      | true =>
        have : k ∈ (needL (Mu51.mix s.marks.length t)).filter fun k => k != j && ((plOf s).getD k []).isEmpty := List.mem_filter.mpr ⟨hk, by rw [hne, e]; rfl⟩
        rw [h0] at this
        cases this)
    exact ⟨p, by rw [List.getElem?_set_ne (Ne.symm c)]; exact h1, by rw [List.getElem?_set_ne (Ne.symm c)]; exact h2, h3⟩

section
variable {P : Program} {w : World} {K : PySem.W.Frag} {mg : Str → Option Value} {base : Heap} {aN aS aM CF CC : Addr}

/-! ### treasure_in_parts -/
abbrev s_treasure_in_parts : Stmt := topS 63
theorem sc_treasure_in_parts : FnScope ["places", "shares", "east", "north", "landmark", "told"] ["places", "shares"] (defScope s_treasure_in_parts) := ⟨rfl, rfl, rfl, by decide +kernel, rfl, by decide +kernel, by decide +kernel⟩
def sp_treasure_in_parts (K : PySem.W.Frag) : Sp := fun vs H Q _ => ∃ (a b : Addr) (pl : List (List Int)) (m : Mix) (l : List Pt), vs = [.ref a, .ref b] ∧ RowsW K H a pl ∧ MixAt K H b m ∧ m.length = l.length ∧ m.length ≤ 1000 ∧ Stands pl l m ∧
  ∀ H' p, Same H H' → H p = none → H' p = some (.tup [.int (ev m l).x, .int (ev m l).y]) → Q (.ref p) H'
theorem ok_treasure_in_parts {f : Addr} {fd : FuncData} {k : Nat} (F : Fun K "treasure_in_parts" "treasure_in_parts" s_treasure_in_parts f fd)
    (C_needed_landmarks : Cal P w K mg base 1 "needed_landmarks" ["shares"] (sp_needed_landmarks K)) (C_product : Cal P w K mg base 1 "product" ["pair", "other"] (sp_product K)) :
    FnOk P w K mg base CX0 (k + 2) f fd ["places", "shares"] (sp_treasure_in_parts K) := by
  refine F.ok sc_treasure_in_parts (fun vs H Q E h => ?_) (fun cdv A outer s H vs Q E hr h => ?_)
  · obtain ⟨a, b, pl, m, l, rfl, _⟩ := h
    rfl
  obtain ⟨a, b, pl, m, l, rfl, hR, hM, hml, hlen, hk, q⟩ := h
  refine ⟨_, (pss_cons (ps_set (i := 2) sc_treasure_in_parts.nd rfl (Or.inl rfl) pe_int)
      (pss_cons (ps_set (i := 3) sc_treasure_in_parts.nd rfl (Or.inl rfl) pe_int)
      (pss_cons (ps_for PassesOwn.never rfl (pi_list (pcall C_needed_landmarks (hr.mono (by omega)) rfl (pa_cons (pv 1) pa_nil))) (pg_name (i := 4) sc_treasure_in_parts.nd rfl (Or.inl rfl))
        (pss_cons (ps_set (i := 5) sc_treasure_in_parts.nd rfl (Or.inl rfl) (pcall C_product (hr.mono (by omega)) rfl (pa_cons (pe_ix ix_list (pv 1) (pv 4) (fun _ _ => rfl)) (pa_cons (pe_ix ix_list (pv 0) (pv 4) (fun _ _ => rfl)) pa_nil))))
        (pss_cons (ps_set (i := 2) sc_treasure_in_parts.nd rfl (Or.inl rfl) (pe_op op_add (pv 2) (pe_ix ix_tup (pv 5) pe_int (fun _ _ => rfl))))
        (pss_one (ps_set (i := 3) sc_treasure_in_parts.nd rfl (Or.inl rfl) (pe_op op_add (pv 3) (pe_ix ix_tup (pv 5) pe_int (fun _ _ => rfl))))))))
      (pss_one (ps_ret (pe_tup (pa_cons (pv 2) (pa_cons (pv 3) pa_nil)))))))), ?_⟩
  refine ⟨_, rfl, b, m, rfl, hM, hlen, fun H1 nA s1 n1 e1 => ⟨nA, rfl, ⟨_, SqL.of e1⟩, ?_⟩⟩
  obtain ⟨ps, hps, hpp⟩ := hR.same s1
  obtain ⟨vs, hL, hP⟩ := hM.same s1
  refine for_list (K := K) (a := nA) (xs := nInt (needL m)) (fun i σ H' => Same H1 H' ∧ ∃ z4 z5, σ = [some (.ref a), some (.ref b), some (.int (sumOver m l ((needL m).take i)).x), some (.int (sumOver m l ((needL m).take i)).y), z4, z5]) ⟨Same.refl _, none, none, rfl⟩ (fun i σ H' _ ⟨e, _⟩ => SqL.of (e _ _ e1)) ?_ ?_
  · rintro i v σ H' hv ⟨s2, z4, z5, rfl⟩
    rw [nInt, List.getElem?_map] at hv
    obtain ⟨k, hkk, rfl⟩ := Option.map_eq_some_iff.mp hv
    obtain ⟨pt, hpl, hlk, ⟨b1, b2⟩, ⟨b3, b4⟩⟩ := hk k (List.mem_of_getElem? hkk)
    obtain ⟨hkm, _⟩ := mem_needL (List.mem_of_getElem? hkk)
    have hmk : m[k]? = some m[k] := List.getElem?_eq_getElem hkm
    obtain ⟨v1, ev1, tt, rfl, htt⟩ := pairGetR hP hmk
    obtain ⟨v2, ev2, c, rfl, hc⟩ := pairGetR hpp hpl
    have esum : sumOver m l ((needL m).take (i + 1)) = Pt.add (sumOver m l ((needL m).take i)) (Pt.times m[k] pt) := by
      rw [take_succ_get hkk, sum_snoc, getD_of hmk, getD_of hlk]
    refine ⟨_, rfl, _, rfl, b, vs, _, _, rfl, rfl, s2.seq hL, atI_nat ev1, ?_⟩
    refine ⟨_, rfl, _, rfl, a, ps, _, _, rfl, rfl, s2.seq hps, atI_nat ev2, ?_⟩
    refine ⟨tt, c, m[k], pt, rfl, sameTup s2 htt, hc.same s2, ⟨by omega, by omega⟩, ⟨by omega, by omega⟩, fun H3 r s3 n3 e3 => ?_⟩
    refine ⟨_, rfl, _, rfl, r, _, 0, _, rfl, rfl, SqT.of e3, at0, _, _, rfl, rfl, ?_⟩
    refine ⟨_, rfl, _, rfl, r, _, 1, _, rfl, rfl, SqT.of e3, at1, _, _, rfl, rfl, ?_⟩
    refine ⟨s2.trans s3, some (.int k), some (.ref r), ?_⟩
    rw [esum]
    rfl
  · rintro σ H' ⟨s2, z4, z5, rfl⟩
    have e0 : (nInt (needL m)).length = (needL m).length := List.length_map _
    rw [e0, List.take_length, sum_need m l hml]
    refine ⟨_, rfl, _, rfl, (by show 2 ≤ sizeLine; decide), fun u nu => ?_⟩
    exact q _ u ((s1.trans s2).trans (same_upd nu)) ((s1.trans s2).free nu) upd_same

/-! ### treasure_place -/
abbrev s_treasure_place : Stmt := topS 64
theorem sc_treasure_place : FnScope ["places", "shares", "parts"] ["places", "shares"] (defScope s_treasure_place) := ⟨rfl, rfl, rfl, by decide +kernel, rfl, by decide +kernel, by decide +kernel⟩
def sp_treasure_place (K : PySem.W.Frag) : Sp := fun vs H Q _ => ∃ (a b : Addr) (pl : List (List Int)) (m : Mix) (l : List Pt), vs = [.ref a, .ref b] ∧ RowsW K H a pl ∧ MixAt K H b m ∧ m.length = l.length ∧ m.length ≤ 1000 ∧ Stands pl l m ∧
  ∀ H' p, Same H H' → H p = none → H' p = some (.lst ((Mu51.both (ev m l) Mu51.PARTS).map V.int)) → Q (.ref p) H'
theorem small256 (e n : Int) : 0 < gcdL [e, n, 256] ∧ gcdL [e, n, 256] < 2 ^ 8999 := by
  have h := gcdL_last [e, n] (u := 256) (by decide)
  exact ⟨h.1, Nat.lt_of_le_of_lt h.2 (Nat.pow_lt_pow_right (a := 2) (m := 8) (n := 8999) (by decide) (by decide))⟩
theorem ok_treasure_place {f : Addr} {fd : FuncData} {k : Nat} (F : Fun K "treasure_place" "treasure_place" s_treasure_place f fd) (T : Txt K mg aN aS aM)
    (C_treasure_in_parts : Cal P w K mg base 2 "treasure_in_parts" ["places", "shares"] (sp_treasure_in_parts K)) (C_in_lowest_terms : Cal P w K mg base 2 "in_lowest_terms" ["numbers"] (sp_in_lowest_terms K)) :
    FnOk P w K mg base CX0 (k + 3) f fd ["places", "shares"] (sp_treasure_place K) := by
  refine F.ok sc_treasure_place (fun vs H Q E h => ?_) (fun cdv A outer s H vs Q E hr h => ?_)
  · obtain ⟨a, b, pl, m, l, rfl, _⟩ := h
    rfl
  obtain ⟨a, b, pl, m, l, rfl, hR, hM, hml, hlen, hk, q⟩ := h
  refine ⟨_, (pss_cons (ps_set (i := 2) sc_treasure_place.nd rfl (Or.inl rfl) (pcall C_treasure_in_parts (hr.mono (by omega)) rfl (pa_cons (pv 0) (pa_cons (pv 1) pa_nil))))
      (pss_one (ps_ret (pcall C_in_lowest_terms (hr.mono (by omega)) rfl (pa_cons (pe_lst (pa_cons (pe_ix ix_tup (pv 2) pe_int (fun _ _ => rfl)) (pa_cons (pe_ix ix_tup (pv 2) pe_int (fun _ _ => rfl)) (pa_cons (pgI rfl T.gPARTS) pa_nil)))) pa_nil))))), ?_⟩
  refine ⟨_, rfl, _, rfl, a, b, pl, m, l, rfl, hR, hM, hml, hlen, hk, fun H1 r s1 n1 e1 => ?_⟩
  refine ⟨_, rfl, r, _, 0, _, rfl, rfl, SqT.of e1, at0, _, rfl, r, _, 1, _, rfl, rfl, SqT.of e1, at1, (by show 3 ≤ sizeLine; decide), fun o no => ?_⟩
  refine ⟨o, [(ev m l).x, (ev m l).y, 256], rfl, SqL.of upd_same, (by show 3 ≤ 1000; decide), (small256 _ _).1, (small256 _ _).2, fun H2 u s2 n2 e2 => ?_⟩
  have s3 := s1.trans (same_upd (o := .lst [.int (ev m l).x, .int (ev m l).y, .int 256]) no)
  rw [low_both _ _ 256 (by decide)] at e2
  exact q H2 u (s3.trans s2) (s3.free n2) e2

/-! ### treasure -/
abbrev s_treasure : Stmt := topS 67
theorem sc_treasure : FnScope ["chart", "text", "shares", "refusal"] ["chart", "text"] (defScope s_treasure) := ⟨rfl, rfl, rfl, by decide +kernel, rfl, by decide +kernel, by decide +kernel⟩
def sp_treasure (K : PySem.W.Frag) (CC : Addr) : Sp := fun vs H Q _ => ∃ (x t : Addr) (S : List Addr) (s : State) (i : Nat), vs = [.ref x, .int i] ∧ SAt K CC H x t S s ∧ Told H Q (Mu51.step (some s) (.treasure i)).2
theorem ok_treasure {f : Addr} {fd : FuncData} {k : Nat} (F : Fun K "treasure" "treasure" s_treasure f fd) (T : Txt K mg aN aS aM) (TC : TxC K CC chF)
    (C_has_text : Cal P w K mg base 1 "has_text" ["chart", "text"] (sp_has_text K CC)) (C_treasure_shares : Cal P w K mg base 5 "treasure_shares" ["chart", "text"] (sp_treasure_shares K CC))
    (C_refusal_if_gone : Cal P w K mg base 2 "refusal_if_gone" ["places", "shares"] (sp_refusal_if_gone K)) (C_treasure_place : Cal P w K mg base 3 "treasure_place" ["places", "shares"] (sp_treasure_place K)) :
    FnOk P w K mg base CX0 (k + 6) f fd ["chart", "text"] (sp_treasure K CC) := by
  refine F.ok sc_treasure (fun vs H Q E h => ?_) (fun cdv A outer s H vs Q E hr h => ?_)
  · obtain ⟨x, t, S, s, i, rfl, _⟩ := h
    rfl
  obtain ⟨x, t, S, s, i, rfl, ⟨C, G⟩, q⟩ := h
  refine ⟨_, (pss_cons (ps_if (pt_not (pt_val (pcall C_has_text (hr.mono (by omega)) rfl (pa_cons (pv 0) (pa_cons (pv 1) pa_nil))))) (pss_one (ps_ret (pe_lst (pa_cons (pgI rfl T.gNO_TEXT) pa_nil))))
        pss_nil)
      (pss_cons (ps_set (i := 2) sc_treasure.nd rfl (Or.inl rfl) (pcall C_treasure_shares (hr.mono (by omega)) rfl (pa_cons (pv 0) (pa_cons (pv 1) pa_nil))))
      (pss_cons (ps_set (i := 3) sc_treasure.nd rfl (Or.inl rfl) (pcall C_refusal_if_gone (hr.mono (by omega)) rfl (pa_cons (pe_fld (pv 0) rfl) (pa_cons (pv 2) pa_nil))))
      (pss_cons (ps_if (pt_cmpR op_gt (pe_callB (call_lenK (K := K) rfl) (by rfl) T.len PySem.boot_len (pa_cons (pv 3) pa_nil)) pe_int (nomark _)) (pss_one (ps_ret (pv 3)))
        pss_nil)
      (pss_one (ps_ret (pe_op op_cat (pe_lst (pa_cons pe_int pa_nil)) (pcall C_treasure_place (hr.mono (by omega)) rfl (pa_cons (pe_fld (pv 0) rfl) (pa_cons (pv 2) pa_nil)))))))))), ?_⟩
  obtain ⟨np, nt⟩ := TC.ch
  refine ⟨_, rfl, _, rfl, x, t, S, _, _, i, rfl, C, _, rfl, ?_⟩
  rw [txOf_len]
  refine tNot' (fun c => ?_) (fun c => ?_)
  · have hi : s.texts[i]? = none := List.getElem?_eq_none (by have := of_decide_eq_false c; omega)
    have e : (Mu51.step (some s) (.treasure i)).2 = [-2] := by simp only [Mu51.step, hi]
    rw [e] at q
    exact ⟨(by show 1 ≤ sizeLine; decide), fun p n => q.lst n⟩
  · obtain ⟨txt, hi⟩ : ∃ txt, s.texts[i]? = some txt := ⟨_, List.getElem?_eq_getElem (of_decide_eq_true c)⟩
    have GT := G.tx _ (List.mem_of_getElem? hi)
    have pl4 := plOf_len s
    have m4 := G.m4
    have ml := mix_len (n := s.marks.length) GT.hv GT.on
    refine ⟨_, rfl, _, rfl, x, t, S, plOf s, txOf s, i, txt, rfl, C, txOf_get hi, by rw [pl4]; exact GT, by omega, fun H1 a s1 hM => ?_⟩
    rw [pl4] at hM
    obtain ⟨dx, p, us, D⟩ := C.same s1
    have hW : RowsW K H1 p (plOf s) := (D.pl.same (hide_same _ _)).wide
    refine ⟨_, rfl, x, CC, dx, _, _, rfl, D.e1, TC.cl, np, F2_places p t, _, rfl, p, a, plOf s, _, rfl, hW, hM, by omega, by omega, fun H2 r s2 n2 e2 => ?_⟩
    have D2 := D.same s2
    refine ⟨_, rfl, r, _, rfl, .inl (SqL.of e2), _, _, rfl, rfl, _, rfl, ?_⟩
    have lk := goneL_all GT
    cases hf : (goneL (plOf s) (Mu51.mix s.marks.length txt)).head? with
    | some k =>
      rw [hf] at e2 lk
      refine tDec (fun _ => ?_) (fun c => absurd c (by show ¬ ¬ ((0 : Int) < (2 : Int)); decide))
      have e : (Mu51.step (some s) (.treasure i)).2 = [-6, (k : Int)] := by
        simp only [Mu51.step, hi, lk]
      rw [e] at q
      exact ⟨_, rfl, q H2 r (s1.trans s2) (s1.free n2) e2⟩
    | none =>
      rw [hf] at e2 lk
      refine tDec (fun c => absurd c (by show ¬ ((0 : Int) < (0 : Int)); decide)) (fun _ => ?_)
      have e : (Mu51.step (some s) (.treasure i)).2 = 0 :: Mu51.both (ev (Mu51.mix s.marks.length txt) (Mu51.places s)) Mu51.PARTS := by
        simp only [Mu51.step, hi, lk, ev_places GT]
      rw [e] at q
      refine ⟨(by show 1 ≤ sizeLine; decide), fun o no => ?_⟩
      have s4 : Same H1 (upd H2 o (.lst [.int 0])) := s2.trans (same_upd no)
      have D4 := D.same s4
      refine ⟨_, rfl, x, CC, dx, _, _, rfl, D4.e1, TC.cl, np, F2_places p t, _, rfl, p, a, plOf s, _, Mu51.places s, rfl, hW.same s4, hM.same s4, by rw [ml, places_len], by omega, stands_all G GT lk, fun H5 u s5 n5 e5 => ?_⟩
      have bl := both_len (ev (Mu51.mix s.marks.length txt) (Mu51.places s)) Mu51.PARTS
      refine ⟨o, u, _, _, rfl, rfl, s5 _ _ upd_same, e5, ?_, fun p n => ?_⟩
      · have := small_of (n := 1 + (Mu51.both (ev (Mu51.mix s.marks.length txt) (Mu51.places s)) Mu51.PARTS).length) (by omega)
        rw [List.length_map]
        exact Nat.le_of_lt this
      · exact (q.same ((s1.trans s4).trans s5)).lst n
end
end Gk
namespace Gk
open PySem PySem.Spec PyProof.Rows L2
open Mu51 (Pt Mix State Text)
theorem needL_len (m : Mix) : (needL m).length ≤ m.length := by
  have h1 := List.length_filter_le (fun (k : Nat) => m.getD k ⟨0, 0⟩ != ⟨0, 0⟩) (List.range m.length)
  rw [List.length_range] at h1
  exact h1

section
variable {P : Program} {w : World} {K : PySem.W.Frag} {mg : Str → Option Value} {base : Heap} {aN aS aM CF CC : Addr}

/-! ### needs -/
abbrev s_needs : Stmt := topS 68
theorem sc_needs : FnScope ["chart", "text", "needed"] ["chart", "text"] (defScope s_needs) := ⟨rfl, rfl, rfl, by decide +kernel, rfl, by decide +kernel, by decide +kernel⟩
def sp_needs (K : PySem.W.Frag) (CC : Addr) : Sp := fun vs H Q _ => ∃ (x t : Addr) (S : List Addr) (s : State) (i : Nat), vs = [.ref x, .int i] ∧ SAt K CC H x t S s ∧ Told H Q (Mu51.step (some s) (.needs i)).2
theorem ok_needs {f : Addr} {fd : FuncData} {k : Nat} (F : Fun K "needs" "needs" s_needs f fd) (T : Txt K mg aN aS aM)
    (C_has_text : Cal P w K mg base 1 "has_text" ["chart", "text"] (sp_has_text K CC)) (C_treasure_shares : Cal P w K mg base 5 "treasure_shares" ["chart", "text"] (sp_treasure_shares K CC))
    (C_needed_landmarks : Cal P w K mg base 1 "needed_landmarks" ["shares"] (sp_needed_landmarks K)) :
    FnOk P w K mg base CX0 (k + 6) f fd ["chart", "text"] (sp_needs K CC) := by
  refine F.ok sc_needs (fun vs H Q E h => ?_) (fun cdv A outer s H vs Q E hr h => ?_)
  · obtain ⟨x, t, S, s, i, rfl, _⟩ := h
    rfl
  obtain ⟨x, t, S, s, i, rfl, ⟨C, G⟩, q⟩ := h
  refine ⟨_, (pss_cons (ps_if (pt_not (pt_val (pcall C_has_text (hr.mono (by omega)) rfl (pa_cons (pv 0) (pa_cons (pv 1) pa_nil))))) (pss_one (ps_ret (pe_lst (pa_cons (pgI rfl T.gNO_TEXT) pa_nil))))
        pss_nil)
      (pss_cons (ps_set (i := 2) sc_needs.nd rfl (Or.inl rfl) (pcall C_needed_landmarks (hr.mono (by omega)) rfl (pa_cons (pcall C_treasure_shares (hr.mono (by omega)) rfl (pa_cons (pv 0) (pa_cons (pv 1) pa_nil))) pa_nil)))
      (pss_one (ps_ret (pe_op op_cat (pe_lst (pa_cons (pe_callB (call_lenK (K := K) rfl) (by rfl) T.len PySem.boot_len (pa_cons (pv 2) pa_nil)) pa_nil)) (pv 2)))))), ?_⟩
  refine ⟨_, rfl, _, rfl, x, t, S, _, _, i, rfl, C, _, rfl, ?_⟩
  rw [txOf_len]
  refine tNot' (fun c => ?_) (fun c => ?_)
  · have hi : s.texts[i]? = none := List.getElem?_eq_none (by have := of_decide_eq_false c; omega)
    have e : (Mu51.step (some s) (.needs i)).2 = [-2] := by simp only [Mu51.step, hi]
    rw [e] at q
    exact ⟨(by show 1 ≤ sizeLine; decide), fun p n => q.lst n⟩
  · obtain ⟨txt, hi⟩ : ∃ txt, s.texts[i]? = some txt := ⟨_, List.getElem?_eq_getElem (of_decide_eq_true c)⟩
    have GT := G.tx _ (List.mem_of_getElem? hi)
    have pl4 := plOf_len s
    have m4 := G.m4
    refine ⟨_, rfl, _, rfl, x, t, S, plOf s, txOf s, i, txt, rfl, C, txOf_get hi, by rw [pl4]; exact GT, by omega, fun H1 a s1 hM => ?_⟩
    rw [pl4] at hM
    have ml := mix_len (n := s.marks.length) GT.hv GT.on
    have nl := needL_len (Mu51.mix s.marks.length txt)
    refine ⟨a, _, rfl, hM, by omega, fun H2 b s2 n2 e2 => ?_⟩
    refine ⟨_, rfl, b, _, rfl, .inl (SqL.of e2), (by show 1 ≤ sizeLine; decide), fun o no => ?_⟩
    have s3 : Same H2 (upd H2 o (.lst [.int ((nInt (needL (Mu51.mix s.marks.length txt))).length : Nat)])) := same_upd no
    have ln : (nInt (needL (Mu51.mix s.marks.length txt))).length = (needL (Mu51.mix s.marks.length txt)).length := List.length_map _
    refine ⟨_, rfl, o, b, _, _, rfl, rfl, upd_same, s3 _ _ e2, ?_, fun p n => ?_⟩
    · have := small_of (n := 1 + (nInt (needL (Mu51.mix s.marks.length txt))).length) (by omega)
      exact Nat.le_of_lt this
    · have e : (Mu51.step (some s) (.needs i)).2 = Mu51.nums ((needL (Mu51.mix s.marks.length txt)).length :: needL (Mu51.mix s.marks.length txt)) := by
        simp only [Mu51.step, hi, Mu51.many, needs_eq ml]
      rw [e] at q
      have q2 := (q.same ((s1.trans s2).trans s3)).lst n
      have el : (Mu51.nums ((needL (Mu51.mix s.marks.length txt)).length :: needL (Mu51.mix s.marks.length txt))).map V.int = [V.int ((nInt (needL (Mu51.mix s.marks.length txt))).length : Nat)] ++ nInt (needL (Mu51.mix s.marks.length txt)) := by
        rw [ln]
        simp [Mu51.nums, nInt]
      rw [el] at q2
      exact q2

/-! ### tells -/
abbrev s_tells : Stmt := topS 69
theorem sc_tells : FnScope ["chart", "text", "landmark", "share"] ["chart", "text", "landmark"] (defScope s_tells) := ⟨rfl, rfl, rfl, by decide +kernel, rfl, by decide +kernel, by decide +kernel⟩
def sp_tells (K : PySem.W.Frag) (CC : Addr) : Sp := fun vs H Q _ => ∃ (x t : Addr) (S : List Addr) (s : State) (i j : Nat), vs = [.ref x, .int i, .int j] ∧ SAt K CC H x t S s ∧ Told H Q (Mu51.step (some s) (.mix i j)).2
theorem ok_tells {f : Addr} {fd : FuncData} {k : Nat} (F : Fun K "tells" "tells" s_tells f fd) (T : Txt K mg aN aS aM)
    (C_has_text : Cal P w K mg base 1 "has_text" ["chart", "text"] (sp_has_text K CC)) (C_treasure_shares : Cal P w K mg base 5 "treasure_shares" ["chart", "text"] (sp_treasure_shares K CC))
    (C_has_landmark : Cal P w K mg base 1 "has_landmark" ["chart", "landmark"] (sp_has_landmark K CC)) (C_in_lowest_terms : Cal P w K mg base 2 "in_lowest_terms" ["numbers"] (sp_in_lowest_terms K)) :
    FnOk P w K mg base CX0 (k + 6) f fd ["chart", "text", "landmark"] (sp_tells K CC) := by
  refine F.ok sc_tells (fun vs H Q E h => ?_) (fun cdv A outer s H vs Q E hr h => ?_)
  · obtain ⟨x, t, S, s, i, j, rfl, _⟩ := h
    rfl
  obtain ⟨x, t, S, s, i, j, rfl, ⟨C, G⟩, q⟩ := h
  refine ⟨_, (pss_cons (ps_if (pt_not (pt_val (pcall C_has_text (hr.mono (by omega)) rfl (pa_cons (pv 0) (pa_cons (pv 1) pa_nil))))) (pss_one (ps_ret (pe_lst (pa_cons (pgI rfl T.gNO_TEXT) pa_nil))))
        pss_nil)
      (pss_cons (ps_if (pt_not (pt_val (pcall C_has_landmark (hr.mono (by omega)) rfl (pa_cons (pv 0) (pa_cons (pv 2) pa_nil))))) (pss_one (ps_ret (pe_lst (pa_cons (pgI rfl T.gWRONG) pa_nil))))
        pss_nil)
      (pss_cons (ps_set (i := 3) sc_tells.nd rfl (Or.inl rfl) (pe_ix ix_list (pcall C_treasure_shares (hr.mono (by omega)) rfl (pa_cons (pv 0) (pa_cons (pv 1) pa_nil))) (pv 2) (fun _ _ => rfl)))
      (pss_one (ps_ret (pe_op op_cat (pe_lst (pa_cons pe_int pa_nil)) (pcall C_in_lowest_terms (hr.mono (by omega)) rfl (pa_cons (pe_lst (pa_cons (pe_ix ix_tup (pv 3) pe_int (fun _ _ => rfl)) (pa_cons (pe_ix ix_tup (pv 3) pe_int (fun _ _ => rfl)) (pa_cons (pgI rfl T.gPARTS) pa_nil)))) pa_nil)))))))), ?_⟩
  refine ⟨_, rfl, _, rfl, x, t, S, _, _, i, rfl, C, _, rfl, ?_⟩
  rw [txOf_len]
  refine tNot' (fun c => ?_) (fun c => ?_)
  · have hi : s.texts[i]? = none := List.getElem?_eq_none (by have := of_decide_eq_false c; omega)
    have e : (Mu51.step (some s) (.mix i j)).2 = [-2] := by simp only [Mu51.step, hi]
    rw [e] at q
    exact ⟨(by show 1 ≤ sizeLine; decide), fun p n => q.lst n⟩
  · obtain ⟨txt, hi⟩ : ∃ txt, s.texts[i]? = some txt := ⟨_, List.getElem?_eq_getElem (of_decide_eq_true c)⟩
    have GT := G.tx _ (List.mem_of_getElem? hi)
    have pl4 := plOf_len s
    have m4 := G.m4
    refine ⟨_, rfl, _, rfl, x, t, S, _, _, j, rfl, C, _, rfl, ?_⟩
    rw [pl4]
    refine tNot' (fun d => ?_) (fun d => ?_)
    · have d' : s.marks.length ≤ j := by
        have := of_decide_eq_false d
        omega
      have e : (Mu51.step (some s) (.mix i j)).2 = [-1] := by
        have : Mu51.many s ≤ j := d'
        simp only [Mu51.step, hi, if_pos this]
      rw [e] at q
      exact ⟨(by show 1 ≤ sizeLine; decide), fun p n => q.lst n⟩
    · have d' : j < s.marks.length := of_decide_eq_true d
      have ml := mix_len (n := s.marks.length) GT.hv GT.on
      refine ⟨_, rfl, _, rfl, x, t, S, plOf s, txOf s, i, txt, rfl, C, txOf_get hi, by rw [pl4]; exact GT, by omega, fun H1 a s1 hM => ?_⟩
      rw [pl4] at hM
      obtain ⟨vs, hL, hP⟩ := hM
      have hmj : (Mu51.mix s.marks.length txt)[j]? = some ((Mu51.mix s.marks.length txt).getD j ⟨0, 0⟩) := by
        rw [List.getElem?_eq_getElem (by omega), List.getD_eq_getElem?_getD, List.getElem?_eq_getElem (by omega)]
        rfl
      obtain ⟨v, ev, tt, rfl, htt⟩ := pairGetR hP hmj
      refine ⟨_, rfl, a, vs, _, _, rfl, rfl, hL, atI_nat ev, ?_⟩
      refine ⟨(by show 1 ≤ sizeLine; decide), fun o no => ?_⟩
      have s2 : Same H1 (upd H1 o (.lst [.int 0])) := same_upd no
      have htt2 := sameTup s2 htt
      have e : (Mu51.step (some s) (.mix i j)).2 = 0 :: Mu51.both ((Mu51.mix s.marks.length txt).getD j ⟨0, 0⟩) Mu51.PARTS := by
        have : ¬ Mu51.many s ≤ j := by
          show ¬ s.marks.length ≤ j
          omega
        simp only [Mu51.step, hi, if_neg this]
        rfl
      rw [e] at q
      generalize (Mu51.mix s.marks.length txt).getD j ⟨0, 0⟩ = pt at htt2 q
      refine ⟨_, rfl, tt, _, 0, _, rfl, rfl, htt2, at0, _, rfl, tt, _, 1, _, rfl, rfl, htt2, at1, (by show 3 ≤ sizeLine; decide), fun o2 no2 => ?_⟩
      have s3 := same_upd (o := .lst [.int pt.x, .int pt.y, .int 256]) no2
      refine ⟨o2, [pt.x, pt.y, 256], rfl, SqL.of upd_same, (by show 3 ≤ 1000; decide), (small256 _ _).1, (small256 _ _).2, fun H3 r s4 n4 e4 => ?_⟩
      rw [low_both _ _ 256 (by decide)] at e4
      have bl := both_len pt Mu51.PARTS
      refine ⟨o, r, _, _, rfl, rfl, s4 _ _ (s3 _ _ upd_same), e4, ?_, fun p n => ?_⟩
      · have := small_of (n := 1 + (Mu51.both pt Mu51.PARTS).length) (by omega)
        rw [List.length_map]
        exact Nat.le_of_lt this
      · exact (q.same (((s1.trans s2).trans s3).trans s4)).lst n

/-! ### same -/
abbrev s_same : Stmt := topS 70
theorem sc_same : FnScope ["chart", "text", "other"] ["chart", "text", "other"] (defScope s_same) := ⟨rfl, rfl, rfl, by decide +kernel, rfl, by decide +kernel, by decide +kernel⟩
def dMix (m : Mix) : PyData := .list (m.map fun p => .tuple [.int p.x, .int p.y])
theorem dp_all {H : Hp} : ∀ {vs : List V} {m : Mix}, Paired (PtV K H) vs m → DpAll K H vs (m.map fun p => .tuple [.int p.x, .int p.y])
  | _, _, .nil => .nil
  | _, _, .cons ⟨a, e, h⟩ t => by
    subst e
    exact .cons (dp_pt h) (dp_all t)
theorem dp_mix {H : Hp} {a : Addr} {m : Mix} (h : MixAt K H a m) : Dp K H (.ref a) (dMix m) := by
  obtain ⟨vs, q, p⟩ := h
  exact .lst q (dp_all p)
theorem eqv_all : ∀ (m n : Mix), PyData.eqvAll (m.map fun p => .tuple [.int p.x, .int p.y]) (n.map fun p => .tuple [.int p.x, .int p.y]) = (m == n)
  | [], [] => rfl
  | [], _ :: _ => rfl
  | _ :: _, [] => rfl
  | a :: m, b :: n => by
    rw [List.map_cons, List.map_cons, PyData.eqvAll, eqv_all m n, eqv_pt]
    show _ = (a == b && (m == n))
    congr 1
theorem eqv_mix (m n : Mix) : PyData.eqv (dMix m) (dMix n) = (m == n) := by
  show PyData.eqvAll _ _ = _
  exact eqv_all m n
theorem canLay_mix : ∀ (m : Mix), PyData.canLayAll0 (m.map fun p => .tuple [.int p.x, .int p.y]) = true
  | [] => rfl
  | a :: m => by
    rw [List.map_cons]
    show (PyData.canLay0 (.tuple [.int a.x, .int a.y]) && PyData.canLayAll0 _) = true
    rw [canLay_mix m]
    rfl
theorem depth_mix : ∀ (m : Mix), PyData.depthAll (m.map fun p => .tuple [.int p.x, .int p.y]) ≤ 1
  | [] => by
    show PyData.depthAll [] ≤ 1
    rw [PyData.depthAll]
    omega
  | a :: m => by
    rw [List.map_cons, PyData.depthAll]
    have := depth_mix m
    have h2 : PyData.depth (.tuple [.int a.x, .int a.y]) = 1 := by
      simp [PyData.depth, PyData.depthAll]
    omega
theorem shaped_mix (m : Mix) : SeqAt.shaped (dMix m) = true := by
  unfold SeqAt.shaped dMix
  have h1 : PyData.canLay0 (.list (m.map fun p => .tuple [.int p.x, .int p.y])) = true := canLay_mix m
  have h2 : PyData.depth (.list (m.map fun p => .tuple [.int p.x, .int p.y])) ≤ 64 := by
    rw [PyData.depth]
    have := depth_mix m
    omega
  rw [h1, decide_eq_true h2]
  rfl
def sp_same (K : PySem.W.Frag) (CC : Addr) : Sp := fun vs H Q _ => ∃ (x t : Addr) (S : List Addr) (s : State) (i j : Nat), vs = [.ref x, .int i, .int j] ∧ SAt K CC H x t S s ∧ Told H Q (Mu51.step (some s) (.same i j)).2
theorem ok_same {f : Addr} {fd : FuncData} {k : Nat} (F : Fun K "same" "same" s_same f fd) (T : Txt K mg aN aS aM)
    (C_has_text : Cal P w K mg base 1 "has_text" ["chart", "text"] (sp_has_text K CC)) (C_treasure_shares : Cal P w K mg base 5 "treasure_shares" ["chart", "text"] (sp_treasure_shares K CC)) :
    FnOk P w K mg base CX0 (k + 6) f fd ["chart", "text", "other"] (sp_same K CC) := by
  refine F.ok sc_same (fun vs H Q E h => ?_) (fun cdv A outer s H vs Q E hr h => ?_)
  · obtain ⟨x, t, S, s, i, j, rfl, _⟩ := h
    rfl
  obtain ⟨x, t, S, s, i, j, rfl, ⟨C, G⟩, q⟩ := h
  refine ⟨_, (pss_cons (ps_if (PW.pt (pw_or (pt_not (pt_val (pcall C_has_text (hr.mono (by omega)) rfl (pa_cons (pv 0) (pa_cons (pv 1) pa_nil))))) (pw_or1 (pt_not (pt_val (pcall C_has_text (hr.mono (by omega)) rfl (pa_cons (pv 0) (pa_cons (pv 2) pa_nil)))))))) (pss_one (ps_ret (pe_lst (pa_cons (pgI rfl T.gNO_TEXT) pa_nil))))
        pss_nil)
      (pss_one (ps_ret (pe_lst (pa_cons (pe_ifExp (pt_cmpR (op_eqDK (K := K) rfl hr.units) (pcall C_treasure_shares (hr.mono (by omega)) rfl (pa_cons (pv 0) (pa_cons (pv 1) pa_nil))) (pcall C_treasure_shares (hr.mono (by omega)) rfl (pa_cons (pv 0) (pa_cons (pv 2) pa_nil))) (nomark _)) pe_int pe_int) pa_nil))))), ?_⟩
  have no : ∀ {p : Addr}, s.texts[i]? = none ∨ s.texts[j]? = none → H p = none → Q (.ref p) (upd H p (.lst [.int (-2)])) := fun {p} hn n => by
    have e : (Mu51.step (some s) (.same i j)).2 = [-2] := by
      cases hi : s.texts[i]? with
      | none => simp only [Mu51.step, hi]
      | some a =>
        cases hj : s.texts[j]? with
        | none => simp only [Mu51.step, hi, hj]
        | some b =>
          rw [hi, hj] at hn
          rcases hn with h | h <;> cases h
    rw [e] at q
    exact q.lst n
  refine ⟨_, rfl, _, rfl, x, t, S, _, _, i, rfl, C, _, rfl, ?_⟩
  rw [txOf_len]
  refine tNot' (fun c => ?_) (fun c => ?_)
  · have hi : s.texts[i]? = none := List.getElem?_eq_none (by have := of_decide_eq_false c; omega)
    exact iteT ⟨(by show 1 ≤ sizeLine; decide), fun p n => no (.inl hi) n⟩
  refine ⟨_, rfl, _, rfl, x, t, S, _, _, j, rfl, C, _, rfl, ?_⟩
  rw [txOf_len]
  refine tNot' (fun d => ?_) (fun d => ?_)
  · have hj : s.texts[j]? = none := List.getElem?_eq_none (by have := of_decide_eq_false d; omega)
    exact ⟨(by show 1 ≤ sizeLine; decide), fun p n => no (.inr hj) n⟩
  obtain ⟨txt, hi⟩ : ∃ txt, s.texts[i]? = some txt := ⟨_, List.getElem?_eq_getElem (of_decide_eq_true c)⟩
  obtain ⟨txt2, hj⟩ : ∃ txt, s.texts[j]? = some txt := ⟨_, List.getElem?_eq_getElem (of_decide_eq_true d)⟩
  have GT := G.tx _ (List.mem_of_getElem? hi)
  have GT2 := G.tx _ (List.mem_of_getElem? hj)
  have pl4 := plOf_len s
  have m4 := G.m4
  refine ⟨_, rfl, _, rfl, x, t, S, plOf s, txOf s, i, txt, rfl, C, txOf_get hi, by rw [pl4]; exact GT, by omega, fun H1 a s1 hM => ?_⟩
  refine ⟨_, rfl, _, rfl, x, t, S, plOf s, txOf s, j, txt2, rfl, C.same s1, txOf_get hj, by rw [pl4]; exact GT2, by omega, fun H2 b s2 hM2 => ?_⟩
  rw [pl4] at hM hM2
  refine ⟨dMix _, dMix _, dp_mix (hM.same s2), dp_mix hM2, shaped_mix _, shaped_mix _, _, rfl, ?_⟩
  rw [eqv_mix]
  have e : (Mu51.step (some s) (.same i j)).2 = if (Mu51.mix s.marks.length txt == Mu51.mix s.marks.length txt2) = true then [1] else [0] := by
    simp only [Mu51.step, hi, hj]
    rfl
  rw [e] at q
  have q2 := q.same (s1.trans s2)
  refine tBool (fun z => ?_) (fun z => ?_)
  · rw [z, if_pos rfl] at q2
    exact ⟨(by show 1 ≤ sizeLine; decide), fun p n => q2.lst n⟩
  · rw [z, if_neg Bool.false_ne_true] at q2
    exact ⟨(by show 1 ≤ sizeLine; decide), fun p n => q2.lst n⟩
end
end Gk
namespace Gk
open PySem PySem.Spec PyProof.Rows L2
open Mu51 (Pt Mix State Text)

/-! ### landmarks as they are handed in -/
theorem markOf2 (a b : Int) : Mu51.markOf [a, b] = if (Mu51.near a && Mu51.near b) = true then some (some ⟨a, b⟩) else none := rfl
theorem place2 (a b : Int) : placeOk [a, b] = (Mu51.near a && Mu51.near b) := by
  show (true && ((decide (-1000 ≤ a) && decide (a ≤ 1000)) && ((decide (-1000 ≤ b) && decide (b ≤ 1000)) && true))) = (Mu51.near a && Mu51.near b)
  rw [Bool.true_and, Bool.and_true]
  rfl
theorem markOf_none {l : List Int} : Mu51.markOf l = none ↔ (l.length ≠ 0 ∧ placeOk l = false) := by
  match l with
  | [] => simp [Mu51.markOf]
  | [a] => simp [Mu51.markOf, placeOk]
  | [a, b] =>
    rw [place2, markOf2]
    cases h : (Mu51.near a && Mu51.near b) with
    | true => simp
    | false => simp
  | a :: b :: c :: r => simp [Mu51.markOf, placeOk]
theorem markOf_some {l : List Int} {o : Option Pt} (h : Mu51.markOf l = some o) : l = encM o ∧ ∀ p, o = some p → (-1000 ≤ p.x ∧ p.x ≤ 1000) ∧ (-1000 ≤ p.y ∧ p.y ≤ 1000) := by
  match l, h with
  | [], h =>
    have e : none = o := Option.some.inj h
    subst e
    exact ⟨rfl, fun p z => by cases z⟩
  | [a, b], h =>
    rw [markOf2] at h
    by_cases c : (Mu51.near a && Mu51.near b) = true
    · rw [if_pos c] at h
      have e : some (⟨a, b⟩ : Pt) = o := Option.some.inj h
      subst e
      refine ⟨rfl, fun p z => ?_⟩
      have e2 := Option.some.inj z
      subst e2
      simp only [Mu51.near, Mu51.FAR, Bool.and_eq_true] at c
      exact ⟨⟨of_decide_eq_true c.1.1, of_decide_eq_true c.1.2⟩, ⟨of_decide_eq_true c.2.1, of_decide_eq_true c.2.2⟩⟩
    · rw [if_neg c] at h
      cases h
  | [a], h => simp [Mu51.markOf] at h
  | a :: b :: c :: r, h => simp [Mu51.markOf] at h
theorem marks_none : ∀ {ls : List (List Int)} {l : List Int}, l ∈ ls → Mu51.markOf l = none → ls.mapM Mu51.markOf = none
  | a :: r, l, h, e => by
    rw [mapM_cons_eq]
    rcases List.mem_cons.mp h with rfl | h
    · rw [e]
    · rw [marks_none h e]
      cases Mu51.markOf a <;> rfl
  | [], _, h, _ => by cases h
theorem marks_some : ∀ {ls : List (List Int)}, (∀ l ∈ ls, Mu51.markOf l ≠ none) → ∃ m, ls.mapM Mu51.markOf = some m ∧ ls = m.map encM ∧ ∀ p, some p ∈ m → (-1000 ≤ p.x ∧ p.x ≤ 1000) ∧ (-1000 ≤ p.y ∧ p.y ≤ 1000)
  | [], _ => ⟨[], rfl, rfl, fun p h => by cases h⟩
  | a :: r, h => by
    obtain ⟨m, e1, e2, e3⟩ := marks_some (ls := r) fun l hl => h l (List.mem_cons_of_mem _ hl)
    cases q : Mu51.markOf a with
    | none => exact absurd q (h a List.mem_cons_self)
    | some o =>
      obtain ⟨f1, f2⟩ := markOf_some q
      refine ⟨o :: m, ?_, ?_, fun p hp => ?_⟩
      · rw [mapM_cons_eq, q, e1]
      · rw [List.map_cons, ← e2, ← f1]
      · rcases List.mem_cons.mp hp with hp | hp
        · exact f2 p hp.symm
        · exact e3 p hp

/-! ### the map, or none -/
def OAt (K : PySem.W.Frag) (CC : Addr) (H : Hp) (x t : Addr) (S : List Addr) : Option State → Prop
  | none => ChartAt K CC H x t S [] []
  | some s => SAt K CC H x t S s
theorem OAt.same {K : PySem.W.Frag} {CC : Addr} {H H' : Hp} {x t : Addr} {S : List Addr} {o : Option State} (e : Same H H') (c : OAt K CC H x t S o) : OAt K CC H' x t S o := by
  cases o with
  | none => exact ChartAt.same e c
  | some s => exact SAt.same e c
def oPl : Option State → List (List Int)
  | none => []
  | some s => plOf s
def oTx : Option State → List (List (List Int))
  | none => []
  | some s => txOf s
theorem OAt.chart {K : PySem.W.Frag} {CC : Addr} {H : Hp} {x t : Addr} {S : List Addr} {o : Option State} (c : OAt K CC H x t S o) : ChartAt K CC H x t S (oPl o) (oTx o) := by
  cases o with
  | none => exact c
  | some s => exact c.1
/-- what a call that may change the map promises -/
def ToldS (K : PySem.W.Frag) (CC : Addr) (x t : Addr) (S : List Addr) (H : Hp) (Q : VK) (r : Option State × List Int) : Prop :=
  ∀ H' p t', Mut [x, t] H H' → (t' = t ∨ H t' = none) → OAt K CC H' x t' S r.1 → H p = none → H' p = some (.lst (r.2.map V.int)) → Q (.ref p) H'
/-- .. where it stays as it is -/
theorem ToldS.told {K : PySem.W.Frag} {CC x t : Addr} {S : List Addr} {H : Hp} {Q : VK} {o : Option State} {a : List Int} (h : ToldS K CC x t S H Q (o, a)) (c : OAt K CC H x t S o) : Told H Q a :=
  fun H' p s n e => h H' p t (Mut.of_same s) (.inl rfl) (c.same s) n e

section
variable {P : Program} {w : World} {K : PySem.W.Frag} {mg : Str → Option Value} {base : Heap} {aN aS aM CF CC : Addr}

/-! ### Chart.__init__ -/
abbrev s_Chart___init__ : Stmt := inClass (topS 52) 0
theorem sc_Chart___init__ : FnScope ["self"] ["self"] (defScope s_Chart___init__) := ⟨rfl, rfl, rfl, by decide +kernel, rfl, by decide +kernel, by decide +kernel⟩
def sp_Chart (K : PySem.W.Frag) (CC : Addr) : Sp := fun vs H Q _ => ∃ (x dx : Addr), vs = [.ref x] ∧ H x = some (.ins CC dx []) ∧
  ∀ H' p t, H' x = some (.ins CC dx (F2 p t)) → H' p = some (.lst []) → H' t = some (.lst []) → p ≠ x → p ≠ t → H p = none → H t = none → Mut [x] H H' → Q .non H'
theorem ok_Chart {f : Addr} {fd : FuncData} {k : Nat} (F : Fun K "__init__" "Chart.__init__" s_Chart___init__ f fd) (TC : TxC K CC chF) :
    FnOk P w K mg base CX0 (k + 1) f fd ["self"] (sp_Chart K CC) := by
  refine F.ok sc_Chart___init__ (fun vs H Q E h => ?_) (fun cdv A outer s H vs Q E hr h => ?_)
  · obtain ⟨x, dx, rfl, _⟩ := h
    rfl
  obtain ⟨x, dx, rfl, hx, k⟩ := h
  refine ⟨_, (pss_cons (ps_fld (pv 0) (pe_lst pa_nil) rfl)
      (pss_one (ps_fld (pv 0) (pe_lst pa_nil) rfl))), ?_⟩
  obtain ⟨np, nt⟩ := TC.ch
  refine ⟨Nat.zero_le _, fun p hp => ?_⟩
  have px : p ≠ x := (ne_of_none hx hp).symm
  refine ⟨_, rfl, x, CC, dx, [], rfl, (upd_ne px.symm).trans hx, TC.cl, np, (by show 0 < 1000; decide), ?_⟩
  refine ⟨Nat.zero_le _, fun t ht => ?_⟩
  have tx : t ≠ x := fun z => by rw [z, upd_same] at ht; cases ht
  have tp : t ≠ p := fun z => by rw [z, upd_ne px, upd_same] at ht; cases ht
  refine ⟨_, rfl, x, CC, dx, _, rfl, (upd_ne tx.symm).trans upd_same, TC.cl, nt, (by show 1 < 1000; decide), ?_⟩
  rw [F2_new]
  have hnt : H t = none := by
    rw [upd_ne tx, upd_ne tp] at ht
    exact ht
  refine k _ p t upd_same ?_ ?_ px tp.symm hp hnt (fun b o e nb => ?_)
  · rw [upd_ne px, upd_ne tp.symm, upd_ne px, upd_same]
  · rw [upd_ne tx, upd_same]
  · have hb : b ≠ x := fun z => nb (by rw [z]; exact List.mem_cons_self)
    rw [upd_ne hb, upd_ne (ne_of_none e hnt), upd_ne hb, upd_ne (ne_of_none e hp)]
    exact e

/-! ### begin -/
abbrev s_begin : Stmt := topS 65
theorem sc_begin : FnScope ["chart", "landmarks", "landmark"] ["chart", "landmarks"] (defScope s_begin) := ⟨rfl, rfl, rfl, by decide +kernel, rfl, by decide +kernel, by decide +kernel⟩
def sp_begin (K : PySem.W.Frag) (CC : Addr) : Sp := fun vs H Q _ => ∃ (x t b : Addr) (S : List Addr) (o : Option State) (ls : List (List Int)), vs = [.ref x, .ref b] ∧ OAt K CC H x t S o ∧ Rows1 K (hide H (x :: t :: S)) b ls ∧ (∀ l ∈ ls, l.length ≤ 10000) ∧
  ToldS K CC x t S H Q (Mu51.step o (.begin_ ls))
theorem ok_begin {f : Addr} {fd : FuncData} {k : Nat} (F : Fun K "begin" "begin" s_begin f fd) (T : Txt K mg aN aS aM) (TC : TxC K CC chF) (C_is_place : Cal P w K mg base 1 "is_place" ["numbers"] (sp_is_place K)) :
    FnOk P w K mg base CX0 (k + 2) f fd ["chart", "landmarks"] (sp_begin K CC) := by
  refine F.ok sc_begin (fun vs H Q E h => ?_) (fun cdv A outer s H vs Q E hr h => ?_)
  · obtain ⟨x, t, b, S, o, ls, rfl, _⟩ := h
    rfl
  obtain ⟨x, t, b, S, o, ls, rfl, C, hR, hsz, q⟩ := h
  refine ⟨_, (pss_cons (ps_if (pt_not (pt_chain op_le op_le pe_int (pe_callB (call_lenK (K := K) rfl) (by rfl) T.len PySem.boot_len (pa_cons (pv 1) pa_nil)) (pgI rfl T.gMOST_LANDMARKS))) (pss_one (ps_ret (pe_lst (pa_cons (pgI rfl T.gWRONG) pa_nil))))
        pss_nil)
      (pss_cons (ps_for PassesOwn.never rfl (pi_list (pv 1)) (pg_name (i := 2) sc_begin.nd rfl (Or.inl rfl))
        (pss_one (ps_if (PW.pt (pw_and (pt_cmpR op_ne (pe_callB (call_lenK (K := K) rfl) (by rfl) T.len PySem.boot_len (pa_cons (pv 2) pa_nil)) pe_int (nomark _)) (pw_and1 (pt_not (pt_val (pcall C_is_place (hr.mono (by omega)) rfl (pa_cons (pv 2) pa_nil))))))) (pss_one (ps_ret (pe_lst (pa_cons (pgI rfl T.gWRONG) pa_nil))))
          pss_nil)))
      (pss_cons (ps_fld (pv 0) (pv 1) rfl)
      (pss_cons (ps_fld (pv 0) (pe_lst pa_nil) rfl)
      (pss_one (ps_ret (pe_lst (pa_cons pe_int pa_nil)))))))), ?_⟩
  obtain ⟨np, nt⟩ := TC.ch
  obtain ⟨vs, hL0, hP0⟩ := hR
  have hs : Same (hide H (x :: t :: S)) H := hide_same _ _
  have hL := hs.seq hL0
  have el := pairLen hP0
  have bad : (ls.isEmpty = true ∨ 4 < ls.length) ∨ ls.mapM Mu51.markOf = none → Told H Q [-1] := fun hb => by
    have e : Mu51.step o (.begin_ ls) = (o, [-1]) := by
      by_cases c : ls.isEmpty = true ∨ 4 < ls.length
      · have c' : ls.isEmpty = true ∨ Mu51.MARKS < ls.length := c
        cases o <;> simp only [Mu51.step, if_pos c']
      · have c' : ¬ (ls.isEmpty = true ∨ Mu51.MARKS < ls.length) := c
        have hm := hb.resolve_left c
        cases o <;> simp only [Mu51.step, if_neg c', hm]
    rw [e] at q
    exact q.told C
  refine ⟨_, rfl, b, vs, rfl, .inl hL, _, _, rfl, rfl, chain_le ⟨_, rfl, ?_⟩⟩
  refine tNot' (fun c => ?_) (fun c => ?_)
  · have hb : ls.isEmpty = true ∨ 4 < ls.length := by
      simp only [Bool.and_eq_false_iff, decide_eq_false_iff_not] at c
      rcases c with c | c
      · left
        exact List.isEmpty_iff_length_eq_zero.mpr (by omega)
      · right
        omega
    exact ⟨(by show 1 ≤ sizeLine; decide), fun p n => (bad (.inl hb)).lst n⟩
  have hok : ¬ (ls.isEmpty = true ∨ 4 < ls.length) := by
    simp only [Bool.and_eq_true, decide_eq_true_eq] at c
    rintro (h | h)
    · have := List.isEmpty_iff_length_eq_zero.mp h
      omega
    · omega
  refine ⟨_, rfl, b, rfl, ⟨_, hL⟩, ?_⟩
  refine for_list (K := K) (a := b) (xs := vs) (fun i σ H' => ∃ z, σ = [some (.ref x), some (.ref b), z] ∧ Same H H' ∧ ∀ l ∈ ls.take i, Mu51.markOf l ≠ none) ⟨none, rfl, Same.refl _, fun l hl => by simp at hl⟩ (fun i σ H' _ ⟨_, _, s1, _⟩ => s1.seq hL) ?_ ?_
  · rintro i v σ H' hv ⟨z, rfl, s1, ha⟩
    obtain ⟨l, hl, a, rfl, hla⟩ := pairGet hP0 hv
    have hmem := List.mem_of_getElem? hl
    have hla1 : SqL K H' a (l.map V.int) := SqL.of (s1 _ _ (hs _ _ hla))
    have next : ∀ {H2 : Hp}, Same H' H2 → Mu51.markOf l ≠ none → ∃ z, (([some (V.ref x), some (V.ref b), z] : List (Option V)).set 2 (some (.ref a))) = [some (.ref x), some (.ref b), z] ∧ Same H H2 ∧ ∀ l ∈ ls.take (i + 1), Mu51.markOf l ≠ none := fun s2 hm => ⟨some (.ref a), rfl, s1.trans s2, fun l' hl' => by
      rw [take_succ_get hl] at hl'
      rcases List.mem_append.mp hl' with h | h
      · exact ha l' h
      · rw [List.mem_singleton.mp h]
        exact hm⟩
    refine ⟨_, rfl, a, _, rfl, .inl hla1, rfl, _, rfl, ?_⟩
    refine tNe (fun c => ?_) (fun c => ?_)
    · refine ⟨_, rfl, a, l, rfl, hla1, hsz l hmem, fun H2 s2 => ⟨_, rfl, ?_⟩⟩
      refine tNot' (fun d => ?_) (fun d => ?_)
      · have hm : Mu51.markOf l = none := markOf_none.mpr ⟨by rw [List.length_map] at c; omega, d⟩
        refine ⟨(by show 1 ≤ sizeLine; decide), fun p n => ?_⟩
        exact ((bad (.inr (marks_none hmem hm))).same (s1.trans s2)).lst n
      · have hm : Mu51.markOf l ≠ none := fun z => by
          have := (markOf_none.mp z).2
          rw [d] at this
          cases this
        obtain ⟨z2, e2, r⟩ := next s2 hm
        exact ⟨some (.ref a), rfl, r⟩
    · have hm : Mu51.markOf l ≠ none := fun z => by
        have := (markOf_none.mp z).1
        rw [List.length_map] at c
        omega
      refine iteF ?_
      obtain ⟨z2, e2, r⟩ := next (Same.refl _) hm
      exact ⟨some (.ref a), rfl, r⟩
  · rintro σ H1 ⟨z, rfl, s1, ha⟩
    rw [el, List.take_length] at ha
    obtain ⟨m, e1, e2, e3⟩ := marks_some ha
    have es : Mu51.step o (.begin_ ls) = (some ⟨m, []⟩, [0]) := by
      have c' : ¬ (ls.isEmpty = true ∨ Mu51.MARKS < ls.length) := hok
      cases o <;> simp only [Mu51.step, if_neg c', e1]
    rw [es] at q
    obtain ⟨dx, p, us, D⟩ := (C.same s1).chart
    refine ⟨_, rfl, _, rfl, x, CC, dx, _, rfl, D.e1, TC.cl, np, (by show 2 < 1000; decide), ?_⟩
    rw [F2_put_places]
    refine ⟨Nat.zero_le _, fun t' ht' => ?_⟩
    have tx : t' ≠ x := fun z => by rw [z, upd_same] at ht'; cases ht'
    refine ⟨_, rfl, x, CC, dx, _, rfl, (upd_ne tx.symm).trans upd_same, TC.cl, nt, (by show 2 < 1000; decide), ?_⟩
    rw [F2_put_texts]
    have hnt1 : H1 t' = none := by
      rw [upd_ne tx] at ht'
      exact ht'
    refine ⟨(by show 1 ≤ sizeLine; decide), fun r hr' => ?_⟩
    have rx : r ≠ x := fun z => by rw [z, upd_same] at hr'; cases hr'
    have rt : r ≠ t' := fun z => by rw [z, upd_ne tx, upd_same] at hr'; cases hr'
    have hnr1 : H1 r = none := by
      rw [upd_ne rx, upd_ne rt, upd_ne rx] at hr'
      exact hr'
    have M2 : Mut [x] H1 (upd (upd (upd (upd H1 x (.ins CC dx (F2 b t))) t' (.lst [])) x (.ins CC dx (F2 b t'))) r (.lst [.int 0])) := fun c o e nc => by
      have hc : c ≠ x := fun z => nc (by rw [z]; exact List.mem_cons_self)
      rw [upd_ne (ne_of_none e hnr1), upd_ne hc, upd_ne (ne_of_none e hnt1), upd_ne hc]
      exact e
    have S2 : Same (hide H (x :: t :: S)) (hide (upd (upd (upd (upd H1 x (.ins CC dx (F2 b t))) t' (.lst [])) x (.ins CC dx (F2 b t'))) r (.lst [.int 0])) (x :: t' :: S)) := hide_mono (fun c o e nc => M2 c o (s1 c o e) (fun z => nc (by rw [List.mem_singleton.mp z]; exact List.mem_cons_self))) fun c hc => by
      rcases List.mem_cons.mp hc with rfl | hc
      · exact .inl List.mem_cons_self
      rcases List.mem_cons.mp hc with rfl | hc
      · exact .inr (s1.free hnt1)
      · exact .inl (List.mem_cons_of_mem _ (List.mem_cons_of_mem _ hc))
    refine q _ r t' ((Mut.of_same s1).trans (M2.mono fun c hc => by rw [List.mem_singleton.mp hc]; exact List.mem_cons_self)) (.inr (s1.free hnt1)) ⟨⟨dx, b, [], ?_, ?_, ?_, .nil⟩, ?_⟩ (s1.free hnr1) upd_same
    · rw [upd_ne rx.symm, upd_same]
    · have : plOf ⟨m, []⟩ = ls := e2.symm
      rw [this]
      exact Rows1.same S2 ⟨vs, hL0, hP0⟩
    · rw [upd_ne rt.symm, upd_ne tx, upd_same]
    · have lm : m.length = ls.length := by rw [e2, List.length_map]
      simp only [Bool.and_eq_true, decide_eq_true_eq] at c
      exact ⟨by show 1 ≤ m.length; omega, by show m.length ≤ 4; omega, e3, Nat.zero_le _, fun t ht => by cases ht⟩

/-! ### add_text -/
abbrev s_add_text : Stmt := topS 66
theorem sc_add_text : FnScope ["chart", "sayings", "followed"] ["chart", "sayings"] (defScope s_add_text) := ⟨rfl, rfl, rfl, by decide +kernel, rfl, by decide +kernel, by decide +kernel⟩
def sp_add_text (K : PySem.W.Frag) (CC : Addr) : Sp := fun vs H Q _ => ∃ (x t b : Addr) (S : List Addr) (s : State) (ls : List (List Int)), vs = [.ref x, .ref b] ∧ SAt K CC H x t S s ∧ Rows K (hide H (x :: t :: S)) b ls ∧ (∀ l ∈ ls, ∀ z ∈ l, (0 : Int) ≤ z) ∧
  ToldS K CC x t S H Q (Mu51.step (some s) (.text ls))
theorem ok_add_text {f : Addr} {fd : FuncData} {k : Nat} (F : Fun K "add_text" "add_text" s_add_text f fd) (T : Txt K mg aN aS aM) (TC : TxC K CC chF) (C_is_text : Cal P w K mg base 2 "is_text" ["sayings"] (sp_is_text K))
    (C_count_followed : Cal P w K mg base 2 "count_followed" ["sayings", "landmarks"] (sp_count_followed K)) (C_is_too_fine : Cal P w K mg base 1 "is_too_fine" ["sayings"] (sp_is_too_fine K)) :
    FnOk P w K mg base CX0 (k + 3) f fd ["chart", "sayings"] (sp_add_text K CC) := by
  refine F.ok sc_add_text (fun vs H Q E h => ?_) (fun cdv A outer s H vs Q E hr h => ?_)
  · obtain ⟨x, t, b, S, s, ls, rfl, _⟩ := h
    rfl
  obtain ⟨x, t, b, S, s, ls, rfl, ⟨C, G⟩, hR, hn, q⟩ := h
  refine ⟨_, (pss_cons (ps_if (pt_not (pt_val (pcall C_is_text (hr.mono (by omega)) rfl (pa_cons (pv 1) pa_nil)))) (pss_one (ps_ret (pe_lst (pa_cons (pgI rfl T.gWRONG) pa_nil))))
        pss_nil)
      (pss_cons (ps_set (i := 2) sc_add_text.nd rfl (Or.inl rfl) (pcall C_count_followed (hr.mono (by omega)) rfl (pa_cons (pv 1) (pa_cons (pe_callB (call_lenK (K := K) rfl) (by rfl) T.len PySem.boot_len (pa_cons (pe_fld (pv 0) rfl) pa_nil)) pa_nil))))
      (pss_cons (ps_if (pt_cmpR op_lt (pv 2) (pe_callB (call_lenK (K := K) rfl) (by rfl) T.len PySem.boot_len (pa_cons (pv 1) pa_nil)) (nomark _)) (pss_one (ps_ret (pe_lst (pa_cons (pgI rfl T.gNOT_THERE) (pa_cons (pv 2) pa_nil)))))
        pss_nil)
      (pss_cons (ps_if (pt_val (pcall C_is_too_fine (hr.mono (by omega)) rfl (pa_cons (pv 1) pa_nil))) (pss_one (ps_ret (pe_lst (pa_cons (pgI rfl T.gTOO_FINE) pa_nil))))
        pss_nil)
      (pss_cons (ps_if (pt_cmpR op_eq (pe_callB (call_lenK (K := K) rfl) (by rfl) T.len PySem.boot_len (pa_cons (pe_fld (pv 0) rfl) pa_nil)) (pgI rfl T.gMOST_TEXTS) (nomark _)) (pss_one (ps_ret (pe_lst (pa_cons (pgI rfl T.gTEXTS_FULL) pa_nil))))
        pss_nil)
      (pss_cons (ps_expr (pe_bm PySem.F.plainAttrs_list PySem.F.slot_list_append PySem.F.type_list_append mt_append (pe_fld (pv 0) rfl) (pa_cons (pv 1) pa_nil)))
      (pss_one (ps_ret (pe_lst (pa_cons (pe_op op_sub (pe_callB (call_lenK (K := K) rfl) (by rfl) T.len PySem.boot_len (pa_cons (pe_fld (pv 0) rfl) pa_nil)) pe_int) pa_nil)))))))))), ?_⟩
  obtain ⟨np, nt⟩ := TC.ch
  have hs : Same (hide H (x :: t :: S)) H := hide_same _ _
  have stay : ∀ {a : List Int}, Mu51.step (some s) (.text ls) = (some s, a) → Told H Q a := fun e => by
    rw [e] at q
    exact q.told ⟨C, G⟩
  refine ⟨_, rfl, b, ls, rfl, hR.same hs, hn, fun H1 s1 => ⟨_, rfl, ?_⟩⟩
  refine tNot' (fun c => ?_) (fun c => ?_)
  · have e : Mu51.step (some s) (.text ls) = (some s, [-1]) := by
      rcases textOk_false hn c with h | ⟨txt, h, h2⟩
      · simp only [Mu51.step, h]
      · simp only [Mu51.step, h, if_pos h2]
    exact ⟨(by show 1 ≤ sizeLine; decide), fun p n => ((stay e).same s1).lst n⟩
  obtain ⟨txt, rfl, e1, e2⟩ := textOk_some hn c
  have hlong : txt.length ≤ 14 := by
    have : ¬ 14 < txt.length := fun z => e2 (.inl z)
    omega
  have hst : Mu51.stands txt = true := by
    cases h : Mu51.stands txt with
    | true => rfl
    | false => exact absurd (.inr h) e2
  have C1 := C.same s1
  obtain ⟨dx, p, us, D⟩ := id C1
  obtain ⟨ps, hps, hpp⟩ := D.pl
  have lp : ps.length = s.marks.length := (pairLen hpp).trans (plOf_len s)
  have hR1 := (hR.same hs).same s1
  refine ⟨_, rfl, _, rfl, x, CC, dx, _, _, rfl, D.e1, TC.cl, np, F2_places p t, p, ps, rfl, .inl ((hide_same _ _).seq hps), b, txt, s.marks.length, by rw [lp]; rfl, hR1, fun H2 s2 => ?_⟩
  have s12 := s1.trans s2
  have hR2 := hR1.same s2
  obtain ⟨vs, hL, hP⟩ := id hR2
  have lv : vs.length = txt.length := (pairLen hP).trans (encT_len txt)
  refine ⟨_, rfl, _, rfl, b, vs, rfl, .inl hL, _, _, rfl, rfl, _, rfl, ?_⟩
  rw [lv]
  cases hw : Mu51.wrongAt s.marks.length 0 0 txt with
  | some i =>
    have hi := (wrongAt_ge txt 0 0 i hw).2
    have ef : followed s.marks.length txt = i := by unfold followed; rw [hw]; rfl
    rw [ef]
    refine tDec (fun _ => ?_) (fun d => absurd (show ((i : Int) < (txt.length : Int)) by omega) d)
    have e : Mu51.step (some s) (.text (encT txt)) = (some s, [-3, (i : Int)]) := by
      have hw' : Mu51.wrongAt (Mu51.many s) 0 0 txt = some i := hw
      simp only [Mu51.step, e1, if_neg e2, hw']
    refine ⟨_, rfl, (by show 2 ≤ sizeLine; decide), fun p n => ?_⟩
    exact ((stay e).same s12).lst n
  | none =>
    have ef : followed s.marks.length txt = txt.length := by unfold followed; rw [hw]; rfl
    rw [ef]
    refine tDec (fun d => absurd d (by omega)) (fun _ => ?_)
    refine ⟨_, rfl, b, txt, rfl, hR2, by omega, fun H3 s3 => ?_⟩
    have s13 := s12.trans s3
    refine ⟨_, rfl, ?_⟩
    have hw' : Mu51.wrongAt (Mu51.many s) 0 0 txt = none := hw
    refine tDec (fun d => ?_) (fun d => ?_)
    · have d' : Mu51.HALVES < Mu51.halves txt := by
        show 8 < Mu51.halves txt
        omega
      have e : Mu51.step (some s) (.text (encT txt)) = (some s, [-4]) := by
        simp only [Mu51.step, e1, if_neg e2, hw', if_pos d']
      exact ⟨(by show 1 ≤ sizeLine; decide), fun p n => ((stay e).same s13).lst n⟩
    have d' : ¬ Mu51.HALVES < Mu51.halves txt := by
      show ¬ 8 < Mu51.halves txt
      omega
    have C3 := C.same s13
    obtain ⟨dx, p, us, D⟩ := id C3
    have lu : us.length = s.texts.length := (pairLen D.tx).trans (txOf_len s)
    refine ⟨_, rfl, x, CC, dx, _, _, rfl, D.e1, TC.cl, nt, F2_texts p t, t, us, rfl, .inl (SqL.of D.e2), rfl, _, rfl, ?_⟩
    refine tEq (fun g => ?_) (fun g => ?_)
    · have g' : Mu51.TEXTS ≤ s.texts.length := by
        show 4 ≤ s.texts.length
        omega
      have e : Mu51.step (some s) (.text (encT txt)) = (some s, [-5]) := by
        simp only [Mu51.step, e1, if_neg e2, hw', if_neg d', if_pos g']
      exact ⟨(by show 1 ≤ sizeLine; decide), fun p n => ((stay e).same s13).lst n⟩
    have g' : ¬ Mu51.TEXTS ≤ s.texts.length := by
      show ¬ 4 ≤ s.texts.length
      have := G.t4
      omega
    have t4 := G.t4
    have e : Mu51.step (some s) (.text (encT txt)) = (some { s with texts := s.texts ++ [txt] }, [(s.texts.length : Int)]) := by
      simp only [Mu51.step, e1, if_neg e2, hw', if_neg d', if_neg g']
    rw [e] at q
    refine ⟨_, rfl, x, CC, dx, _, _, rfl, D.e1, TC.cl, nt, F2_texts p t, .inl ⟨rfl, _, SqL.of D.e2⟩, _, rfl, t, us, _, rfl, rfl, D.e2, small_of (by omega), ?_⟩
    have ex : upd H3 t (.lst (us ++ [.ref b])) x = some (.ins CC dx (F2 p t)) := (upd_ne D.xt.symm).trans D.e1
    refine ⟨_, rfl, x, CC, dx, _, _, rfl, ex, TC.cl, nt, F2_texts p t, t, _, rfl, .inl (SqL.of upd_same), _, _, rfl, rfl, (by show 1 ≤ sizeLine; decide), fun r hr' => ?_⟩
    have hn3 : H3 r = none := by
      have : r ≠ t := fun z => by rw [z, upd_same] at hr'; cases hr'
      rw [upd_ne this] at hr'
      exact hr'
    have M4 : Mut [x, t] H (upd (upd H3 t (.lst (us ++ [.ref b]))) r (.lst [.int (((us ++ [V.ref b]).length : Int) - 1)])) := fun c o e nc => by
      have hc : c ≠ t := fun z => nc (by rw [z]; exact List.mem_cons_of_mem _ List.mem_cons_self)
      rw [upd_ne (ne_of_none (s13 c o e) hn3), upd_ne hc]
      exact s13 c o e
    have rt : t ≠ r := fun z => by rw [← z, upd_same] at hr'; cases hr'
    have S4 : Same (hide H (x :: t :: S)) (hide (upd (upd H3 t (.lst (us ++ [.ref b]))) r (.lst [.int (((us ++ [V.ref b]).length : Int) - 1)])) (x :: t :: S)) := hide_mono (fun c o e nc => M4 c o e fun z => nc (by
      rcases List.mem_cons.mp z with rfl | z
      · exact List.mem_cons_self
      · rw [List.mem_singleton.mp z]
        exact List.mem_cons_of_mem _ List.mem_cons_self)) fun _ h => .inl h
    refine q _ r t M4 (.inl rfl) ⟨⟨dx, p, us ++ [.ref b], ?_, ?_, ?_, ?_⟩, ?_⟩ (s13.free hn3) ?_
    · rw [upd_ne (ne_of_none D.e1 hn3), ex]
    · obtain ⟨dx0, p0, us0, D0⟩ := id C
      have D03 := D0.same s13
      have ee := D03.e1.symm.trans D.e1
      have ep : p0 = p := by
        injection ee with ee
        injection ee with _ _ ee
        injection ee with ee _
        injection ee with _ ee
        injection ee
      subst ep
      exact D0.pl.same S4
    · rw [upd_ne rt, upd_same]
    · obtain ⟨dx0, p0, us0, D0⟩ := id C
      have D03 := D0.same s13
      have eu : us0 = us := by
        have ee := D03.e2.symm.trans D.e2
        injection ee with ee
        injection ee
      subst eu
      show Paired _ (us0 ++ [.ref b]) ((s.texts ++ [txt]).map encT)
      rw [List.map_append]
      exact pairSnoc (Paired.mapP D0.tx fun _ _ ⟨c, z, r⟩ => ⟨c, z, r.same S4⟩) ⟨b, rfl, hR.same S4⟩
    · refine ⟨G.m1, G.m4, G.nr, ?_, fun u hu => ?_⟩
      · show (s.texts ++ [txt]).length ≤ 4
        rw [List.length_append]
        have : ¬ 4 ≤ s.texts.length := g'
        simp
        omega
      · rcases List.mem_append.mp hu with hu | hu
        · exact G.tx u hu
        · rw [List.mem_singleton.mp hu]
          exact ⟨hst, hlong, hw, by have : ¬ 8 < Mu51.halves txt := d'; omega⟩
    · have el : ((us ++ [V.ref b]).length : Int) - 1 = (s.texts.length : Int) := by
        rw [List.length_append]
        simp
        omega
      show upd _ r (.lst [.int (((us ++ [V.ref b]).length : Int) - 1)]) r = some (.lst [.int (s.texts.length : Int)])
      rw [el]
      exact upd_same
end
end Gk
namespace Gk
open PySem PySem.Spec PyProof.Rows L2
open Mu51 (Pt Mix State Text)

/-! ### places in a flat list -/
theorem drop_head {ns : List Int} {i : Nat} {x : Int} {r : List Int} (h : ns.drop i = x :: r) : ns[i]? = some x ∧ ns.drop (i + 1) = r := by
  refine ⟨?_, ?_⟩
  · have : (ns.drop i)[0]? = some x := by rw [h]; rfl
    rw [List.getElem?_drop] at this
    simpa using this
  · have : (ns.drop i).drop 1 = r := by rw [h]; rfl
    rw [List.drop_drop] at this
    exact this
theorem drop_app {ns l r : List Int} {i : Nat} (h : ns.drop i = l ++ r) : ns.drop (i + l.length) = r := by
  have : (ns.drop i).drop l.length = r := by rw [h]; simp
  rw [List.drop_drop] at this
  exact this
theorem drop_le {ns l r : List Int} {i : Nat} (hi : i ≤ ns.length) (h : ns.drop i = l ++ r) : i + l.length ≤ ns.length := by
  have := congrArg List.length h
  rw [List.length_drop, List.length_append] at this
  omega
theorem cut_app {ns l r : List Int} {i : Nat} (hi : i ≤ ns.length) (h : ns.drop i = l ++ r) : cutV (ns.map V.int) (some (i : Int)) (some ((i + l.length : Nat) : Int)) = l.map V.int := by
  rw [cut_mid _ _ _ (by omega) (by rw [List.length_map]; exact drop_le hi h), ← List.map_drop, h, ← List.map_take]
  congr 1
  rw [show i + l.length - i = l.length by omega]
  simp
theorem at_int {ns : List Int} {i : Nat} {x : Int} (h : ns[i]? = some x) : atI (ns.map V.int) (i : Int) = some (V.int x) := atI_nat (by rw [List.getElem?_map, h]; rfl)
/-- a call as it is read -/
def CallV (K : PySem.W.Frag) (H : Hp) (v : V) (c : List (List Int)) : Prop := ∃ (T b d : Addr) (p : Int) (nums : List Int) (xs : List (List Int)), c = (p :: nums) :: xs ∧ v = .ref T ∧ SqT K H T [.int p, .ref b, .ref d] ∧ SqL K H b (nums.map V.int) ∧ Rows1 K H d xs
theorem CallV.same {K : PySem.W.Frag} {H H' : Hp} {v : V} {c : List (List Int)} (s : Same H H') (h : CallV K H v c) : CallV K H' v c := by
  obtain ⟨T, b, d, p, nums, xs, e1, e2, h1, h2, h3⟩ := h
  exact ⟨T, b, d, p, nums, xs, e1, e2, sameTup s h1, s.seq h2, h3.same s⟩
/-- what is new since H0, without S -/
def hideN (H0 H : Hp) (S : List Addr) : Hp := fun b => if (H0 b).isSome = true ∨ b ∈ S then none else H b
theorem hideN_some {H0 H : Hp} {S : List Addr} {b : Addr} {o : HO} (h : hideN H0 H S b = some o) : H0 b = none ∧ b ∉ S ∧ H b = some o := by
  unfold hideN at h
  by_cases c : (H0 b).isSome = true ∨ b ∈ S
  · rw [if_pos c] at h
    cases h
  · rw [if_neg c] at h
    refine ⟨?_, fun z => c (.inr z), h⟩
    cases e : H0 b with
    | none => rfl
    | some o => exact absurd (.inl (by rw [e]; rfl)) c
theorem hideN_of {H0 H : Hp} {S : List Addr} {b : Addr} {o : HO} (n0 : H0 b = none) (n : b ∉ S) (h : H b = some o) : hideN H0 H S b = some o := by
  unfold hideN
  rw [if_neg]
  · exact h
  · rintro (z | z)
    · rw [n0] at z
      cases z
    · exact n z
theorem hideN_mono {H0 H H' : Hp} {S S' : List Addr} (k : ∀ b o, H b = some o → b ∉ S → H' b = some o) (f : ∀ b ∈ S', b ∈ S) : Same (hideN H0 H S) (hideN H0 H' S') := fun b o h => by
  obtain ⟨n0, n, e⟩ := hideN_some h
  exact hideN_of n0 (fun z => n (f b z)) (k b o e n)
theorem hideN_hide {H0 H : Hp} {S S' : List Addr} (f : ∀ b ∈ S', b ∈ S ∨ H0 b ≠ none) : Same (hideN H0 H S) (hide H S') := fun b o h => by
  obtain ⟨n0, n, e⟩ := hideN_some h
  refine hide_of (fun z => ?_) e
  rcases f b z with z | z
  · exact n z
  · exact z n0
/-- how far the second slot (the place) is from the end -/
def restOf (n : Nat) : List (Option V) → Nat
  | _ :: _ :: some (.int i) :: _ => n - i.toNat
  | _ => 0

section
variable {P : Program} {w : World} {K : PySem.W.Frag} {mg : Str → Option Value} {base : Heap} {aN aS aM CF CC : Addr}

/-! ### read_calls -/
abbrev s_read_calls : Stmt := topS 77
theorem sc_read_calls : FnScope ["calls", "found", "at", "number", "lists_at", "numbers", "lists", "behind"] ["calls"] (defScope s_read_calls) := ⟨rfl, rfl, rfl, by decide +kernel, rfl, by decide +kernel, by decide +kernel⟩
def sp_read_calls (K : PySem.W.Frag) : Sp := fun vs H Q _ => ∃ (a : Addr) (ns : List Int) (cs : List (List (List Int))), vs = [.ref a] ∧ SqL K H a (ns.map V.int) ∧ ns.length ≤ 6200 ∧ ns = PyWide.put cs ∧ (∀ c ∈ cs, PyWide.okCall c) ∧
  ∀ H' p us, Same H H' → H p = none → H' p = some (.lst us) → Paired (CallV K (hideN H H' [p])) us cs → Q (.ref p) H'
theorem put_pos {c : List (List Int)} (h : PyWide.okCall c) : 2 ≤ (PyWide.put1 c).length := by
  obtain ⟨p, ns, xs, rfl⟩ := h
  simp [PyWide.put1, PyFlat.putRow]
theorem put_len : ∀ {cs : List (List (List Int))}, (∀ c ∈ cs, PyWide.okCall c) → cs.length ≤ (PyWide.put cs).length
  | [], _ => Nat.zero_le _
  | c :: cs, h => by
    have h1 := put_pos (h c List.mem_cons_self)
    have h2 := put_len fun d hd => h d (List.mem_cons_of_mem _ hd)
    rw [PyWide.put, List.length_append, List.length_cons]
    omega
theorem putRows_len : ∀ (xs : List (List Int)), xs.length ≤ (PyFlat.putRows xs).length
  | [] => Nat.zero_le _
  | y :: ys => by
    have := putRows_len ys
    rw [PyFlat.putRows, List.length_append, List.length_cons]
    simp [PyFlat.putRow]
    omega
theorem ok_read_calls {f : Addr} {fd : FuncData} {k : Nat} (F : Fun K "read_calls" "read_calls" s_read_calls f fd) (T : Txt K mg aN aS aM) : FnOk P w K mg base CX0 (k + 1) f fd ["calls"] (sp_read_calls K) := by
  refine F.ok sc_read_calls (fun vs H Q E h => ?_) (fun cdv A outer s H vs Q E hr h => ?_)
  · obtain ⟨a, ns, cs, rfl, _⟩ := h
    rfl
  obtain ⟨a, ns, cs, rfl, hL, hlen, hput, hcs, q⟩ := h
  refine ⟨_, (pss_cons (ps_set (i := 1) sc_read_calls.nd rfl (Or.inl rfl) (pe_lst pa_nil))
      (pss_cons (ps_set (i := 2) sc_read_calls.nd rfl (Or.inl rfl) pe_int)
      (pss_cons (ps_while PassesOwn.never (pt_cmpR op_lt (pv 2) (pe_callB (call_lenK (K := K) rfl) (by rfl) T.len PySem.boot_len (pa_cons (pv 0) pa_nil)) (nomark _))
        (pss_cons (ps_set (i := 3) sc_read_calls.nd rfl (Or.inl rfl) (pe_ix ix_list (pv 0) (pv 2) (fun _ _ => rfl)))
        (pss_cons (ps_set (i := 4) sc_read_calls.nd rfl (Or.inl rfl) (pe_op op_add (pe_op op_add (pv 2) pe_int) (pe_ix ix_list (pv 0) (pe_op op_add (pv 2) pe_int) (fun _ _ => rfl))))
        (pss_cons (ps_set (i := 5) sc_read_calls.nd rfl (Or.inl rfl) (pe_slice sl_list (pv 0) (po_some (pe_op op_add (pv 2) pe_int)) (po_some (pv 4))))
        (pss_cons (ps_set (i := 6) sc_read_calls.nd rfl (Or.inl rfl) (pe_lst pa_nil))
        (pss_cons (ps_set (i := 2) sc_read_calls.nd rfl (Or.inl rfl) (pe_op op_add (pv 4) pe_int))
        (pss_cons (ps_while PassesOwn.never (pt_cmpR op_lt (pe_callB (call_lenK (K := K) rfl) (by rfl) T.len PySem.boot_len (pa_cons (pv 6) pa_nil)) (pe_ix ix_list (pv 0) (pv 4) (fun _ _ => rfl)) (nomark _))
          (pss_cons (ps_set (i := 7) sc_read_calls.nd rfl (Or.inl rfl) (pe_op op_add (pe_op op_add (pv 2) pe_int) (pe_ix ix_list (pv 0) (pv 2) (fun _ _ => rfl))))
          (pss_cons (ps_expr (pe_bm PySem.F.plainAttrs_list PySem.F.slot_list_append PySem.F.type_list_append mt_append (pv 6) (pa_cons (pe_slice sl_list (pv 0) (po_some (pe_op op_add (pv 2) pe_int)) (po_some (pv 7))) pa_nil)))
          (pss_one (ps_set (i := 2) sc_read_calls.nd rfl (Or.inl rfl) (pv 7))))))
        (pss_one (ps_expr (pe_bm PySem.F.plainAttrs_list PySem.F.slot_list_append PySem.F.type_list_append mt_append (pv 1) (pa_cons (pe_tup (pa_cons (pv 3) (pa_cons (pv 5) (pa_cons (pv 6) pa_nil)))) pa_nil)))))))))))
      (pss_one (ps_ret (pv 1)))))), ?_⟩
  refine ⟨Nat.zero_le _, fun fo nfo => ?_⟩
  have sfo : Same H (upd H fo (.lst [])) := same_upd nfo
  have hcl : cs.length ≤ 6200 := by
    have := put_len hcs
    rw [← hput] at this
    omega
  refine while_by (fun σ H' => ∃ (k i : Nat) (z3 z4 z5 z6 z7 : Option V) (us : List V), σ = [some (.ref a), some (.ref fo), some (.int i), z3, z4, z5, z6, z7] ∧ Same H H' ∧ k ≤ cs.length ∧ i ≤ ns.length ∧ ns.drop i = PyWide.put (cs.drop k) ∧ H' fo = some (.lst us) ∧ Paired (CallV K (hideN H H' [fo])) us (cs.take k))
    (fun σ _ => restOf ns.length σ) ⟨0, 0, none, none, none, none, none, [], rfl, sfo, Nat.zero_le _, Nat.zero_le _, hput, upd_same, .nil⟩ ?_ ?_
  · rintro σ H1 ⟨k, i, z3, z4, z5, z6, z7, us, rfl, s1, hk, hi, hd, ef, hP⟩
    have hL1 := s1.seq hL
    refine ⟨_, rfl, _, rfl, a, _, rfl, .inl hL1, _, _, rfl, rfl, _, rfl, ?_⟩
    rw [List.length_map]
    refine tDec (fun c => ?_) (fun c => ?_)
    · have hin : i < ns.length := by omega
      have hkc : k < cs.length := by
        refine Nat.lt_of_not_le fun z => ?_
        have e : cs.drop k = [] := List.drop_eq_nil_of_le z
        rw [e] at hd
        have := congrArg List.length hd
        rw [List.length_drop] at this
        simp [PyWide.put] at this
        omega
      have hck : cs[k]? = some cs[k] := List.getElem?_eq_getElem hkc
      obtain ⟨p, nums, xs, ec⟩ := hcs _ (List.getElem_mem hkc)
      rw [ec] at hck
      rw [drop_get hck] at hd
      have hd1 : ns.drop i = p :: ((nums.length : Int) :: (nums ++ ((xs.length : Int) :: (PyFlat.putRows xs ++ PyWide.put (cs.drop (k + 1)))))) := by
        rw [hd]
        show PyWide.put1 ((p :: nums) :: xs) ++ PyWide.put (cs.drop (k + 1)) = _
        rw [PyWide.put1_append]
        rfl
      obtain ⟨g0, hd2⟩ := drop_head hd1
      obtain ⟨g1, hd3⟩ := drop_head hd2
      have hi2 : i + 2 ≤ ns.length := by
        have := congrArg List.length hd1
        rw [List.length_drop] at this
        simp at this
        omega
      have hd4 := drop_app hd3
      obtain ⟨g2, hd5⟩ := drop_head hd4
      have hi3 : i + 1 + 1 + nums.length + 1 ≤ ns.length := by
        have := congrArg List.length hd4
        rw [List.length_drop] at this
        simp at this
        omega
      have ecut := cut_app (i := i + 1 + 1) (by omega) hd3
      refine ⟨_, rfl, _, rfl, a, _, _, _, rfl, rfl, hL1, at_int g0, ?_⟩
      refine ⟨_, rfl, _, _, rfl, rfl, _, rfl, _, rfl, _, _, rfl, rfl, a, _, _, _, rfl, rfl, hL1, at_int (i := i + 1) g1, _, _, rfl, rfl, ?_⟩
      refine ⟨_, rfl, _, rfl, _, _, rfl, rfl, _, rfl, _, rfl, _, rfl, a, _, rfl, hL1, fun b nb => ?_⟩
      have eb : cutV (ns.map V.int) (some ((i : Int) + 2)) (some ((i : Int) + 2 + (nums.length : Int))) = nums.map V.int := by
        rw [← ecut]
        congr 2
      rw [eb]
      have s2 : Same H1 (upd H1 b (.lst (nums.map V.int))) := same_upd nb
      refine ⟨Nat.zero_le _, fun li nli => ?_⟩
      have s3 : Same (upd H1 b (.lst (nums.map V.int))) (upd (upd H1 b (.lst (nums.map V.int))) li (.lst [])) := same_upd nli
      have lb : li ≠ b := fun z => by rw [z, upd_same] at nli; cases nli
      have nli1 : H1 li = none := by rw [upd_ne lb] at nli; exact nli
      have lf : li ≠ fo := (ne_of_none ef nli1).symm
      have bf : b ≠ fo := (ne_of_none ef nb).symm
      refine ⟨_, rfl, _, _, rfl, rfl, ?_⟩
      refine while_by (fun σ H' => ∃ (j m : Nat) (z7 : Option V) (rs : List V), σ = [some (.ref a), some (.ref fo), some (.int m), some (.int p), some (.int ((i : Int) + 2 + (nums.length : Int))), some (.ref b), some (.ref li), z7] ∧ Same (upd H1 b (.lst (nums.map V.int))) H' ∧ j ≤ xs.length ∧ i < m ∧ m ≤ ns.length ∧
          ns.drop m = PyFlat.putRows (xs.drop j) ++ PyWide.put (cs.drop (k + 1)) ∧ H' li = some (.lst rs) ∧ Paired (Row1V (hideN H H' [fo, li])) rs (xs.take j))
        (fun σ _ => restOf ns.length σ) ⟨0, i + 1 + 1 + nums.length + 1, z7, [], rfl, s3, Nat.zero_le _, by omega, hi3, hd5, upd_same, .nil⟩ ?_ ?_
      · rintro σ H2 ⟨j, m, y7, rs, rfl, s4, hj, him, hm, hdm, el, hR⟩
        have hL2 := (s2.trans s4).seq hL1
        have lr : rs.length = j := by
          rw [pairLen hR, List.length_take]
          omega
        refine ⟨_, rfl, li, rs, rfl, .inl (SqL.of el), _, rfl, _, rfl, a, _, _, _, rfl, rfl, hL2, at_int (i := i + 1 + 1 + nums.length) g2, _, _, rfl, rfl, _, rfl, ?_⟩
        refine tDec (fun d => ?_) (fun d => ?_)
        · have hjx : j < xs.length := by omega
          have hxj : xs[j]? = some xs[j] := List.getElem?_eq_getElem hjx
          rw [drop_get hxj] at hdm
          have hdm1 : ns.drop m = (xs[j].length : Int) :: (xs[j] ++ (PyFlat.putRows (xs.drop (j + 1)) ++ PyWide.put (cs.drop (k + 1)))) := by
            rw [hdm]
            show (PyFlat.putRow xs[j] ++ PyFlat.putRows (xs.drop (j + 1))) ++ PyWide.put (cs.drop (k + 1)) = _
            rw [List.append_assoc]
            rfl
          obtain ⟨h0, hdm2⟩ := drop_head hdm1
          have hm1 : m + 1 ≤ ns.length := by
            have := congrArg List.length hdm1
            rw [List.length_drop] at this
            simp at this
            omega
          have hdm3 := drop_app hdm2
          have hm2 := drop_le hm1 hdm2
          have ecut2 := cut_app hm1 hdm2
          refine ⟨_, rfl, _, _, rfl, rfl, _, rfl, _, rfl, a, _, _, _, rfl, rfl, hL2, at_int h0, _, _, rfl, rfl, ?_⟩
          refine ⟨_, rfl, .inl ⟨rfl, _, SqL.of el⟩, _, rfl, _, rfl, _, _, rfl, rfl, _, rfl, _, rfl, _, rfl, a, _, rfl, hL2, fun r nr => ?_⟩
          have eb2 : cutV (ns.map V.int) (some ((m : Int) + 1)) (some ((m : Int) + 1 + (xs[j].length : Int))) = xs[j].map V.int := by
            rw [← ecut2]
            congr 2
          rw [eb2]
          have nrl : r ≠ li := (ne_of_none el nr).symm
          have nrf : r ≠ fo := (ne_of_none (s4 _ _ (s2 _ _ ef)) nr).symm
          refine ⟨li, rs, _, rfl, rfl, (upd_ne nrl.symm).trans el, small_of (by
            have : xs.length ≤ ns.length := by
              have h1 := congrArg List.length hd4
              rw [List.length_drop] at h1
              have h2 := putRows_len xs
              simp at h1
              omega
            omega), ?_⟩
          refine ⟨_, rfl, ⟨j + 1, m + 1 + xs[j].length, _, rs ++ [.ref r], rfl, ?_, hjx, by omega, hm2, hdm3, upd_same, ?_⟩, ?_⟩
          · intro c o e
            have hc : c ≠ li := ne_of_none e nli
            rw [upd_ne hc, upd_ne (ne_of_none (s4 _ _ e) nr)]
            exact s4 _ _ e
          · have M : Mut [fo, li] H2 (upd (upd H2 r (.lst (xs[j].map V.int))) li (.lst (rs ++ [.ref r]))) := (Mut.of_same (same_upd nr)).trans (Mut.upd (List.mem_cons_of_mem _ List.mem_cons_self))
            rw [take_succ_get hxj]
            refine pairSnoc (Paired.mapP hR fun _ _ z => z.same (hideN_mono M fun _ h => h)) ⟨r, rfl, hideN_of ((s1.trans (s2.trans s4)).free nr) (fun z => ?_) ((upd_ne nrl).trans upd_same)⟩
            simp only [List.mem_cons, List.not_mem_nil, or_false] at z
            rcases z with z | z
            · exact nrf z
            · exact nrl z
          · show ns.length - ((m : Int) + 1 + (xs[j].length : Int)).toNat < ns.length - (m : Int).toNat
            omega
        · have ej : j = xs.length := by omega
          subst ej
          rw [List.drop_length] at hdm
          rw [List.take_length] at hR
          have hdm' : ns.drop m = PyWide.put (cs.drop (k + 1)) := hdm
          have ef2 := s4 _ _ (s2 _ _ ef)
          refine ⟨_, rfl, .inl ⟨rfl, _, SqL.of ef2⟩, _, rfl, _, rfl, _, rfl, (by show 3 ≤ sizeLine; decide), fun T nT => ?_⟩
          have lu : us.length = k := by
            rw [pairLen hP, List.length_take]
            omega
          have Tf : T ≠ fo := (ne_of_none ef2 nT).symm
          refine ⟨fo, us, _, rfl, rfl, (upd_ne Tf.symm).trans ef2, small_of (by omega), ?_⟩
          have S5 : Same H2 (upd H2 T (.tup [.int p, .ref b, .ref li])) := same_upd nT
          have M5 : Mut [fo] H2 (upd (upd H2 T (.tup [.int p, .ref b, .ref li])) fo (.lst (us ++ [.ref T]))) := (Mut.of_same S5).trans (Mut.upd List.mem_cons_self)
          have M6 : Mut [fo] H1 (upd (upd H2 T (.tup [.int p, .ref b, .ref li])) fo (.lst (us ++ [.ref T]))) := (Mut.of_same (s2.trans s4)).trans M5
          have nf : ∀ {c : Addr}, c ≠ fo → c ∉ [fo] := fun h z => h (List.mem_singleton.mp z)
          refine ⟨⟨k + 1, m, _, _, _, _, _, us ++ [.ref T], rfl, ?_, hkc, hm, hdm', upd_same, ?_⟩, ?_⟩
          · intro c o e
            exact M6 c o (s1 c o e) (nf (ne_of_none e nfo))
          · rw [take_succ_get hck]
            refine pairSnoc (Paired.mapP hP fun _ _ z => z.same (hideN_mono M6 fun _ h => h)) ⟨T, b, li, p, nums, xs, rfl, rfl, ?_, ?_, rs, ?_, ?_⟩
            · exact SqT.of (hideN_of ((s1.trans (s2.trans s4)).free nT) (nf Tf) ((upd_ne Tf).trans upd_same))
            · exact SqL.of (hideN_of (s1.free nb) (nf bf) (M5 _ _ (s4 _ _ upd_same) (nf bf)))
            · exact SqL.of (hideN_of (s1.free nli1) (nf lf) (M5 _ _ el (nf lf)))
            · refine Paired.mapP hR fun _ _ z => z.same (hideN_mono (fun c o e n => M5 c o e fun z => n (by rw [List.mem_singleton.mp z]; exact List.mem_cons_self)) fun c hc => by rw [List.mem_singleton.mp hc]; exact List.mem_cons_self)
          · show ns.length - (m : Int).toNat < ns.length - (i : Int).toNat
            omega
      · rintro σ H' Q1 Q2 hQ ⟨v, h1, p', ys, h3, h4, v0, h2, v1, h5, p2, ys2, i2, v2, h6, h7, h8, h9, i3, j3, h10, h11, k3, h12, h13⟩
        exact ⟨v, h1, p', ys, h3, h4, v0, h2, v1, h5, p2, ys2, i2, v2, h6, h7, h8, h9, i3, j3, h10, h11, k3, h12, hQ _ _ h13⟩
    · have hin : i = ns.length := by omega
      have hkc : k = cs.length := by
        refine Nat.le_antisymm hk (Nat.le_of_not_lt fun z => ?_)
        rw [hin, List.drop_length] at hd
        have hck : cs[k]? = some cs[k] := List.getElem?_eq_getElem z
        rw [drop_get hck] at hd
        have h2 := put_pos (hcs _ (List.getElem_mem z))
        have := congrArg List.length hd
        rw [PyWide.put, List.length_append] at this
        simp at this
        omega
      rw [hkc, List.take_length] at hP
      exact ⟨_, rfl, q H1 fo us s1 nfo ef hP⟩
  · rintro σ H' Q1 Q2 hQ ⟨v, h1, v0, h2, p, ys, h3, h4, i, j, h5, h6, k, h7, h8⟩
    exact ⟨v, h1, v0, h2, p, ys, h3, h4, i, j, h5, h6, k, h7, hQ _ _ h8⟩
end
end Gk
namespace Gk
open PySem PySem.Spec PyProof.Rows L2
open Mu51 (Pt Mix State Text)

/-! ### how long an answer is -/
theorem flat_len {α : Type} (f : α → List Int) (h : ∀ a, (f a).length ≤ 3) : ∀ (m : List α), (m.flatMap f).length ≤ 3 * m.length
  | [] => Nat.zero_le _
  | a :: m => by
    have h1 := h a
    have ih := flat_len f h m
    rw [List.flatMap_cons, List.length_append, List.length_cons]
    omega
theorem look_len {α : Type} (f : α → List Int) (h : ∀ a, (f a).length ≤ 3) {m : List α} {l : List Int} {a b : Int} (hm : m.length ≤ 4) (hl : l.length ≤ 4) : (a :: m.flatMap f ++ b :: l).length ≤ 100 := by
  have := flat_len f h m
  simp only [List.cons_append, List.length_cons, List.length_append]
  omega
def GoodO : Option State → Prop
  | none => True
  | some s => GoodS s
theorem OAt.good {K : PySem.W.Frag} {CC : Addr} {H : Hp} {x t : Addr} {S : List Addr} {o : Option State} (c : OAt K CC H x t S o) : GoodO o := by
  cases o with
  | none => trivial
  | some s => exact c.2
theorem needs_len (n : Nat) (t : Text) : (Mu51.needs n t).length ≤ n := by
  unfold Mu51.needs
  have := List.length_filter_le (fun (k : Nat) => (Mu51.mix n t).getD k ⟨0, 0⟩ != ⟨0, 0⟩) (List.range n)
  rw [List.length_range] at this
  exact this
theorem ans_len {o : Option State} (g : GoodO o) (c : Mu51.Call) : (Mu51.step o c).2.length ≤ 100 := by
  cases o with
  | none =>
    cases c <;> simp only [Mu51.step] <;> try (simp; done)
    split
    · simp
    · split <;> simp
  | some s =>
    have m4 : s.marks.length ≤ 4 := GoodS.m4 g
    have t4 : s.texts.length ≤ 4 := GoodS.t4 g
    cases c with
    | begin_ l =>
      simp only [Mu51.step]
      split
      · simp
      · split <;> simp
    | text l =>
      simp only [Mu51.step]
      split
      · simp
      · split
        · simp
        · split
          · simp
          · split
            · simp
            · split <;> simp
    | treasure t =>
      simp only [Mu51.step]
      split
      · simp
      · split
        · simp
        · have := both_len (Mu51.treasure (Mu51.places s) ‹Text›) Mu51.PARTS
          rw [List.length_cons]
          omega
    | needs t =>
      simp only [Mu51.step]
      split
      · simp
      · rename_i x _
        have := needs_len (Mu51.many s) x
        have hm : Mu51.many s ≤ 4 := m4
        simp [Mu51.nums]
        omega
    | mix t k =>
      simp only [Mu51.step]
      split
      · simp
      · split
        · simp
        · rename_i x _ _
          have := both_len ((Mu51.mix (Mu51.many s) x).getD k ⟨0, 0⟩) Mu51.PARTS
          rw [List.length_cons]
          omega
    | same t u =>
      simp only [Mu51.step]
      split
      · split <;> simp
      · simp
    | lost t k x y =>
      simp only [Mu51.step]
      split
      · simp
      · split
        · simp
        · split
          · simp
          · split
            · simp
            · rename_i v _ _ _ _ _
              have := both_len (Mu51.lost (Mu51.many s) v (Mu51.places s) k ⟨x, y⟩).1 (Mu51.lost (Mu51.many s) v (Mu51.places s) k ⟨x, y⟩).2
              rw [List.length_cons]
              omega
    | line t k a b c d =>
      simp only [Mu51.step]
      split
      · simp
      · split
        · simp
        · split
          · simp
          · rename_i v _ _ _ _
            have h1 := both_len (Mu51.treasure ((Mu51.places s).set k ⟨a, b⟩) v) Mu51.PARTS
            have h2 := both_len (Mu51.treasure ((Mu51.places s).set k ⟨c, d⟩) v) Mu51.PARTS
            simp only [List.cons_append, List.length_cons, List.length_append]
            omega
    | apart t u =>
      simp only [Mu51.step]
      split
      · split <;> simp
      · simp
    | move k x y =>
      simp only [Mu51.step]
      split <;> simp
    | gone k =>
      simp only [Mu51.step]
      split <;> simp
    | look =>
      simp only [Mu51.step]
      exact look_len _ (fun a => by cases a <;> simp) m4 (by rw [List.length_map]; exact t4)

section
variable {P : Program} {w : World} {K : PySem.W.Frag} {mg : Str → Option Value} {base : Heap} {aN aS aM CF CC : Addr}

/-! ### answer_call: what it promises -/
def sp_answer_call (K : PySem.W.Frag) (CC : Addr) : Sp := fun vs H Q _ => ∃ (x t b d : Addr) (S : List Addr) (o : Option State) (p : Int) (nums : List Int) (xs : List (List Int)) (c : Mu51.Call), vs = [.ref x, .int p, .ref b, .ref d] ∧ OAt K CC H x t S o ∧ SqL K H b (nums.map V.int) ∧ Rows1 K (hide H (x :: t :: S)) d xs ∧
  (∀ b ∈ S, H b ≠ none) ∧ AskC p nums xs c ∧ ToldS K CC x t S H Q (Mu51.step o c)

/-! ### answers -/
abbrev s_answers : Stmt := topS 79
theorem sc_answers : FnScope ["calls", "chart", "told", "call", "answer"] ["calls"] (defScope s_answers) := ⟨rfl, rfl, rfl, by decide +kernel, rfl, by decide +kernel, by decide +kernel⟩
def sp_answers (K : PySem.W.Frag) : Sp := fun vs H Q _ => ∃ (a : Addr) (ns : List Int), vs = [.ref a] ∧ SqL K H a (ns.map V.int) ∧ ns.length ≤ 6200 ∧ PyMu51.answers_asked ns = true ∧
  ∀ (H' : Hp) (p : Addr), H' p = some (.lst ((PyMu51.answers ns).map V.int)) → Q (.ref p) H'
theorem ok_answers {f : Addr} {fd : FuncData} {k : Nat} (F : Fun K "answers" "answers" s_answers f fd) (T : Txt K mg aN aS aM)
    (C_Chart : CalN P w K mg base 1 "Chart" CC ["self"] (sp_Chart K CC)) (C_read_calls : Cal P w K mg base 1 "read_calls" ["calls"] (sp_read_calls K))
    (C_answer_call : Cal P w K mg base 7 "answer_call" ["chart", "number", "numbers", "lists"] (sp_answer_call K CC)) :
    FnOk P w K mg base CX0 (k + 8) f fd ["calls"] (sp_answers K) := by
  refine F.ok sc_answers (fun vs H Q E h => ?_) (fun cdv A outer s H vs Q E hr h => ?_)
  · obtain ⟨a, ns, rfl, _⟩ := h
    rfl
  obtain ⟨a, ns, rfl, hL, hlen, hask, q⟩ := h
  refine ⟨_, (pss_cons (ps_set (i := 1) sc_answers.nd rfl (Or.inl rfl) (pmake0 C_Chart (hr.mono (by omega)) rfl))
      (pss_cons (ps_set (i := 2) sc_answers.nd rfl (Or.inl rfl) (pe_lst pa_nil))
      (pss_cons (ps_for PassesOwn.never rfl (pi_list (pcall C_read_calls (hr.mono (by omega)) rfl (pa_cons (pv 0) pa_nil))) (pg_name (i := 3) sc_answers.nd rfl (Or.inl rfl))
        (pss_cons (ps_set (i := 4) sc_answers.nd rfl (Or.inl rfl) (pcall C_answer_call (hr.mono (by omega)) rfl (pa_cons (pv 1) (pa_cons (pe_ix ix_tup (pv 3) pe_int (fun _ _ => rfl)) (pa_cons (pe_ix ix_tup (pv 3) pe_int (fun _ _ => rfl)) (pa_cons (pe_ix ix_tup (pv 3) pe_int (fun _ _ => rfl)) pa_nil))))))
        (pss_cons (ps_expr (pe_bm PySem.F.plainAttrs_list PySem.F.slot_list_append PySem.F.type_list_append mt_append (pv 2) (pa_cons (pe_callB (call_lenK (K := K) rfl) (by rfl) T.len PySem.boot_len (pa_cons (pv 4) pa_nil)) pa_nil)))
        (pss_one (ps_expr (pe_bm PySem.F.plainAttrs_list PySem.F.slot_list_extend PySem.F.type_list_extend mt_extend (pv 2) (pa_cons (pv 4) pa_nil)))))))
      (pss_one (ps_ret (pv 2)))))), ?_⟩
  obtain ⟨cs, hcalls, h60, hask1⟩ := asked_of hask
  obtain ⟨hput, hok⟩ := PyWide.put_calls _ _ _ hcalls
  -- chart = Chart()
  intro x dx nx ndx nex
  refine ⟨x, dx, rfl, upd_same, fun H1 p t e1 ep et npx npt np nt M1 => ⟨rfl, ?_⟩⟩
  have S1 : Same H H1 := fun b o e => by
    refine M1 b o ?_ (fun h => ?_)
    · rw [upd_ne (ne_of_none e nx), upd_ne (ne_of_none e ndx)]
      exact e
    · obtain rfl := List.mem_singleton.mp h
      rw [nx] at e
      cases e
  have fresh0 : ∀ {b : Addr}, upd (upd H dx (.own x)) x (.ins CC dx []) b = none → H b = none := fun {b} h => by
    cases e : H b with
    | none => rfl
    | some o =>
      rw [upd_ne (ne_of_none e nx), upd_ne (ne_of_none e ndx), e] at h
      cases h
  have ntH := fresh0 nt
  -- told = []
  refine ⟨Nat.zero_le _, fun o no => ?_⟩
  have ox : o ≠ x := (ne_of_none e1 no).symm
  have ot : o ≠ t := (ne_of_none et no).symm
  have op : o ≠ p := (ne_of_none ep no).symm
  have S2 : Same H1 (upd H1 o (.lst [])) := same_upd no
  have S12 := S1.trans S2
  have noH : H o = none := S1.free no
  -- read_calls(calls)
  refine ⟨_, rfl, a, ns, cs, rfl, S12.seq hL, hlen, hput, hok, fun H3 fo us S3 nfo efo hP => ⟨fo, rfl, ⟨_, SqL.of efo⟩, ?_⟩⟩
  have S13 := S12.trans S3
  have lus := pairLen hP
  have tx : t ≠ x := fun z => by rw [z, e1] at et; cases et
  have mem3 : ∀ {b x t o : Addr}, b ∈ [x, t, o] → b = x ∨ b = t ∨ b = o := fun h => by
    simpa using h
  refine for_list (K := K) (a := fo) (xs := us) (fun i σ H' => ∃ t z3 z4, σ = [some (.ref a), some (.ref x), some (.ref o), z3, z4] ∧ Same H H' ∧ H' fo = some (.lst us) ∧ OAt K CC H' x t [o] (stAt cs i) ∧ H' o = some (.lst ((outAt cs i).map V.int)) ∧ (outAt cs i).length ≤ 101 * i ∧
      Paired (CallV K (hide H' [x, t, o])) us cs ∧ o ≠ x ∧ o ≠ t ∧ H t = none ∧ fo ∉ [x, t, o]) ?_ (fun i σ H' _ ⟨_, _, _, _, _, e, _⟩ => SqL.of e) ?_ ?_
  · have e1' := S3 _ _ (S2 _ _ e1)
    have ep' := S3 _ _ (S2 _ _ ep)
    have et' := S3 _ _ (S2 _ _ et)
    have eo' := S3 _ _ (upd_same (H := H1) (a := o) (o := .lst []))
    refine ⟨t, none, none, rfl, S13, efo, ⟨dx, p, [], e1', ⟨[], SqL.of (hide_of (fun z => ?_) ep'), .nil⟩, et', .nil⟩, eo', Nat.zero_le _, Paired.mapP hP fun _ _ z => z.same (hideN_hide fun b hb => ?_), ox, ot, ntH, fun z => ?_⟩
    · rcases mem3 z with z | z | z
      · exact npx z
      · exact npt z
      · exact op z.symm
    · right
      rcases mem3 hb with z | z | z <;> rw [z]
      · rw [S2 _ _ e1]
        exact fun z => by cases z
      · rw [S2 _ _ et]
        exact fun z => by cases z
      · rw [upd_same]
        exact fun z => by cases z
    · rcases mem3 z with z | z | z <;> rw [z] at nfo
      · rw [S2 _ _ e1] at nfo
        cases nfo
      · rw [S2 _ _ et] at nfo
        cases nfo
      · rw [upd_same] at nfo
        cases nfo
  · rintro i v σ H4 hv ⟨t4, z3, z4, rfl, S4, ef4, O4, eo4, lo4, hP4, ox4, ot4, ht4, nf4⟩
    obtain ⟨c, hc, Tt, b, d, pn, nums, xs, rfl, rfl, hT, hb, hd⟩ := pairGet hP4 hv
    have hil : i < cs.length := (List.getElem?_eq_some_iff.mp hc).1
    obtain ⟨call, hA, hcall⟩ := ask_of (hask1 _ (List.mem_of_getElem? hc))
    have hs4 : Same (hide H4 [x, t4, o]) H4 := hide_same _ _
    have hT4 := sameTup hs4 hT
    have estep : Mu51Neutral.step (stAt cs i) ((pn :: nums) :: xs) = Mu51.step (stAt cs i) call := by
      unfold Mu51Neutral.step
      rw [hcall]
    refine ⟨_, rfl, _, rfl, Tt, _, 0, _, rfl, rfl, hT4, atI_nat (j := 0) (v := V.int pn) rfl, _, rfl, Tt, _, 1, _, rfl, rfl, hT4, atI_nat (j := 1) (v := V.ref b) rfl, _, rfl, Tt, _, 2, _, rfl, rfl, hT4, atI_nat (j := 2) (v := V.ref d) rfl, ?_⟩
    refine ⟨x, t4, b, d, [o], stAt cs i, pn, nums, xs, call, rfl, O4, hs4.seq hb, hd, (fun b hb => by rw [List.mem_singleton.mp hb, eo4]; exact fun z => nomatch z), hA, fun H5 r t5 M5 ht5 O5 nr er => ?_⟩
    have al := ans_len O4.good call
    have om : o ∉ [x, t4] := fun z => by
      simp only [List.mem_cons, List.not_mem_nil, or_false] at z
      rcases z with z | z
      · exact ox4 z
      · exact ot4 z
    have eo5 := M5 _ _ eo4 om
    have ro : r ≠ o := (ne_of_none eo4 nr).symm
    have out := outAt_succ hc
    rw [estep] at out
    refine ⟨_, rfl, .inl ⟨rfl, _, SqL.of eo5⟩, _, rfl, r, _, rfl, .inl (SqL.of er), o, _, _, rfl, rfl, eo5, small_of (by rw [List.length_map]; omega), ?_⟩
    refine ⟨_, rfl, .inl ⟨rfl, _, SqL.of upd_same⟩, _, rfl, o, r, _, _, rfl, rfl, upd_same, (upd_ne ro).trans er, ?_, ?_⟩
    · refine Nat.le_of_lt (small_of ?_)
      rw [List.length_append, List.length_map, List.length_map, List.length_singleton]
      omega
    have M6 : Mut [o] H5 (upd (upd H5 o (.lst ((outAt cs i).map V.int ++ [.int (((Mu51.step (stAt cs i) call).2.map V.int).length : Nat)]))) o (.lst ((outAt cs i).map V.int ++ [.int (((Mu51.step (stAt cs i) call).2.map V.int).length : Nat)] ++ (Mu51.step (stAt cs i) call).2.map V.int))) := (Mut.upd List.mem_cons_self).trans (Mut.upd List.mem_cons_self)
    have no1 : ∀ {b : Addr}, b ≠ o → b ∉ [o] := fun h z => h (List.mem_singleton.mp z)
    have t5o : o ≠ t5 := by
      rcases ht5 with rfl | h
      · exact ot4
      · exact ne_of_none eo4 h
    have t5H : H t5 = none := by
      rcases ht5 with rfl | h
      · exact ht4
      · exact S4.free h
    have keep : ∀ b u, H4 b = some u → b ∉ [x, t4, o] → upd (upd H5 o (.lst ((outAt cs i).map V.int ++ [.int (((Mu51.step (stAt cs i) call).2.map V.int).length : Nat)]))) o (.lst ((outAt cs i).map V.int ++ [.int (((Mu51.step (stAt cs i) call).2.map V.int).length : Nat)] ++ (Mu51.step (stAt cs i) call).2.map V.int)) b = some u := fun b u e n => by
      have h1 : b ∉ [x, t4] := fun z => n (by
        simp only [List.mem_cons, List.not_mem_nil, or_false] at z ⊢
        rcases z with z | z
        · exact .inl z
        · exact .inr (.inl z))
      have h2 : b ≠ o := fun z => n (by rw [z]; exact List.mem_cons_of_mem _ (List.mem_cons_of_mem _ List.mem_cons_self))
      exact M6 b u (M5 b u e h1) (no1 h2)
    have sub5 : ∀ b ∈ [x, t5, o], b ∈ [x, t4, o] ∨ H4 b = none := fun b hb => by
      rcases mem3 hb with z | z | z
      · exact .inl (by rw [z]; exact List.mem_cons_self)
      · rcases ht5 with h | h
        · exact .inl (by rw [z, h]; exact List.mem_cons_of_mem _ List.mem_cons_self)
        · exact .inr (by rw [z]; exact h)
      · exact .inl (by rw [z]; exact List.mem_cons_of_mem _ (List.mem_cons_of_mem _ List.mem_cons_self))
    refine ⟨t5, _, _, rfl, fun b u e => keep b u (S4 b u e) (fun z => ?_), keep _ _ ef4 nf4, ?_, ?_, ?_, Paired.mapP hP4 fun _ _ z => z.same (hide_mono keep sub5), ox4, t5o, t5H, fun z => ?_⟩
    · rcases mem3 z with z | z | z <;> rw [z] at e
      · rw [nx] at e; cases e
      · rw [ht4] at e; cases e
      · rw [noH] at e; cases e
    · -- the map
      rw [stAt_succ hc, estep]
      have S6 : Same (hide H5 (x :: t5 :: [o])) (hide (upd (upd H5 o (.lst ((outAt cs i).map V.int ++ [.int (((Mu51.step (stAt cs i) call).2.map V.int).length : Nat)]))) o (.lst ((outAt cs i).map V.int ++ [.int (((Mu51.step (stAt cs i) call).2.map V.int).length : Nat)] ++ (Mu51.step (stAt cs i) call).2.map V.int))) (x :: t5 :: [o])) := hide_mono (fun b u e n => M6 b u e fun z => n (by rw [List.mem_singleton.mp z]; exact List.mem_cons_of_mem _ (List.mem_cons_of_mem _ List.mem_cons_self))) fun _ h => .inl h
      have cc : ∀ {pl tx}, ChartAt K CC H5 x t5 [o] pl tx → ChartAt K CC (upd (upd H5 o (.lst ((outAt cs i).map V.int ++ [.int (((Mu51.step (stAt cs i) call).2.map V.int).length : Nat)]))) o (.lst ((outAt cs i).map V.int ++ [.int (((Mu51.step (stAt cs i) call).2.map V.int).length : Nat)] ++ (Mu51.step (stAt cs i) call).2.map V.int))) x t5 [o] pl tx := fun {pl tx} ⟨dx, p, vs, D⟩ =>
        ⟨dx, p, vs, M6 _ _ D.e1 (no1 ox4.symm), D.pl.same S6, M6 _ _ D.e2 (no1 t5o.symm), Paired.mapP D.tx fun _ _ ⟨b, z, r⟩ => ⟨b, z, r.same S6⟩⟩
      cases hst : (Mu51.step (stAt cs i) call).1 with
      | none =>
        rw [hst] at O5
        exact cc O5
      | some s' =>
        rw [hst] at O5
        exact ⟨cc O5.1, O5.2⟩
    · rw [out, upd_same, List.map_append, List.map_cons, List.append_assoc, List.length_map]
      rfl
    · rw [out, List.length_append, List.length_cons]
      omega
    · rcases mem3 z with z | z | z
      · exact nf4 (by rw [z]; exact List.mem_cons_self)
      · rcases ht5 with h | h
        · exact nf4 (by rw [z, h]; exact List.mem_cons_of_mem _ List.mem_cons_self)
        · rw [← z, ef4] at h
          cases h
      · exact nf4 (by rw [z]; exact List.mem_cons_of_mem _ (List.mem_cons_of_mem _ List.mem_cons_self))
  · rintro σ H4 ⟨t4, z3, z4, rfl, S4, ef4, O4, eo4, lo4, hP4, ox4, ot4, ht4, nf4⟩
    refine ⟨_, rfl, q H4 o ?_⟩
    rw [lus] at eo4
    rw [answers_eq hcalls]
    exact eo4
end
end Gk
namespace Gk
open PySem PySem.Spec PyProof.Rows L2
open Mu51 (Pt Mix State Text)

/-! ### sizes -/
theorem mix_sz {n : Nat} {t : Text} (G : GoodT n t) : ∀ p ∈ Mu51.mix n t, p.x.natAbs ≤ 4 ^ 14 * 256 ∧ p.y.natAbs ≤ 4 ^ 14 * 256 := by
  have h := (walkAt_gd (n := n) G.hv G.on G.ln t.length).here.sz
  rw [walkAt_all] at h
  exact h
theorem ev_sz {B C : Nat} : ∀ (m : Mix) (l : List Pt), (∀ p ∈ m, p.x.natAbs ≤ B ∧ p.y.natAbs ≤ B) → (∀ p ∈ l, p.x.natAbs ≤ C ∧ p.y.natAbs ≤ C) → (ev m l).x.natAbs ≤ m.length * (2 * (B * C)) ∧ (ev m l).y.natAbs ≤ m.length * (2 * (B * C))
  | [], l, _, _ => by
    cases l <;> exact ⟨Nat.zero_le _, Nat.zero_le _⟩
  | a :: m, [], _, _ => ⟨Nat.zero_le _, Nat.zero_le _⟩
  | a :: m, p :: l, h, k => by
    have ih := ev_sz m l (fun q hq => h q (List.mem_cons_of_mem _ hq)) (fun q hq => k q (List.mem_cons_of_mem _ hq))
    have ha := h a List.mem_cons_self
    have hp := k p List.mem_cons_self
    have h1 : (a.x * p.x).natAbs ≤ B * C := by rw [Int.natAbs_mul]; exact Nat.mul_le_mul ha.1 hp.1
    have h2 : (a.y * p.y).natAbs ≤ B * C := by rw [Int.natAbs_mul]; exact Nat.mul_le_mul ha.2 hp.2
    have h3 : (a.x * p.y).natAbs ≤ B * C := by rw [Int.natAbs_mul]; exact Nat.mul_le_mul ha.1 hp.2
    have h4 : (a.y * p.x).natAbs ≤ B * C := by rw [Int.natAbs_mul]; exact Nat.mul_le_mul ha.2 hp.1
    show (a.x * p.x - a.y * p.y + (ev m l).x).natAbs ≤ _ ∧ (a.x * p.y + a.y * p.x + (ev m l).y).natAbs ≤ _
    rw [List.length_cons, Nat.succ_mul]
    generalize m.length * (2 * (B * C)) = N at ih ⊢
    generalize a.x * p.x = u1 at h1 ⊢
    generalize a.y * p.y = u2 at h2 ⊢
    generalize a.x * p.y = u3 at h3 ⊢
    generalize a.y * p.x = u4 at h4 ⊢
    omega
theorem places_sz {s : State} (g : GoodS s) : ∀ p ∈ Mu51.places s, p.x.natAbs ≤ 1000 ∧ p.y.natAbs ≤ 1000 := fun p hp => by
  unfold Mu51.places at hp
  obtain ⟨o, ho, rfl⟩ := List.mem_map.mp hp
  cases o with
  | none => exact ⟨by decide, by decide⟩
  | some q =>
    have := g.nr q ho
    show q.x.natAbs ≤ 1000 ∧ q.y.natAbs ≤ 1000
    omega
theorem sq_big {n : Nat} (h : n ≤ 2 ^ 80) : n < 2 ^ 8999 := Nat.lt_of_le_of_lt h (Nat.pow_lt_pow_right (a := 2) (m := 80) (n := 8999) (by decide) (by decide))
theorem sq_le {a : Int} (h : a.natAbs ≤ 4 ^ 14 * 256) : 0 ≤ a * a ∧ (a * a).natAbs ≤ 2 ^ 72 := by
  refine ⟨?_, ?_⟩
  · rcases Int.le_total 0 a with c | c
    · exact Int.mul_nonneg c c
    · exact Int.mul_nonneg_of_nonpos_of_nonpos c c
  · rw [Int.natAbs_mul]
    have h' : a.natAbs ≤ 2 ^ 36 := h
    have h2 : a.natAbs * a.natAbs ≤ 2 ^ 36 * 2 ^ 36 := Nat.mul_le_mul h' h'
    exact Nat.le_trans h2 (by decide)
theorem sq_pos {a b : Int} (h : ¬ (a = 0 ∧ b = 0)) (ha : 0 ≤ a * a) (hb : 0 ≤ b * b) : 0 < a * a + b * b := by
  by_cases c : a = 0
  · have : b ≠ 0 := fun z => h ⟨c, z⟩
    have h1 : b * b ≠ 0 := Int.mul_ne_zero this this
    omega
  · have h1 : a * a ≠ 0 := Int.mul_ne_zero c c
    omega

/-! ### what the others tell -/
theorem pt_times_zero (a : Pt) : Pt.times a ⟨0, 0⟩ = ⟨0, 0⟩ := Pt.ext' (by simp [Pt.times]) (by simp [Pt.times])
theorem pt_times_comm (a b : Pt) : Pt.times a b = Pt.times b a := Pt.ext' (by simp only [Pt.times]; rw [Int.mul_comm a.x, Int.mul_comm a.y]) (by simp only [Pt.times]; rw [Int.mul_comm a.x, Int.mul_comm a.y]; omega)
theorem sum_set (m : Mix) (l : List Pt) (k : Nat) : ∀ (ks : List Nat) (b : Pt), (ks.filter fun (i : Nat) => i != k).foldl (fun (a : Pt) (i : Nat) => a.add ((m.getD i ⟨0, 0⟩).times (l.getD i ⟨0, 0⟩))) b = ks.foldl (fun (a : Pt) (i : Nat) => a.add ((m.getD i ⟨0, 0⟩).times ((l.set k ⟨0, 0⟩).getD i ⟨0, 0⟩))) b
  | [], _ => rfl
  | i :: r, b => by
    by_cases c : i = k
    · have e : (i != k) = false := by simp [c]
      have z : (l.set k ⟨0, 0⟩).getD i ⟨0, 0⟩ = ⟨0, 0⟩ := by
        rw [c, List.getD_eq_getElem?_getD]
        by_cases h : k < l.length
        · rw [List.getElem?_set_self h]
          rfl
        · rw [List.getElem?_eq_none (by rw [List.length_set]; omega)]
          rfl
      rw [List.filter_cons, e, List.foldl_cons, z, pt_times_zero, pt_add_zero]
      exact sum_set m l k r b
    · have e : (i != k) = true := by simpa using c
      have z : (l.set k ⟨0, 0⟩).getD i ⟨0, 0⟩ = l.getD i ⟨0, 0⟩ := by
        rw [List.getD_eq_getElem?_getD, List.getD_eq_getElem?_getD, List.getElem?_set_ne (Ne.symm c)]
      rw [List.filter_cons, e, if_pos rfl, List.foldl_cons, List.foldl_cons, z]
      exact sum_set m l k r _
theorem others_eq (m : Mix) (l : List Pt) (k : Nat) (h : m.length = l.length) : Mu51.others m l k = ev m (l.set k ⟨0, 0⟩) := by
  rw [← sum_all m (l.set k ⟨0, 0⟩) (by rw [List.length_set]; exact h)]
  exact sum_set m l k _ _
theorem lost_eq {n : Nat} {t : Text} {l : List Pt} {k : Nat} {c : Pt} (f : Pt) (hc : (Mu51.mix n t).getD k ⟨0, 0⟩ = c) (h : (Mu51.mix n t).length = l.length) :
    Mu51.lost n t l k f = (Pt.times (Pt.sub (Pt.by_ Mu51.PARTS f) (ev (Mu51.mix n t) (l.set k ⟨0, 0⟩))) ⟨c.x, -c.y⟩, c.x * c.x + c.y * c.y) := by
  unfold Mu51.lost
  rw [others_eq _ _ _ h, hc, pt_times_comm]
theorem contains_need {m : Mix} {k : Nat} (h : k < m.length) : (needL m).contains k = (m.getD k ⟨0, 0⟩ != ⟨0, 0⟩) := by
  unfold needL
  rw [Bool.eq_iff_iff, List.contains_iff_mem, List.mem_filter, List.mem_range]
  exact ⟨fun z => z.2, fun z => ⟨h, z⟩⟩
theorem near_of {a b : Int} (h : (Mu51.near a && Mu51.near b) = true) : (-1000 ≤ a ∧ a ≤ 1000) ∧ (-1000 ≤ b ∧ b ≤ 1000) := by
  simp only [Mu51.near, Mu51.FAR, Bool.and_eq_true] at h
  exact ⟨⟨of_decide_eq_true h.1.1, of_decide_eq_true h.1.2⟩, ⟨of_decide_eq_true h.2.1, of_decide_eq_true h.2.2⟩⟩
theorem pairSet {α β : Type} {F : α → β → Prop} : ∀ {xs : List α} {ys : List β} {i : Nat} {x : α} {y : β}, Paired F xs ys → F x y → Paired F (xs.set i x) (ys.set i y)
  | _, _, _, _, _, .nil, _ => .nil
  | _, _, 0, _, _, .cons _ t, h => .cons h t
  | _, _, i + 1, _, _, .cons r t, h => .cons r (pairSet (i := i) t h)

section
variable {P : Program} {w : World} {K : PySem.W.Frag} {mg : Str → Option Value} {base : Heap} {aN aS aM CF CC : Addr}

/-! ### lost -/
abbrev s_lost : Stmt := topS 71
theorem sc_lost : FnScope ["chart", "text", "landmark", "found", "shares", "share", "places", "refusal", "others", "missing", "stood"] ["chart", "text", "landmark", "found"] (defScope s_lost) := ⟨rfl, rfl, rfl, by decide +kernel, rfl, by decide +kernel, by decide +kernel⟩
def sp_lost (K : PySem.W.Frag) (CC : Addr) : Sp := fun vs H Q _ => ∃ (x t b : Addr) (S : List Addr) (s : State) (i j : Nat) (fx fy : Int), vs = [.ref x, .int i, .int j, .ref b] ∧ SAt K CC H x t S s ∧ SqL K H b [.int fx, .int fy] ∧ Told H Q (Mu51.step (some s) (.lost i j fx fy)).2
theorem ok_lost {f : Addr} {fd : FuncData} {k : Nat} (F : Fun K "lost" "lost" s_lost f fd) (T : Txt K mg aN aS aM)
    (C_has_text : Cal P w K mg base 1 "has_text" ["chart", "text"] (sp_has_text K CC)) (C_has_landmark : Cal P w K mg base 1 "has_landmark" ["chart", "landmark"] (sp_has_landmark K CC))
    (C_is_place : Cal P w K mg base 1 "is_place" ["numbers"] (sp_is_place K)) (C_treasure_shares : Cal P w K mg base 5 "treasure_shares" ["chart", "text"] (sp_treasure_shares K CC))
    (C_places_with : Cal P w K mg base 1 "places_with" ["chart", "landmark", "place"] (sp_places_with K CC)) (C_refusal_if_gone : Cal P w K mg base 2 "refusal_if_gone" ["places", "shares"] (sp_refusal_if_gone K))
    (C_treasure_in_parts : Cal P w K mg base 2 "treasure_in_parts" ["places", "shares"] (sp_treasure_in_parts K)) (C_product : Cal P w K mg base 1 "product" ["pair", "other"] (sp_product K))
    (C_in_lowest_terms : Cal P w K mg base 2 "in_lowest_terms" ["numbers"] (sp_in_lowest_terms K)) :
    FnOk P w K mg base CX0 (k + 6) f fd ["chart", "text", "landmark", "found"] (sp_lost K CC) := by
  refine F.ok sc_lost (fun vs H Q E h => ?_) (fun cdv A outer s H vs Q E hr h => ?_)
  · obtain ⟨x, t, b, S, s, i, j, fx, fy, rfl, _⟩ := h
    rfl
  obtain ⟨x, t, b, S, s, i, j, fx, fy, rfl, ⟨C, G⟩, hb, q⟩ := h
  refine ⟨_, (pss_cons (ps_if (pt_not (pt_val (pcall C_has_text (hr.mono (by omega)) rfl (pa_cons (pv 0) (pa_cons (pv 1) pa_nil))))) (pss_one (ps_ret (pe_lst (pa_cons (pgI rfl T.gNO_TEXT) pa_nil))))
        pss_nil)
      (pss_cons (ps_if (PW.pt (pw_or (pt_not (pt_val (pcall C_has_landmark (hr.mono (by omega)) rfl (pa_cons (pv 0) (pa_cons (pv 2) pa_nil))))) (pw_or1 (pt_not (pt_val (pcall C_is_place (hr.mono (by omega)) rfl (pa_cons (pv 3) pa_nil))))))) (pss_one (ps_ret (pe_lst (pa_cons (pgI rfl T.gWRONG) pa_nil))))
        pss_nil)
      (pss_cons (ps_set (i := 4) sc_lost.nd rfl (Or.inl rfl) (pcall C_treasure_shares (hr.mono (by omega)) rfl (pa_cons (pv 0) (pa_cons (pv 1) pa_nil))))
      (pss_cons (ps_set (i := 5) sc_lost.nd rfl (Or.inl rfl) (pe_ix ix_list (pv 4) (pv 2) (fun _ _ => rfl)))
      (pss_cons (ps_if (pt_cmpR (op_eqDK (K := K) rfl hr.units) (pv 5) (pgR rfl T.gNOTHING) (nomark _)) (pss_one (ps_ret (pe_lst (pa_cons (pgI rfl T.gNOT_NEEDED) pa_nil))))
        pss_nil)
      (pss_cons (ps_set (i := 6) sc_lost.nd rfl (Or.inl rfl) (pcall C_places_with (hr.mono (by omega)) rfl (pa_cons (pv 0) (pa_cons (pv 2) (pa_cons (pgR rfl T.gMIDDLE) pa_nil)))))
      (pss_cons (ps_set (i := 7) sc_lost.nd rfl (Or.inl rfl) (pcall C_refusal_if_gone (hr.mono (by omega)) rfl (pa_cons (pv 6) (pa_cons (pv 4) pa_nil))))
      (pss_cons (ps_if (pt_cmpR op_gt (pe_callB (call_lenK (K := K) rfl) (by rfl) T.len PySem.boot_len (pa_cons (pv 7) pa_nil)) pe_int (nomark _)) (pss_one (ps_ret (pv 7)))
        pss_nil)
      (pss_cons (ps_set (i := 8) sc_lost.nd rfl (Or.inl rfl) (pcall C_treasure_in_parts (hr.mono (by omega)) rfl (pa_cons (pv 6) (pa_cons (pv 4) pa_nil))))
      (pss_cons (ps_set (i := 9) sc_lost.nd rfl (Or.inl rfl) (pe_tup (pa_cons (pe_op op_sub (pe_op op_mul (pgI rfl T.gPARTS) (pe_ix ix_list (pv 3) pe_int (fun _ _ => rfl))) (pe_ix ix_tup (pv 8) pe_int (fun _ _ => rfl))) (pa_cons (pe_op op_sub (pe_op op_mul (pgI rfl T.gPARTS) (pe_ix ix_list (pv 3) pe_int (fun _ _ => rfl))) (pe_ix ix_tup (pv 8) pe_int (fun _ _ => rfl))) pa_nil))))
      (pss_cons (ps_set (i := 10) sc_lost.nd rfl (Or.inl rfl) (pcall C_product (hr.mono (by omega)) rfl (pa_cons (pv 9) (pa_cons (pe_tup (pa_cons (pe_ix ix_tup (pv 5) pe_int (fun _ _ => rfl)) (pa_cons (pe_un un_neg (pe_ix ix_tup (pv 5) pe_int (fun _ _ => rfl))) pa_nil))) pa_nil))))
      (pss_one (ps_ret (pe_op op_cat (pe_lst (pa_cons pe_int pa_nil)) (pcall C_in_lowest_terms (hr.mono (by omega)) rfl (pa_cons (pe_lst (pa_cons (pe_ix ix_tup (pv 10) pe_int (fun _ _ => rfl)) (pa_cons (pe_ix ix_tup (pv 10) pe_int (fun _ _ => rfl)) (pa_cons (pe_op op_add (pe_op op_mul (pe_ix ix_tup (pv 5) pe_int (fun _ _ => rfl)) (pe_ix ix_tup (pv 5) pe_int (fun _ _ => rfl))) (pe_op op_mul (pe_ix ix_tup (pv 5) pe_int (fun _ _ => rfl)) (pe_ix ix_tup (pv 5) pe_int (fun _ _ => rfl)))) pa_nil)))) pa_nil)))))))))))))))), ?_⟩
  refine ⟨_, rfl, _, rfl, x, t, S, _, _, i, rfl, C, _, rfl, ?_⟩
  rw [txOf_len]
  refine tNot' (fun c => ?_) (fun c => ?_)
  · have hi : s.texts[i]? = none := List.getElem?_eq_none (by have := of_decide_eq_false c; omega)
    have e : (Mu51.step (some s) (.lost i j fx fy)).2 = [-2] := by simp only [Mu51.step, hi]
    rw [e] at q
    exact ⟨(by show 1 ≤ sizeLine; decide), fun p n => q.lst n⟩
  obtain ⟨txt, hi⟩ : ∃ txt, s.texts[i]? = some txt := ⟨_, List.getElem?_eq_getElem (of_decide_eq_true c)⟩
  have GT := G.tx _ (List.mem_of_getElem? hi)
  have pl4 := plOf_len s
  have m4 := G.m4
  have ml := mix_len (n := s.marks.length) GT.hv GT.on
  have bad : (s.marks.length ≤ j ∨ (Mu51.near fx && Mu51.near fy) = false) → Told H Q [-1] := fun h => by
    have h' : Mu51.many s ≤ j ∨ (Mu51.near fx && Mu51.near fy) = false := h
    have e : (Mu51.step (some s) (.lost i j fx fy)).2 = [-1] := by simp only [Mu51.step, hi, if_pos h']
    rw [e] at q
    exact q
  refine ⟨_, rfl, _, rfl, x, t, S, _, _, j, rfl, C, _, rfl, ?_⟩
  rw [pl4]
  refine tNot' (fun d => ?_) (fun d => ?_)
  · exact iteT ⟨(by show 1 ≤ sizeLine; decide), fun p n => (bad (.inl (by have := of_decide_eq_false d; omega))).lst n⟩
  have hj : j < s.marks.length := of_decide_eq_true d
  refine ⟨_, rfl, b, [fx, fy], rfl, hb, (by show 2 ≤ 10000; decide), fun H1 s1 => ⟨_, rfl, ?_⟩⟩
  rw [place2]
  refine tNot' (fun nr => ?_) (fun nr => ?_)
  · exact ⟨(by show 1 ≤ sizeLine; decide), fun p n => ((bad (.inr nr)).same s1).lst n⟩
  have nb : ¬ (Mu51.many s ≤ j ∨ (Mu51.near fx && Mu51.near fy) = false) := by
    rintro (h | h)
    · have : s.marks.length ≤ j := h
      omega
    · rw [nr] at h
      cases h
  refine ⟨_, rfl, _, rfl, x, t, S, plOf s, txOf s, i, txt, rfl, C.same s1, txOf_get hi, by rw [pl4]; exact GT, by omega, fun H2 a s2 hM => ?_⟩
  rw [pl4] at hM
  have s12 := s1.trans s2
  obtain ⟨vs, hL, hP⟩ := id hM
  obtain ⟨pc, hmj⟩ : ∃ pc, (Mu51.mix s.marks.length txt)[j]? = some pc := ⟨_, List.getElem?_eq_getElem (by omega)⟩
  have hcd : (Mu51.mix s.marks.length txt).getD j ⟨0, 0⟩ = pc := getD_of hmj
  have csz := mix_sz GT pc (List.mem_of_getElem? hmj)
  obtain ⟨v, ev0, tt, rfl, htt⟩ := pairGetR hP hmj
  refine ⟨_, rfl, _, rfl, a, vs, _, _, rfl, rfl, hL, atI_nat ev0, ?_⟩
  refine ⟨_, rfl, _, _, dp_pt htt, dp_pt (T.nNOTHING.sq _), rfl, rfl, _, rfl, ?_⟩
  rw [eqv_pt]
  have hct : (Mu51.needs (Mu51.many s) txt).contains j = (pc != ⟨0, 0⟩) := by
    show (Mu51.needs s.marks.length txt).contains j = _
    rw [needs_eq ml, contains_need (by omega), hcd]
  refine tBool (fun z => ?_) (fun z => ?_)
  · have hz : (Mu51.needs (Mu51.many s) txt).contains j = false := by
      rw [hct]
      simp only [Bool.and_eq_true, decide_eq_true_eq] at z
      have : pc = ⟨0, 0⟩ := Pt.ext' z.1 z.2
      rw [this]
      rfl
    have e : (Mu51.step (some s) (.lost i j fx fy)).2 = [-7] := by simp only [Mu51.step, hi, if_neg nb, if_pos hz]
    rw [e] at q
    exact ⟨(by show 1 ≤ sizeLine; decide), fun p n => (q.same s12).lst n⟩
  have hz0 : ¬ (pc.x = 0 ∧ pc.y = 0) := fun h => by
    rw [decide_eq_true h.1, decide_eq_true h.2] at z
    cases z
  have hz : ¬ (Mu51.needs (Mu51.many s) txt).contains j = false := by
    rw [hct]
    intro h
    have : pc = ⟨0, 0⟩ := by simpa using h
    exact hz0 ⟨by rw [this], by rw [this]⟩
  obtain ⟨dx, p, us, D⟩ := C.same s12
  obtain ⟨ps, hps0, hpp0⟩ := D.pl
  have hs2 : Same (hide H2 (x :: t :: S)) H2 := hide_same _ _
  have lp : ps.length = s.marks.length := (pairLen hpp0).trans pl4
  refine ⟨_, rfl, _, rfl, x, t, S, plOf s, txOf s, dx, p, us, ps, j, .ref aM, rfl, D, hs2.seq hps0, by omega, fun H3 u s3 n3 e3 => ?_⟩
  have hW : RowsW K H3 u ((plOf s).set j [0, 0]) := ⟨_, SqL.of e3, pairSet (Paired.mapP hpp0 fun _ _ z => (z.same (hs2.trans s3)).wide) ⟨aM, rfl, .inr (T.nMIDDLE.sq _)⟩⟩
  have hl3 : (Mu51.mix s.marks.length txt).length = ((plOf s).set j [0, 0]).length := by rw [List.length_set, pl4, ml]
  refine ⟨_, rfl, _, rfl, u, a, _, _, rfl, hW, hM.same s3, hl3, by omega, fun H4 r s4 n4 e4 => ?_⟩
  rw [← goneL_but GT hj] at e4
  refine ⟨_, rfl, r, _, rfl, .inl (SqL.of e4), _, _, rfl, rfl, _, rfl, ?_⟩
  have s14 := (s12.trans s3).trans s4
  cases hlk : Mu51.lacks s txt j with
  | some g =>
    rw [hlk] at e4
    refine tDec (fun _ => ?_) (fun c => absurd c (by show ¬ ¬ ((0 : Int) < (2 : Int)); decide))
    have e : (Mu51.step (some s) (.lost i j fx fy)).2 = [-6, (g : Int)] := by simp only [Mu51.step, hi, if_neg nb, if_neg hz, hlk]
    rw [e] at q
    exact ⟨_, rfl, q H4 r s14 ((s12.trans s3).free n4) e4⟩
  | none =>
    rw [hlk] at e4
    refine tDec (fun c => absurd c (by show ¬ ((0 : Int) < (0 : Int)); decide)) (fun _ => ?_)
    have lpl := places_len s
    refine ⟨_, rfl, _, rfl, u, a, _, _, (Mu51.places s).set j ⟨0, 0⟩, rfl, hW.same s4, (hM.same s3).same s4, by rw [List.length_set, lpl, ml], by omega, stands_but G GT hj ⟨by decide, by decide⟩ ⟨by decide, by decide⟩ hlk, fun H5 o s5 n5 e5 => ?_⟩
    have hb5 := (s14.trans s5).seq hb
    have sD := lost_eq (n := s.marks.length) (t := txt) (l := Mu51.places s) (k := j) ⟨fx, fy⟩ hcd (by rw [lpl, ml])
    have e : (Mu51.step (some s) (.lost i j fx fy)).2 = 0 :: Mu51.both (Pt.times (Pt.sub (Pt.by_ Mu51.PARTS ⟨fx, fy⟩) (ev (Mu51.mix s.marks.length txt) ((Mu51.places s).set j ⟨0, 0⟩))) ⟨pc.x, -pc.y⟩) (pc.x * pc.x + pc.y * pc.y) := by
      have sD' : Mu51.lost (Mu51.many s) txt (Mu51.places s) j ⟨fx, fy⟩ = _ := sD
      simp only [Mu51.step, hi, if_neg nb, if_neg hz, hlk, sD']
    rw [e] at q
    generalize ev (Mu51.mix s.marks.length txt) ((Mu51.places s).set j ⟨0, 0⟩) = oth at e5 q
    refine ⟨_, rfl, b, _, 0, _, rfl, rfl, hb5, at0, _, _, rfl, rfl, .inl ⟨by decide, by decide⟩, _, rfl, o, _, 0, _, rfl, rfl, SqT.of e5, at0, _, _, rfl, rfl, ?_⟩
    refine ⟨_, rfl, b, _, 1, _, rfl, rfl, hb5, at1, _, _, rfl, rfl, .inl ⟨by decide, by decide⟩, _, rfl, o, _, 1, _, rfl, rfl, SqT.of e5, at1, _, _, rfl, rfl, (by show 2 ≤ sizeLine; decide), fun ms nms => ?_⟩
    have s6 := same_upd (o := .tup [.int (256 * fx - oth.x), .int (256 * fy - oth.y)]) nms
    have htt6 := sameTup s6 (sameTup s5 (sameTup s4 (sameTup s3 htt)))
    refine ⟨_, rfl, _, rfl, tt, _, 0, _, rfl, rfl, htt6, at0, _, rfl, tt, _, 1, _, rfl, rfl, htt6, at1, _, rfl, (by show 2 ≤ sizeLine; decide), fun cj ncj => ?_⟩
    have s7 := same_upd (o := .tup [.int pc.x, .int (-pc.y)]) ncj
    refine ⟨ms, cj, ⟨256 * fx - oth.x, 256 * fy - oth.y⟩, ⟨pc.x, -pc.y⟩, rfl, SqT.of (s7 _ _ upd_same), .inr (SqT.of upd_same), ⟨by show -(2 ^ 64) < pc.x; omega, by show pc.x < 2 ^ 64; omega⟩, ⟨by show -(2 ^ 64) < -pc.y; omega, by show -pc.y < 2 ^ 64; omega⟩, fun H8 st s8 n8 e8 => ?_⟩
    have htt8 := sameTup s8 (sameTup s7 htt6)
    refine ⟨(by show 1 ≤ sizeLine; decide), fun o0 no0 => ?_⟩
    have s9 := same_upd (o := .lst [.int 0]) no0
    have htt9 := sameTup s9 htt8
    have cx : CMul pc.x pc.x := .inl ⟨by omega, by omega⟩
    have cy : CMul pc.y pc.y := .inl ⟨by omega, by omega⟩
    have est := s9 _ _ e8
    have key : Pt.times (Pt.sub (Pt.by_ Mu51.PARTS ⟨fx, fy⟩) oth) ⟨pc.x, -pc.y⟩ = Pt.times ⟨256 * fx - oth.x, 256 * fy - oth.y⟩ ⟨pc.x, -pc.y⟩ := rfl
    rw [key] at q
    generalize Pt.times ⟨256 * fx - oth.x, 256 * fy - oth.y⟩ ⟨pc.x, -pc.y⟩ = sd at est q
    refine ⟨_, rfl, st, _, 0, _, rfl, rfl, SqT.of est, at0, _, rfl, st, _, 1, _, rfl, rfl, SqT.of est, at1, ?_⟩
    refine ⟨_, rfl, tt, _, 0, _, rfl, rfl, htt9, at0, _, rfl, tt, _, 0, _, rfl, rfl, htt9, at0, _, _, rfl, rfl, cx, ?_⟩
    refine ⟨_, rfl, tt, _, 1, _, rfl, rfl, htt9, at1, _, rfl, tt, _, 1, _, rfl, rfl, htt9, at1, _, _, rfl, rfl, cy, _, _, rfl, rfl, (by show 3 ≤ sizeLine; decide), fun li nli => ?_⟩
    have s10 := same_upd (o := .lst [.int sd.x, .int sd.y, .int (pc.x * pc.x + pc.y * pc.y)]) nli
    have qx := sq_le csz.1
    have qy := sq_le csz.2
    have up := sq_pos hz0 qx.1 qy.1
    have gl := gcdL_last [sd.x, sd.y] up
    refine ⟨li, [sd.x, sd.y, pc.x * pc.x + pc.y * pc.y], rfl, SqL.of upd_same, (by show 3 ≤ 1000; decide), gl.1, sq_big (Nat.le_trans gl.2 (by omega)), fun H11 r11 s11 n11 e11 => ?_⟩
    rw [low_both _ _ _ up] at e11
    have bl := both_len sd (pc.x * pc.x + pc.y * pc.y)
    refine ⟨o0, r11, _, _, rfl, rfl, s11 _ _ (s10 _ _ upd_same), e11, ?_, fun p n => ?_⟩
    · have := small_of (n := 1 + (Mu51.both sd (pc.x * pc.x + pc.y * pc.y)).length) (by omega)
      rw [List.length_map]
      exact Nat.le_of_lt this
    · exact (q.same (((((((s14.trans s5).trans s6).trans s7).trans s8).trans s9).trans s10).trans s11)).lst n
end
end Gk
namespace Gk
open PySem PySem.Spec PyProof.Rows L2
open Mu51 (Pt Mix State Text)

theorem near4 {a b c d : Int} (h1 : (Mu51.near a && Mu51.near b) = true) (h2 : (Mu51.near c && Mu51.near d) = true) : [a, b, c, d].any (fun (z : Int) => !(Mu51.near z)) = false := by
  simp only [Bool.and_eq_true] at h1 h2
  simp [h1.1, h1.2, h2.1, h2.2]
theorem near4_ab {a b c d : Int} (h : (Mu51.near a && Mu51.near b) = false) : [a, b, c, d].any (fun (z : Int) => !(Mu51.near z)) = true := by
  simp only [List.any_cons, List.any_nil]
  cases h1 : Mu51.near a
  · simp
  · cases h2 : Mu51.near b
    · simp
    · rw [h1, h2] at h
      cases h
theorem near4_cd {a b c d : Int} (h : (Mu51.near c && Mu51.near d) = false) : [a, b, c, d].any (fun (z : Int) => !(Mu51.near z)) = true := by
  simp only [List.any_cons, List.any_nil]
  cases h1 : Mu51.near c
  · simp
  · cases h2 : Mu51.near d
    · simp
    · rw [h1, h2] at h
      cases h
theorem ev_set {s : State} {t : Text} (G : GoodT s.marks.length t) (k : Nat) (p : Pt) : Mu51.treasure ((Mu51.places s).set k p) t = ev (Mu51.mix s.marks.length t) ((Mu51.places s).set k p) := by
  have := treasure_ev ((Mu51.places s).set k p) t G.hv G.on
  rw [List.length_set, places_len] at this
  exact this
/-- what line tells of the first n places -/
def lineL (m : Mix) (l : List Pt) (j : Nat) (ps : List Pt) : List Int := ps.flatMap fun p => Mu51.both (ev m (l.set j p)) Mu51.PARTS
theorem lineL_snoc (m : Mix) (l : List Pt) (j : Nat) (ps : List Pt) (p : Pt) : lineL m l j (ps ++ [p]) = lineL m l j ps ++ Mu51.both (ev m (l.set j p)) Mu51.PARTS := by
  unfold lineL
  rw [List.flatMap_append, List.flatMap_cons, List.flatMap_nil, List.append_nil]
theorem lineL_len (m : Mix) (l : List Pt) (j : Nat) : ∀ (ps : List Pt), (lineL m l j ps).length ≤ 10 * ps.length
  | [] => Nat.zero_le _
  | p :: ps => by
    have h1 := lineL_len m l j ps
    have h2 := both_len (ev m (l.set j p)) Mu51.PARTS
    unfold lineL at h1 ⊢
    rw [List.flatMap_cons, List.length_append, List.length_cons]
    omega

section
variable {P : Program} {w : World} {K : PySem.W.Frag} {mg : Str → Option Value} {base : Heap} {aN aS aM CF CC : Addr}

/-! ### line -/
abbrev s_line : Stmt := topS 72
theorem sc_line : FnScope ["chart", "text", "landmark", "first", "second", "shares", "refusal", "answer", "place"] ["chart", "text", "landmark", "first", "second"] (defScope s_line) := ⟨rfl, rfl, rfl, by decide +kernel, rfl, by decide +kernel, by decide +kernel⟩
def PlaceV (K : PySem.W.Frag) (H : Hp) (v : V) (p : Pt) : Prop := ∃ b, v = .ref b ∧ SqL K H b [.int p.x, .int p.y] ∧ (-1000 ≤ p.x ∧ p.x ≤ 1000) ∧ (-1000 ≤ p.y ∧ p.y ≤ 1000)
def sp_line (K : PySem.W.Frag) (CC : Addr) : Sp := fun vs H Q _ => ∃ (x t b1 b2 : Addr) (S : List Addr) (s : State) (i j : Nat) (ax ay bx bY : Int), vs = [.ref x, .int i, .int j, .ref b1, .ref b2] ∧ SAt K CC H x t S s ∧ SqL K H b1 [.int ax, .int ay] ∧ SqL K H b2 [.int bx, .int bY] ∧ Told H Q (Mu51.step (some s) (.line i j ax ay bx bY)).2
theorem ok_line {f : Addr} {fd : FuncData} {k : Nat} (F : Fun K "line" "line" s_line f fd) (T : Txt K mg aN aS aM)
    (C_has_text : Cal P w K mg base 1 "has_text" ["chart", "text"] (sp_has_text K CC)) (C_has_landmark : Cal P w K mg base 1 "has_landmark" ["chart", "landmark"] (sp_has_landmark K CC))
    (C_is_place : Cal P w K mg base 1 "is_place" ["numbers"] (sp_is_place K)) (C_treasure_shares : Cal P w K mg base 5 "treasure_shares" ["chart", "text"] (sp_treasure_shares K CC))
    (C_places_with : Cal P w K mg base 1 "places_with" ["chart", "landmark", "place"] (sp_places_with K CC)) (C_refusal_if_gone : Cal P w K mg base 2 "refusal_if_gone" ["places", "shares"] (sp_refusal_if_gone K))
    (C_treasure_place : Cal P w K mg base 3 "treasure_place" ["places", "shares"] (sp_treasure_place K)) :
    FnOk P w K mg base CX0 (k + 6) f fd ["chart", "text", "landmark", "first", "second"] (sp_line K CC) := by
  refine F.ok sc_line (fun vs H Q E h => ?_) (fun cdv A outer s H vs Q E hr h => ?_)
  · obtain ⟨x, t, b1, b2, S, s, i, j, ax, ay, bx, bY, rfl, _⟩ := h
    rfl
  obtain ⟨x, t, b1, b2, S, s, i, j, ax, ay, bx, bY, rfl, ⟨C, G⟩, hb1, hb2, q⟩ := h
  refine ⟨_, (pss_cons (ps_if (pt_not (pt_val (pcall C_has_text (hr.mono (by omega)) rfl (pa_cons (pv 0) (pa_cons (pv 1) pa_nil))))) (pss_one (ps_ret (pe_lst (pa_cons (pgI rfl T.gNO_TEXT) pa_nil))))
        pss_nil)
      (pss_cons (ps_if (PW.pt (pw_or (pt_not (pt_val (pcall C_has_landmark (hr.mono (by omega)) rfl (pa_cons (pv 0) (pa_cons (pv 2) pa_nil))))) (pw_or (pt_not (pt_val (pcall C_is_place (hr.mono (by omega)) rfl (pa_cons (pv 3) pa_nil)))) (pw_or1 (pt_not (pt_val (pcall C_is_place (hr.mono (by omega)) rfl (pa_cons (pv 4) pa_nil)))))))) (pss_one (ps_ret (pe_lst (pa_cons (pgI rfl T.gWRONG) pa_nil))))
        pss_nil)
      (pss_cons (ps_set (i := 5) sc_line.nd rfl (Or.inl rfl) (pcall C_treasure_shares (hr.mono (by omega)) rfl (pa_cons (pv 0) (pa_cons (pv 1) pa_nil))))
      (pss_cons (ps_set (i := 6) sc_line.nd rfl (Or.inl rfl) (pcall C_refusal_if_gone (hr.mono (by omega)) rfl (pa_cons (pcall C_places_with (hr.mono (by omega)) rfl (pa_cons (pv 0) (pa_cons (pv 2) (pa_cons (pv 3) pa_nil)))) (pa_cons (pv 5) pa_nil))))
      (pss_cons (ps_if (pt_cmpR op_gt (pe_callB (call_lenK (K := K) rfl) (by rfl) T.len PySem.boot_len (pa_cons (pv 6) pa_nil)) pe_int (nomark _)) (pss_one (ps_ret (pv 6)))
        pss_nil)
      (pss_cons (ps_set (i := 7) sc_line.nd rfl (Or.inl rfl) (pe_lst (pa_cons pe_int pa_nil)))
      (pss_cons (ps_for PassesOwn.never rfl (pi_tup (pe_tup (pa_cons (pv 3) (pa_cons (pv 4) pa_nil)))) (pg_name (i := 8) sc_line.nd rfl (Or.inl rfl))
        (pss_one (ps_expr (pe_bm PySem.F.plainAttrs_list PySem.F.slot_list_extend PySem.F.type_list_extend mt_extend (pv 7) (pa_cons (pcall C_treasure_place (hr.mono (by omega)) rfl (pa_cons (pcall C_places_with (hr.mono (by omega)) rfl (pa_cons (pv 0) (pa_cons (pv 2) (pa_cons (pv 8) pa_nil)))) (pa_cons (pv 5) pa_nil))) pa_nil)))))
      (pss_one (ps_ret (pv 7)))))))))), ?_⟩
  refine ⟨_, rfl, _, rfl, x, t, S, _, _, i, rfl, C, _, rfl, ?_⟩
  rw [txOf_len]
  refine tNot' (fun c => ?_) (fun c => ?_)
  · have hi : s.texts[i]? = none := List.getElem?_eq_none (by have := of_decide_eq_false c; omega)
    have e : (Mu51.step (some s) (.line i j ax ay bx bY)).2 = [-2] := by simp only [Mu51.step, hi]
    rw [e] at q
    exact ⟨(by show 1 ≤ sizeLine; decide), fun p n => q.lst n⟩
  obtain ⟨txt, hi⟩ : ∃ txt, s.texts[i]? = some txt := ⟨_, List.getElem?_eq_getElem (of_decide_eq_true c)⟩
  have GT := G.tx _ (List.mem_of_getElem? hi)
  have pl4 := plOf_len s
  have m4 := G.m4
  have ml := mix_len (n := s.marks.length) GT.hv GT.on
  have bad : (s.marks.length ≤ j ∨ [ax, ay, bx, bY].any (fun (z : Int) => !(Mu51.near z)) = true) → Told H Q [-1] := fun h => by
    have h' : Mu51.many s ≤ j ∨ [ax, ay, bx, bY].any (fun (z : Int) => !(Mu51.near z)) = true := h
    have e : (Mu51.step (some s) (.line i j ax ay bx bY)).2 = [-1] := by simp only [Mu51.step, hi, if_pos h']
    rw [e] at q
    exact q
  refine ⟨_, rfl, _, rfl, x, t, S, _, _, j, rfl, C, _, rfl, ?_⟩
  rw [pl4]
  refine tNot' (fun d => ?_) (fun d => ?_)
  · exact iteT ⟨(by show 1 ≤ sizeLine; decide), fun p n => (bad (.inl (by have := of_decide_eq_false d; omega))).lst n⟩
  have hj : j < s.marks.length := of_decide_eq_true d
  refine ⟨_, rfl, b1, [ax, ay], rfl, hb1, (by show 2 ≤ 10000; decide), fun H1 s1 => ⟨_, rfl, ?_⟩⟩
  rw [place2]
  refine tNot' (fun nr => ?_) (fun nr => ?_)
  · exact iteT ⟨(by show 1 ≤ sizeLine; decide), fun p n => ((bad (.inr (near4_ab nr))).same s1).lst n⟩
  refine ⟨_, rfl, b2, [bx, bY], rfl, s1.seq hb2, (by show 2 ≤ 10000; decide), fun H2 s2 => ⟨_, rfl, ?_⟩⟩
  rw [place2]
  have s02 := s1.trans s2
  refine tNot' (fun nr2 => ?_) (fun nr2 => ?_)
  · exact ⟨(by show 1 ≤ sizeLine; decide), fun p n => ((bad (.inr (near4_cd nr2))).same s02).lst n⟩
  have nb : ¬ (Mu51.many s ≤ j ∨ [ax, ay, bx, bY].any (fun (z : Int) => !(Mu51.near z)) = true) := by
    rintro (h | h)
    · have : s.marks.length ≤ j := h
      omega
    · rw [near4 nr nr2] at h
      cases h
  have na := near_of nr
  have nb2 := near_of nr2
  refine ⟨_, rfl, _, rfl, x, t, S, plOf s, txOf s, i, txt, rfl, C.same s02, txOf_get hi, by rw [pl4]; exact GT, by omega, fun H3 a s3 hM => ?_⟩
  rw [pl4] at hM
  have s03 := s02.trans s3
  obtain ⟨dx, p, us, D⟩ := C.same s03
  obtain ⟨ps, hps0, hpp0⟩ := D.pl
  have hs3 : Same (hide H3 (x :: t :: S)) H3 := hide_same _ _
  have lp : ps.length = s.marks.length := (pairLen hpp0).trans pl4
  -- the places with another one at j
  have hW : ∀ {H' : Hp} {u b : Addr} {px py : Int}, Same H3 H' → SqL K H' b [.int px, .int py] → H' u = some (.lst (ps.set j (.ref b))) → RowsW K H' u ((plOf s).set j [px, py]) := fun {H' u b px py} sA hb e =>
    ⟨_, SqL.of e, pairSet (Paired.mapP hpp0 fun _ _ z => (z.same (hs3.trans sA)).wide) ⟨b, rfl, .inl hb⟩⟩
  have hl3 : ∀ px py : Int, (Mu51.mix s.marks.length txt).length = ((plOf s).set j [px, py]).length := fun px py => by rw [List.length_set, pl4, ml]
  refine ⟨_, rfl, _, rfl, _, rfl, x, t, S, plOf s, txOf s, dx, p, us, ps, j, .ref b1, rfl, D, hs3.seq hps0, by omega, fun H4 u s4 n4 e4 => ?_⟩
  refine ⟨_, rfl, u, a, (plOf s).set j [ax, ay], _, rfl, hW s4 ((s03.trans s4).seq hb1) e4, hM.same s4, hl3 ax ay, by omega, fun H5 r s5 n5 e5 => ?_⟩
  rw [← goneL_but GT hj] at e5
  refine ⟨_, rfl, r, _, rfl, .inl (SqL.of e5), _, _, rfl, rfl, _, rfl, ?_⟩
  have s05 := (s03.trans s4).trans s5
  have s35 := s4.trans s5
  cases hlk : Mu51.lacks s txt j with
  | some g =>
    rw [hlk] at e5
    refine tDec (fun _ => ?_) (fun c => absurd c (by show ¬ ¬ ((0 : Int) < (2 : Int)); decide))
    have e : (Mu51.step (some s) (.line i j ax ay bx bY)).2 = [-6, (g : Int)] := by simp only [Mu51.step, hi, if_neg nb, hlk]
    rw [e] at q
    exact ⟨_, rfl, q H5 r s05 ((s03.trans s4).free n5) e5⟩
  | none =>
    rw [hlk] at e5
    refine tDec (fun c => absurd c (by show ¬ ((0 : Int) < (0 : Int)); decide)) (fun _ => ?_)
    have e : (Mu51.step (some s) (.line i j ax ay bx bY)).2 = 0 :: lineL (Mu51.mix s.marks.length txt) (Mu51.places s) j [⟨ax, ay⟩, ⟨bx, bY⟩] := by
      simp only [Mu51.step, hi, if_neg nb, hlk, ev_set GT]
      simp [lineL]
    rw [e] at q
    refine ⟨(by show 1 ≤ sizeLine; decide), fun an nan => ?_⟩
    have s6 := same_upd (o := .lst [.int 0]) nan
    refine ⟨_, rfl, _, rfl, (by show 2 ≤ sizeLine; decide), fun tp ntp => ⟨tp, rfl, ⟨_, SqT.of upd_same⟩, ?_⟩⟩
    have s7 := same_upd (o := .tup [.ref b1, .ref b2]) ntp
    have nta : tp ≠ an := fun z => by rw [z, upd_same] at ntp; cases ntp
    have hPl : Paired (PlaceV K H5) [.ref b1, .ref b2] [(⟨ax, ay⟩ : Pt), ⟨bx, bY⟩] := .cons ⟨b1, rfl, s05.seq hb1, na.1, na.2⟩ (.cons ⟨b2, rfl, s05.seq hb2, nb2.1, nb2.2⟩ .nil)
    refine for_tup (K := K) (a := tp) (xs := [.ref b1, .ref b2]) (fun n σ H' => ∃ z8, σ = [some (.ref x), some (.int i), some (.int j), some (.ref b1), some (.ref b2), some (.ref a), some (.ref r), some (.ref an), z8] ∧ Same H5 H' ∧ H' tp = some (.tup [.ref b1, .ref b2]) ∧
      H' an = some (.lst ((0 :: lineL (Mu51.mix s.marks.length txt) (Mu51.places s) j ([(⟨ax, ay⟩ : Pt), ⟨bx, bY⟩].take n)).map V.int))) ⟨none, rfl, s6.trans s7, upd_same, s7 _ _ upd_same⟩ (fun n σ H' _ ⟨_, _, _, e, _⟩ => SqT.of e) ?_ ?_
    · rintro n v σ H' hv ⟨z8, rfl, s8, et, ea⟩
      obtain ⟨pt, hpt, b, rfl, hb, nx, ny⟩ := pairGet hPl hv
      have s38 := s35.trans s8
      have D8 := D.same s38
      have ln := lineL_len (Mu51.mix s.marks.length txt) (Mu51.places s) j ([(⟨ax, ay⟩ : Pt), ⟨bx, bY⟩].take n)
      have lt2 : ([(⟨ax, ay⟩ : Pt), ⟨bx, bY⟩].take n).length ≤ 2 := by rw [List.length_take]; exact Nat.min_le_right _ _
      refine ⟨_, rfl, .inl ⟨rfl, _, SqL.of ea⟩, _, rfl, _, rfl, _, rfl, x, t, S, plOf s, txOf s, dx, p, us, ps, j, .ref b, rfl, D8, s38.seq (hs3.seq hps0), by omega, fun H9 u9 s9 n9 e9 => ?_⟩
      refine ⟨_, rfl, u9, a, (plOf s).set j [pt.x, pt.y], _, (Mu51.places s).set j pt, rfl, hW (s38.trans s9) ((s8.trans s9).seq hb) e9, (hM.same s38).same s9, by rw [List.length_set, places_len, ml], by omega, stands_but G GT hj nx ny hlk, fun H10 r10 s10 n10 e10 => ?_⟩
      have ea10 := s10 _ _ (s9 _ _ ea)
      have nra : r10 ≠ an := (ne_of_none (s9 _ _ ea) n10).symm
      have bl := both_len (ev (Mu51.mix s.marks.length txt) ((Mu51.places s).set j pt)) Mu51.PARTS
      refine ⟨an, r10, _, _, rfl, rfl, ea10, e10, ?_, ?_⟩
      · refine Nat.le_of_lt (small_of ?_)
        rw [List.length_map, List.length_map, List.length_cons]
        omega
      · refine ⟨some (.ref b), rfl, fun c o ec => ?_, ?_, ?_⟩
        · have : c ≠ an := fun z => by rw [z, nan] at ec; cases ec
          rw [upd_ne this]
          exact s10 _ _ (s9 _ _ (s8 _ _ ec))
        · rw [upd_ne nta]
          exact s10 _ _ (s9 _ _ et)
        · rw [upd_same, take_succ_get hpt, lineL_snoc, List.map_cons, List.map_cons, List.map_append]
          rfl
    · rintro σ H' ⟨z8, rfl, s8, et, ea⟩
      exact ⟨_, rfl, q H' an (s05.trans s8) (s05.free nan) ea⟩

/-! ### apart -/
abbrev s_apart : Stmt := topS 73
theorem sc_apart : FnScope ["chart", "text", "other", "shares", "others", "needed", "refusal", "between"] ["chart", "text", "other"] (defScope s_apart) := ⟨rfl, rfl, rfl, by decide +kernel, rfl, by decide +kernel, by decide +kernel⟩
theorem need_sub {m n : Mix} {k : Nat} (hl : m.length = n.length) (h : k ∈ needL (Mu51.Mix.sub m n)) : k ∈ needL m ∨ k ∈ needL n := by
  obtain ⟨h1, h2⟩ := mem_needL h
  have hkm : k < m.length := by
    rw [Mu51.Mix.sub, List.length_zipWith] at h1
    omega
  have hkn : k < n.length := by omega
  have em : m[k]? = some m[k] := List.getElem?_eq_getElem hkm
  have en : n[k]? = some n[k] := List.getElem?_eq_getElem hkn
  have es : (Mu51.Mix.sub m n).getD k ⟨0, 0⟩ = Pt.sub m[k] n[k] := getD_of (by rw [Mu51.Mix.sub, List.getElem?_zipWith, em, en])
  rw [es] at h2
  by_cases c : m[k] = ⟨0, 0⟩
  · right
    refine List.mem_filter.mpr ⟨List.mem_range.mpr hkn, ?_⟩
    rw [getD_of en]
    have : n[k] ≠ ⟨0, 0⟩ := fun z => h2 (by rw [c, z]; rfl)
    simpa using this
  · left
    refine List.mem_filter.mpr ⟨List.mem_range.mpr hkm, ?_⟩
    rw [getD_of em]
    simpa using c
def sp_apart (K : PySem.W.Frag) (CC : Addr) : Sp := fun vs H Q _ => ∃ (x t : Addr) (S : List Addr) (s : State) (i j : Nat), vs = [.ref x, .int i, .int j] ∧ SAt K CC H x t S s ∧ Told H Q (Mu51.step (some s) (.apart i j)).2
theorem ok_apart {f : Addr} {fd : FuncData} {k : Nat} (F : Fun K "apart" "apart" s_apart f fd) (T : Txt K mg aN aS aM) (TC : TxC K CC chF)
    (C_has_text : Cal P w K mg base 1 "has_text" ["chart", "text"] (sp_has_text K CC)) (C_treasure_shares : Cal P w K mg base 5 "treasure_shares" ["chart", "text"] (sp_treasure_shares K CC))
    (C_refusal_if_gone : Cal P w K mg base 2 "refusal_if_gone" ["places", "shares"] (sp_refusal_if_gone K)) (C_added : Cal P w K mg base 1 "added" ["shares", "others", "times"] (sp_added K))
    (C_treasure_in_parts : Cal P w K mg base 2 "treasure_in_parts" ["places", "shares"] (sp_treasure_in_parts K)) (C_in_lowest_terms : Cal P w K mg base 2 "in_lowest_terms" ["numbers"] (sp_in_lowest_terms K)) :
    FnOk P w K mg base CX0 (k + 6) f fd ["chart", "text", "other"] (sp_apart K CC) := by
  refine F.ok sc_apart (fun vs H Q E h => ?_) (fun cdv A outer s H vs Q E hr h => ?_)
  · obtain ⟨x, t, S, s, i, j, rfl, _⟩ := h
    rfl
  obtain ⟨x, t, S, s, i, j, rfl, ⟨C, G⟩, q⟩ := h
  refine ⟨_, (pss_cons (ps_if (PW.pt (pw_or (pt_not (pt_val (pcall C_has_text (hr.mono (by omega)) rfl (pa_cons (pv 0) (pa_cons (pv 1) pa_nil))))) (pw_or1 (pt_not (pt_val (pcall C_has_text (hr.mono (by omega)) rfl (pa_cons (pv 0) (pa_cons (pv 2) pa_nil)))))))) (pss_one (ps_ret (pe_lst (pa_cons (pgI rfl T.gNO_TEXT) pa_nil))))
        pss_nil)
      (pss_cons (ps_set (i := 3) sc_apart.nd rfl (Or.inl rfl) (pcall C_treasure_shares (hr.mono (by omega)) rfl (pa_cons (pv 0) (pa_cons (pv 1) pa_nil))))
      (pss_cons (ps_set (i := 4) sc_apart.nd rfl (Or.inl rfl) (pcall C_treasure_shares (hr.mono (by omega)) rfl (pa_cons (pv 0) (pa_cons (pv 2) pa_nil))))
      (pss_cons (ps_for PassesOwn.never rfl (pi_tup (pe_tup (pa_cons (pv 3) (pa_cons (pv 4) pa_nil)))) (pg_name (i := 5) sc_apart.nd rfl (Or.inl rfl))
        (pss_cons (ps_set (i := 6) sc_apart.nd rfl (Or.inl rfl) (pcall C_refusal_if_gone (hr.mono (by omega)) rfl (pa_cons (pe_fld (pv 0) rfl) (pa_cons (pv 5) pa_nil))))
        (pss_one (ps_if (pt_cmpR op_gt (pe_callB (call_lenK (K := K) rfl) (by rfl) T.len PySem.boot_len (pa_cons (pv 6) pa_nil)) pe_int (nomark _)) (pss_one (ps_ret (pv 6)))
          pss_nil))))
      (pss_cons (ps_set (i := 7) sc_apart.nd rfl (Or.inl rfl) (pcall C_treasure_in_parts (hr.mono (by omega)) rfl (pa_cons (pe_fld (pv 0) rfl) (pa_cons (pcall C_added (hr.mono (by omega)) rfl (pa_cons (pv 3) (pa_cons (pv 4) (pa_cons (pe_un un_neg pe_int) pa_nil)))) pa_nil))))
      (pss_one (ps_ret (pcall C_in_lowest_terms (hr.mono (by omega)) rfl (pa_cons (pe_lst (pa_cons (pe_op op_add (pe_op op_mul (pe_ix ix_tup (pv 7) pe_int (fun _ _ => rfl)) (pe_ix ix_tup (pv 7) pe_int (fun _ _ => rfl))) (pe_op op_mul (pe_ix ix_tup (pv 7) pe_int (fun _ _ => rfl)) (pe_ix ix_tup (pv 7) pe_int (fun _ _ => rfl)))) (pa_cons (pe_op op_mul (pgI rfl T.gPARTS) (pgI rfl T.gPARTS)) pa_nil))) pa_nil))))))))), ?_⟩
  obtain ⟨np, nt⟩ := TC.ch
  have no : ∀ {p : Addr}, s.texts[i]? = none ∨ s.texts[j]? = none → H p = none → Q (.ref p) (upd H p (.lst [.int (-2)])) := fun {p} hn n => by
    have e : (Mu51.step (some s) (.apart i j)).2 = [-2] := by
      cases hi : s.texts[i]? with
      | none => simp only [Mu51.step, hi]
      | some a =>
        cases hj : s.texts[j]? with
        | none => simp only [Mu51.step, hi, hj]
        | some b =>
          rw [hi, hj] at hn
          rcases hn with h | h <;> cases h
    rw [e] at q
    exact q.lst n
  refine ⟨_, rfl, _, rfl, x, t, S, _, _, i, rfl, C, _, rfl, ?_⟩
  rw [txOf_len]
  refine tNot' (fun c => ?_) (fun c => ?_)
  · have hi : s.texts[i]? = none := List.getElem?_eq_none (by have := of_decide_eq_false c; omega)
    exact iteT ⟨(by show 1 ≤ sizeLine; decide), fun p n => no (.inl hi) n⟩
  refine ⟨_, rfl, _, rfl, x, t, S, _, _, j, rfl, C, _, rfl, ?_⟩
  rw [txOf_len]
  refine tNot' (fun d => ?_) (fun d => ?_)
  · have hj : s.texts[j]? = none := List.getElem?_eq_none (by have := of_decide_eq_false d; omega)
    exact ⟨(by show 1 ≤ sizeLine; decide), fun p n => no (.inr hj) n⟩
  obtain ⟨txt, hi⟩ : ∃ txt, s.texts[i]? = some txt := ⟨_, List.getElem?_eq_getElem (of_decide_eq_true c)⟩
  obtain ⟨txt2, hj⟩ : ∃ txt, s.texts[j]? = some txt := ⟨_, List.getElem?_eq_getElem (of_decide_eq_true d)⟩
  have GT := G.tx _ (List.mem_of_getElem? hi)
  have GT2 := G.tx _ (List.mem_of_getElem? hj)
  have pl4 := plOf_len s
  have m4 := G.m4
  have ml := mix_len (n := s.marks.length) GT.hv GT.on
  have ml2 := mix_len (n := s.marks.length) GT2.hv GT2.on
  refine ⟨_, rfl, _, rfl, x, t, S, plOf s, txOf s, i, txt, rfl, C, txOf_get hi, by rw [pl4]; exact GT, by omega, fun H1 a s1 hM => ?_⟩
  refine ⟨_, rfl, _, rfl, x, t, S, plOf s, txOf s, j, txt2, rfl, C.same s1, txOf_get hj, by rw [pl4]; exact GT2, by omega, fun H2 b s2 hM2 => ?_⟩
  rw [pl4] at hM hM2
  have s02 := s1.trans s2
  obtain ⟨dx, p, us, D⟩ := C.same s02
  have hW : RowsW K H2 p (plOf s) := (D.pl.same (hide_same _ _)).wide
  refine ⟨_, rfl, _, rfl, (by show 2 ≤ sizeLine; decide), fun tp ntp => ⟨tp, rfl, ⟨_, SqT.of upd_same⟩, ?_⟩⟩
  have s3 := same_upd (o := .tup [.ref a, .ref b]) ntp
  have hTx : Paired (fun v (u : Text) => GoodT s.marks.length u ∧ ∃ b, v = .ref b ∧ MixAt K H2 b (Mu51.mix s.marks.length u)) [V.ref a, V.ref b] [txt, txt2] := .cons ⟨GT, a, rfl, hM.same s2⟩ (.cons ⟨GT2, b, rfl, hM2⟩ .nil)
  refine for_tup (K := K) (a := tp) (xs := [.ref a, .ref b]) (fun n σ H' => ∃ z5 z6, σ = [some (.ref x), some (.int i), some (.int j), some (.ref a), some (.ref b), z5, z6, none] ∧ Same H2 H' ∧ H' tp = some (.tup [.ref a, .ref b]) ∧ ∀ u ∈ [txt, txt2].take n, Mu51.lacks s u (Mu51.many s) = none)
    ⟨none, none, rfl, s3, upd_same, fun u hu => by simp at hu⟩ (fun n σ H' _ ⟨_, _, _, _, e, _⟩ => SqT.of e) ?_ ?_
  · rintro n v σ H' hv ⟨z5, z6, rfl, s4, et, hn⟩
    obtain ⟨tn, htn, GTn, an, rfl, hMn⟩ := pairGet hTx hv
    have mln := mix_len (n := s.marks.length) GTn.hv GTn.on
    have D4 := D.same s4
    refine ⟨_, rfl, x, CC, dx, _, _, rfl, D4.e1, TC.cl, np, F2_places p t, _, rfl, p, an, plOf s, _, rfl, hW.same s4, hMn.same s4, by omega, by omega, fun H5 r s5 n5 e5 => ?_⟩
    rw [← goneL_all GTn] at e5
    refine ⟨_, rfl, r, _, rfl, .inl (SqL.of e5), _, _, rfl, rfl, _, rfl, ?_⟩
    cases hlk : Mu51.lacks s tn (Mu51.many s) with
    | some g =>
      rw [hlk] at e5
      refine tDec (fun _ => ?_) (fun c => absurd c (by show ¬ ¬ ((0 : Int) < (2 : Int)); decide))
      have e : (Mu51.step (some s) (.apart i j)).2 = [-6, (g : Int)] := by
        match n, htn, hn with
        | 0, htn, _ =>
          have : txt = tn := Option.some.inj htn
          subst this
          simp only [Mu51.step, hi, hj, hlk]
        | 1, htn, hn =>
          have : txt2 = tn := Option.some.inj htn
          subst this
          have h0 := hn txt (by simp)
          simp only [Mu51.step, hi, hj, hlk, h0]
        | n + 2, htn, _ => simp at htn
      rw [e] at q
      exact ⟨_, rfl, q H5 r ((s02.trans s4).trans s5) ((s02.trans s4).free n5) e5⟩
    | none =>
      rw [hlk] at e5
      refine tDec (fun c => absurd c (by show ¬ ((0 : Int) < (0 : Int)); decide)) (fun _ => ?_)
      refine ⟨some (.ref an), some (.ref r), rfl, s4.trans s5, s5 _ _ et, fun u hu => ?_⟩
      rw [take_succ_get htn] at hu
      rcases List.mem_append.mp hu with hu | hu
      · exact hn u hu
      · rw [List.mem_singleton.mp hu]
        exact hlk
  · rintro σ H' ⟨z5, z6, rfl, s4, et, hn⟩
    have l1 := hn txt (by simp)
    have l2 := hn txt2 (by simp)
    have D4 := D.same s4
    refine ⟨_, rfl, x, CC, dx, _, _, rfl, D4.e1, TC.cl, np, F2_places p t, _, rfl, _, rfl, _, rfl, a, b, _, _, -1, rfl, (hM.same s2).same s4, hM2.same s4, by omega, ⟨by decide, by decide⟩, fun H5 u s5 n5 hu => ?_⟩
    rw [sub_eq] at hu
    have lpl := places_len s
    have sl : (Mu51.Mix.sub (Mu51.mix s.marks.length txt) (Mu51.mix s.marks.length txt2)).length = s.marks.length := by
      rw [Mu51.Mix.sub, List.length_zipWith, ml, ml2]
      omega
    have St : Stands (plOf s) (Mu51.places s) (Mu51.Mix.sub (Mu51.mix s.marks.length txt) (Mu51.mix s.marks.length txt2)) := fun k hk => by
      rcases need_sub (by rw [ml, ml2]) hk with h | h
      · exact stands_all G GT l1 k h
      · exact stands_all G GT2 l2 k h
    refine ⟨p, u, plOf s, _, Mu51.places s, rfl, (hW.same s4).same s5, hu, by rw [sl, lpl], by omega, St, fun H6 bt s6 n6 e6 => ?_⟩
    have bsz := ev_sz (B := 2 * (4 ^ 14 * 256)) (C := 1000) (Mu51.Mix.sub (Mu51.mix s.marks.length txt) (Mu51.mix s.marks.length txt2)) (Mu51.places s) (fun pp hp => by
      obtain ⟨u, hu, v, hv, rfl⟩ := mem_zip hp
      have h1 := mix_sz GT u hu
      have h2 := mix_sz GT2 v hv
      simp only [Pt.sub]
      omega) (places_sz G)
    rw [sl] at bsz
    have eD : ev (Mu51.Mix.sub (Mu51.mix s.marks.length txt) (Mu51.mix s.marks.length txt2)) (Mu51.places s) = Pt.sub (Mu51.treasure (Mu51.places s) txt) (Mu51.treasure (Mu51.places s) txt2) := by
      rw [ev_sub _ _ _ (by rw [ml, lpl]) (by rw [ml2, lpl]), ev_places GT, ev_places GT2]
    rw [eD] at bsz e6
    have e : (Mu51.step (some s) (.apart i j)).2 = [(Mu51.lowest (Mu51.sqr (Pt.sub (Mu51.treasure (Mu51.places s) txt) (Mu51.treasure (Mu51.places s) txt2))) (Mu51.PARTS * Mu51.PARTS)).1, (Mu51.lowest (Mu51.sqr (Pt.sub (Mu51.treasure (Mu51.places s) txt) (Mu51.treasure (Mu51.places s) txt2))) (Mu51.PARTS * Mu51.PARTS)).2] := by
      simp only [Mu51.step, hi, hj, l1, l2]
    rw [e] at q
    generalize Pt.sub (Mu51.treasure (Mu51.places s) txt) (Mu51.treasure (Mu51.places s) txt2) = df at bsz e6 q
    have mz : s.marks.length * (2 * (2 * (4 ^ 14 * 256) * 1000)) ≤ 4 * (2 * (2 * (4 ^ 14 * 256) * 1000)) := Nat.mul_le_mul_right _ m4
    have cx : CMul df.x df.x := .inl ⟨by omega, by omega⟩
    have cy : CMul df.y df.y := .inl ⟨by omega, by omega⟩
    refine ⟨_, rfl, bt, _, 0, _, rfl, rfl, SqT.of e6, at0, _, rfl, bt, _, 0, _, rfl, rfl, SqT.of e6, at0, _, _, rfl, rfl, cx, ?_⟩
    refine ⟨_, rfl, bt, _, 1, _, rfl, rfl, SqT.of e6, at1, _, rfl, bt, _, 1, _, rfl, rfl, SqT.of e6, at1, _, _, rfl, rfl, cy, _, _, rfl, rfl, ?_⟩
    refine ⟨_, _, rfl, rfl, .inl ⟨by decide, by decide⟩, (by show 2 ≤ sizeLine; decide), fun li nli => ?_⟩
    have gl := gcdL_last [df.x * df.x + df.y * df.y] (u := 256 * 256) (by decide)
    refine ⟨li, [df.x * df.x + df.y * df.y, 256 * 256], rfl, SqL.of upd_same, (by show 2 ≤ 1000; decide), gl.1, sq_big (Nat.le_trans gl.2 (by decide)), fun H7 r s7 n7 e7 => ?_⟩
    rw [low_lowest _ _ (by decide)] at e7
    have s8 := (((s02.trans s4).trans s5).trans s6).trans (same_upd (o := .lst [.int (df.x * df.x + df.y * df.y), .int (256 * 256)]) nli)
    exact q H7 r (s8.trans s7) (s8.free n7) e7
end
end Gk
namespace Gk
open PySem PySem.Spec PyProof.Rows L2
open Mu51 (Pt Mix State Text)

theorem plOf_set (s : State) (k : Nat) (o : Option Pt) : plOf { s with marks := s.marks.set k o } = (plOf s).set k (encM o) := by
  unfold plOf
  rw [List.map_set]
theorem GoodS.set {s : State} (g : GoodS s) {k : Nat} {o : Option Pt} (h : ∀ p, o = some p → (-1000 ≤ p.x ∧ p.x ≤ 1000) ∧ (-1000 ≤ p.y ∧ p.y ≤ 1000)) : GoodS { s with marks := s.marks.set k o } := by
  have e : (s.marks.set k o).length = s.marks.length := List.length_set
  refine ⟨?_, ?_, fun p hp => ?_, g.t4, fun t ht => ?_⟩
  · show 1 ≤ (s.marks.set k o).length
    rw [e]
    exact g.m1
  · show (s.marks.set k o).length ≤ 4
    rw [e]
    exact g.m4
  · rcases List.mem_or_eq_of_mem_set hp with hp | hp
    · exact g.nr p hp
    · exact h p hp.symm
  · show GoodT (s.marks.set k o).length t
    rw [e]
    exact g.tx t ht
/-- what is new is none of what may change -/
theorem new_out {K : PySem.W.Frag} {CC : Addr} {H : Hp} {x t : Addr} {S : List Addr} {pl : List (List Int)} {tx : List (List (List Int))} {dx p : Addr} {us : List V} (D : ChD K CC H x t S pl tx dx p us) (hS : ∀ b ∈ S, H b ≠ none) {b : Addr} (n : H b = none) : b ∉ x :: t :: S := fun z => by
  rcases List.mem_cons.mp z with rfl | z
  · rw [D.e1] at n
    cases n
  rcases List.mem_cons.mp z with rfl | z
  · rw [D.e2] at n
    cases n
  · exact hS b z n
/-- the map, its places being another list -/
theorem put_places {K : PySem.W.Frag} {CC : Addr} {H H1 : Hp} {x t : Addr} {S : List Addr} {s : State} {dx p : Addr} {us ps : List V} {k : Nat} {o : Option Pt} {c u r : Addr}
    (D : ChD K CC H x t S (plOf s) (txOf s) dx p us) (G : GoodS s) (ho : ∀ p, o = some p → (-1000 ≤ p.x ∧ p.x ≤ 1000) ∧ (-1000 ≤ p.y ∧ p.y ≤ 1000)) (hS : ∀ b ∈ S, H b ≠ none) (hpp : Paired (Row1V (hide H (x :: t :: S))) ps (plOf s))
    (s1 : Same H H1) (hc : hide H1 (x :: t :: S) c = some (.lst ((encM o).map V.int))) (nu : H u = none) (eu : H1 u = some (.lst (ps.set k (.ref c)))) (nr : upd H1 x (.ins CC dx (F2 u t)) r = none) :
    Mut [x, t] H (upd (upd H1 x (.ins CC dx (F2 u t))) r (.lst [.int 0])) ∧ OAt K CC (upd (upd H1 x (.ins CC dx (F2 u t))) r (.lst [.int 0])) x t S (some { s with marks := s.marks.set k o }) ∧ H r = none := by
  have rx : r ≠ x := fun z => by rw [z, upd_same] at nr; cases nr
  have nr1 : H1 r = none := by rw [upd_ne rx] at nr; exact nr
  have xt := D.xt
  have M1 : Mut [x] H1 (upd (upd H1 x (.ins CC dx (F2 u t))) r (.lst [.int 0])) := fun b o e nb => by
    have hb : b ≠ x := fun z => nb (by rw [z]; exact List.mem_cons_self)
    rw [upd_ne (ne_of_none e nr1), upd_ne hb]
    exact e
  have M2 : Mut [x, t] H (upd (upd H1 x (.ins CC dx (F2 u t))) r (.lst [.int 0])) := (Mut.of_same s1).trans (M1.mono fun b hb => by rw [List.mem_singleton.mp hb]; exact List.mem_cons_self)
  have S1 : Same (hide H1 (x :: t :: S)) (hide (upd (upd H1 x (.ins CC dx (F2 u t))) r (.lst [.int 0])) (x :: t :: S)) := hide_mono (fun b o e nb => M1 b o e fun z => nb (by rw [List.mem_singleton.mp z]; exact List.mem_cons_self)) fun _ h => .inl h
  have S2 := (Same.hide s1 (x :: t :: S)).trans S1
  have uo := new_out D hS nu
  refine ⟨M2, ⟨⟨dx, u, us, ?_, ?_, ?_, ?_⟩, G.set ho⟩, s1.free nr1⟩
  · rw [upd_ne rx.symm, upd_same]
  · rw [plOf_set]
    exact ⟨_, SqL.of (S1 _ _ (hide_of uo eu)), pairSet (Paired.mapP hpp fun _ _ z => z.same S2) ⟨c, rfl, S1 _ _ hc⟩⟩
  · exact M1 _ _ (s1 _ _ D.e2) fun z => xt (List.mem_singleton.mp z)
  · exact Paired.mapP D.tx fun _ _ ⟨b, z, r⟩ => ⟨b, z, r.same S2⟩

section
variable {P : Program} {w : World} {K : PySem.W.Frag} {mg : Str → Option Value} {base : Heap} {aN aS aM CF CC : Addr}

/-! ### move -/
abbrev s_move : Stmt := topS 74
theorem sc_move : FnScope ["chart", "landmark", "place"] ["chart", "landmark", "place"] (defScope s_move) := ⟨rfl, rfl, rfl, by decide +kernel, rfl, by decide +kernel, by decide +kernel⟩
def sp_move (K : PySem.W.Frag) (CC : Addr) : Sp := fun vs H Q _ => ∃ (x t b : Addr) (S : List Addr) (s : State) (j : Nat) (fx fy : Int), vs = [.ref x, .int j, .ref b] ∧ SAt K CC H x t S s ∧ (∀ b ∈ S, H b ≠ none) ∧ hide H (x :: t :: S) b = some (.lst [.int fx, .int fy]) ∧ ToldS K CC x t S H Q (Mu51.step (some s) (.move j fx fy))
theorem ok_move {f : Addr} {fd : FuncData} {k : Nat} (F : Fun K "move" "move" s_move f fd) (T : Txt K mg aN aS aM) (TC : TxC K CC chF)
    (C_has_landmark : Cal P w K mg base 1 "has_landmark" ["chart", "landmark"] (sp_has_landmark K CC)) (C_is_place : Cal P w K mg base 1 "is_place" ["numbers"] (sp_is_place K))
    (C_places_with : Cal P w K mg base 1 "places_with" ["chart", "landmark", "place"] (sp_places_with K CC)) :
    FnOk P w K mg base CX0 (k + 2) f fd ["chart", "landmark", "place"] (sp_move K CC) := by
  refine F.ok sc_move (fun vs H Q E h => ?_) (fun cdv A outer s H vs Q E hr h => ?_)
  · obtain ⟨x, t, b, S, s, j, fx, fy, rfl, _⟩ := h
    rfl
  obtain ⟨x, t, b, S, s, j, fx, fy, rfl, ⟨C, G⟩, hS, hb, q⟩ := h
  refine ⟨_, (pss_cons (ps_if (PW.pt (pw_or (pt_not (pt_val (pcall C_has_landmark (hr.mono (by omega)) rfl (pa_cons (pv 0) (pa_cons (pv 1) pa_nil))))) (pw_or1 (pt_not (pt_val (pcall C_is_place (hr.mono (by omega)) rfl (pa_cons (pv 2) pa_nil))))))) (pss_one (ps_ret (pe_lst (pa_cons (pgI rfl T.gWRONG) pa_nil))))
        pss_nil)
      (pss_cons (ps_fld (pv 0) (pcall C_places_with (hr.mono (by omega)) rfl (pa_cons (pv 0) (pa_cons (pv 1) (pa_cons (pv 2) pa_nil)))) rfl)
      (pss_one (ps_ret (pe_lst (pa_cons pe_int pa_nil)))))), ?_⟩
  obtain ⟨np, nt⟩ := TC.ch
  have pl4 := plOf_len s
  have m4 := G.m4
  have hs : Same (hide H (x :: t :: S)) H := hide_same _ _
  have bad : (s.marks.length ≤ j ∨ (Mu51.near fx && Mu51.near fy) = false) → Told H Q [-1] := fun h => by
    have h' : Mu51.many s ≤ j ∨ (Mu51.near fx && Mu51.near fy) = false := h
    have e : Mu51.step (some s) (.move j fx fy) = (some s, [-1]) := by simp only [Mu51.step, if_pos h']
    rw [e] at q
    exact q.told ⟨C, G⟩
  refine ⟨_, rfl, _, rfl, x, t, S, _, _, j, rfl, C, _, rfl, ?_⟩
  rw [pl4]
  refine tNot' (fun d => ?_) (fun d => ?_)
  · exact iteT ⟨(by show 1 ≤ sizeLine; decide), fun p n => (bad (.inl (by have := of_decide_eq_false d; omega))).lst n⟩
  have hj : j < s.marks.length := of_decide_eq_true d
  refine ⟨_, rfl, b, [fx, fy], rfl, SqL.of (hs _ _ hb), (by show 2 ≤ 10000; decide), fun H1 s1 => ⟨_, rfl, ?_⟩⟩
  rw [place2]
  refine tNot' (fun nr => ?_) (fun nr => ?_)
  · exact ⟨(by show 1 ≤ sizeLine; decide), fun p n => ((bad (.inr nr)).same s1).lst n⟩
  have nb : ¬ (Mu51.many s ≤ j ∨ (Mu51.near fx && Mu51.near fy) = false) := by
    rintro (h | h)
    · have : s.marks.length ≤ j := h
      omega
    · rw [nr] at h
      cases h
  have e : Mu51.step (some s) (.move j fx fy) = (some { s with marks := s.marks.set j (some ⟨fx, fy⟩) }, [0]) := by simp only [Mu51.step, if_neg nb]
  rw [e] at q
  obtain ⟨dx, p, us, D⟩ := C
  obtain ⟨ps, hps, hpp⟩ := D.pl
  have lp : ps.length = s.marks.length := (pairLen hpp).trans pl4
  refine ⟨_, rfl, _, rfl, _, rfl, x, t, S, plOf s, txOf s, dx, p, us, ps, j, .ref b, rfl, D.same s1, s1.seq (hs.seq hps), by omega, fun H2 u s2 n2 e2 => ?_⟩
  have s12 := s1.trans s2
  refine ⟨_, rfl, x, CC, dx, _, rfl, s12 _ _ D.e1, TC.cl, np, (by show 2 < 1000; decide), ?_⟩
  rw [F2_put_places]
  refine ⟨(by show 1 ≤ sizeLine; decide), fun r nr' => ?_⟩
  obtain ⟨h1, h2, h3⟩ := put_places (o := some ⟨fx, fy⟩) D G (fun p z => by rw [← Option.some.inj z]; exact near_of nr) hS hpp s12 (Same.hide s12 _ _ _ hb) (s1.free n2) e2 nr'
  exact q _ r t h1 (.inl rfl) h2 h3 upd_same

/-! ### make_gone -/
abbrev s_make_gone : Stmt := topS 75
theorem sc_make_gone : FnScope ["chart", "landmark"] ["chart", "landmark"] (defScope s_make_gone) := ⟨rfl, rfl, rfl, by decide +kernel, rfl, by decide +kernel, by decide +kernel⟩
def sp_make_gone (K : PySem.W.Frag) (CC : Addr) : Sp := fun vs H Q _ => ∃ (x t : Addr) (S : List Addr) (s : State) (j : Nat), vs = [.ref x, .int j] ∧ SAt K CC H x t S s ∧ (∀ b ∈ S, H b ≠ none) ∧ ToldS K CC x t S H Q (Mu51.step (some s) (.gone j))
theorem ok_make_gone {f : Addr} {fd : FuncData} {k : Nat} (F : Fun K "make_gone" "make_gone" s_make_gone f fd) (T : Txt K mg aN aS aM) (TC : TxC K CC chF)
    (C_has_landmark : Cal P w K mg base 1 "has_landmark" ["chart", "landmark"] (sp_has_landmark K CC)) (C_places_with : Cal P w K mg base 1 "places_with" ["chart", "landmark", "place"] (sp_places_with K CC)) :
    FnOk P w K mg base CX0 (k + 2) f fd ["chart", "landmark"] (sp_make_gone K CC) := by
  refine F.ok sc_make_gone (fun vs H Q E h => ?_) (fun cdv A outer s H vs Q E hr h => ?_)
  · obtain ⟨x, t, S, s, j, rfl, _⟩ := h
    rfl
  obtain ⟨x, t, S, s, j, rfl, ⟨C, G⟩, hS, q⟩ := h
  refine ⟨_, (pss_cons (ps_if (pt_not (pt_val (pcall C_has_landmark (hr.mono (by omega)) rfl (pa_cons (pv 0) (pa_cons (pv 1) pa_nil))))) (pss_one (ps_ret (pe_lst (pa_cons (pgI rfl T.gWRONG) pa_nil))))
        pss_nil)
      (pss_cons (ps_fld (pv 0) (pcall C_places_with (hr.mono (by omega)) rfl (pa_cons (pv 0) (pa_cons (pv 1) (pa_cons (pe_lst pa_nil) pa_nil)))) rfl)
      (pss_one (ps_ret (pe_lst (pa_cons pe_int pa_nil)))))), ?_⟩
  obtain ⟨np, nt⟩ := TC.ch
  have pl4 := plOf_len s
  have m4 := G.m4
  have hs : Same (hide H (x :: t :: S)) H := hide_same _ _
  refine ⟨_, rfl, _, rfl, x, t, S, _, _, j, rfl, C, _, rfl, ?_⟩
  rw [pl4]
  refine tNot' (fun d => ?_) (fun d => ?_)
  · have h' : Mu51.many s ≤ j := by
      have := of_decide_eq_false d
      show s.marks.length ≤ j
      omega
    have e : Mu51.step (some s) (.gone j) = (some s, [-1]) := by simp only [Mu51.step, if_pos h']
    rw [e] at q
    exact ⟨(by show 1 ≤ sizeLine; decide), fun p n => (q.told ⟨C, G⟩).lst n⟩
  have hj : j < s.marks.length := of_decide_eq_true d
  have nb : ¬ Mu51.many s ≤ j := by
    show ¬ s.marks.length ≤ j
    omega
  have e : Mu51.step (some s) (.gone j) = (some { s with marks := s.marks.set j none }, [0]) := by simp only [Mu51.step, if_neg nb]
  rw [e] at q
  obtain ⟨dx, p, us, D⟩ := C
  obtain ⟨ps, hps, hpp⟩ := D.pl
  have lp : ps.length = s.marks.length := (pairLen hpp).trans pl4
  refine ⟨_, rfl, _, rfl, Nat.zero_le _, fun c nc => ?_⟩
  have s1 := same_upd (o := .lst []) nc
  refine ⟨x, t, S, plOf s, txOf s, dx, p, us, ps, j, .ref c, rfl, D.same s1, s1.seq (hs.seq hps), by omega, fun H2 u s2 n2 e2 => ?_⟩
  have s12 := s1.trans s2
  refine ⟨_, rfl, x, CC, dx, _, rfl, s12 _ _ D.e1, TC.cl, np, (by show 2 < 1000; decide), ?_⟩
  rw [F2_put_places]
  refine ⟨(by show 1 ≤ sizeLine; decide), fun r nr' => ?_⟩
  obtain ⟨h1, h2, h3⟩ := put_places (o := none) D G (fun p z => by cases z) hS hpp s12 (hide_of (new_out D hS nc) (s2 _ _ upd_same)) (s1.free n2) e2 nr'
  exact q _ r t h1 (.inl rfl) h2 h3 upd_same

/-! ### look -/
abbrev s_look : Stmt := topS 76
theorem sc_look : FnScope ["chart", "answer", "place", "sayings"] ["chart"] (defScope s_look) := ⟨rfl, rfl, rfl, by decide +kernel, rfl, by decide +kernel, by decide +kernel⟩
def lookM (o : Option Pt) : List Int := match o with
  | none => [0]
  | some q => [1, q.x, q.y]
theorem lookM_len : ∀ (m : List (Option Pt)), (m.flatMap lookM).length ≤ 3 * m.length := flat_len lookM fun a => by cases a <;> simp [lookM]
theorem encM_len0 (o : Option Pt) : (encM o).length = 0 ↔ o = none := by
  cases o <;> simp [encM]
def sp_look (K : PySem.W.Frag) (CC : Addr) : Sp := fun vs H Q _ => ∃ (x t : Addr) (S : List Addr) (s : State), vs = [.ref x] ∧ SAt K CC H x t S s ∧ Told H Q (Mu51.step (some s) .look).2
theorem ok_look {f : Addr} {fd : FuncData} {k : Nat} (F : Fun K "look" "look" s_look f fd) (T : Txt K mg aN aS aM) (TC : TxC K CC chF) : FnOk P w K mg base CX0 (k + 1) f fd ["chart"] (sp_look K CC) := by
  refine F.ok sc_look (fun vs H Q E h => ?_) (fun cdv A outer s H vs Q E hr h => ?_)
  · obtain ⟨x, t, S, s, rfl, _⟩ := h
    rfl
  obtain ⟨x, t, S, s, rfl, ⟨C, G⟩, q⟩ := h
  refine ⟨_, (pss_cons (ps_set (i := 1) sc_look.nd rfl (Or.inl rfl) (pe_lst (pa_cons (pe_callB (call_lenK (K := K) rfl) (by rfl) T.len PySem.boot_len (pa_cons (pe_fld (pv 0) rfl) pa_nil)) pa_nil)))
      (pss_cons (ps_for PassesOwn.never rfl (pi_list (pe_fld (pv 0) rfl)) (pg_name (i := 2) sc_look.nd rfl (Or.inl rfl))
        (pss_cons (ps_expr (pe_bm PySem.F.plainAttrs_list PySem.F.slot_list_append PySem.F.type_list_append mt_append (pv 1) (pa_cons (pe_ifExp (pt_cmpR op_eq (pe_callB (call_lenK (K := K) rfl) (by rfl) T.len PySem.boot_len (pa_cons (pv 2) pa_nil)) pe_int (nomark _)) pe_int pe_int) pa_nil)))
        (pss_one (ps_expr (pe_bm PySem.F.plainAttrs_list PySem.F.slot_list_extend PySem.F.type_list_extend mt_extend (pv 1) (pa_cons (pv 2) pa_nil))))))
      (pss_cons (ps_expr (pe_bm PySem.F.plainAttrs_list PySem.F.slot_list_append PySem.F.type_list_append mt_append (pv 1) (pa_cons (pe_callB (call_lenK (K := K) rfl) (by rfl) T.len PySem.boot_len (pa_cons (pe_fld (pv 0) rfl) pa_nil)) pa_nil)))
      (pss_cons (ps_expr (pe_bm PySem.F.plainAttrs_list PySem.F.slot_list_extend PySem.F.type_list_extend mt_extend (pv 1) (pa_cons (pe_lc (own := [("sayings", 3)]) rfl sc_look.nd (pi_list (pe_fld (pv 0) rfl)) (blkOk_by (N := ["chart", "answer", "place", "sayings"]) (sc := defScope s_look) (by decide +kernel)) (fun _ _ _ _ _ => (pg_name (i := 3) sc_look.nd rfl (Or.inl rfl))) (fun _ _ _ _ _ => pts_nil) (fun _ _ _ _ _ => (pe_callB (call_lenK (K := K) rfl) (by rfl) T.len PySem.boot_len (pa_cons (pv 3) pa_nil)))) pa_nil)))
      (pss_one (ps_ret (pv 1))))))), ?_⟩
  obtain ⟨np, nt⟩ := TC.ch
  have pl4 := plOf_len s
  have m4 := G.m4
  have t4 := G.t4
  have hs : Same (hide H (x :: t :: S)) H := hide_same _ _
  obtain ⟨dx, p, us, D⟩ := C
  obtain ⟨ps, hps, hpp⟩ := D.pl
  have lp : ps.length = s.marks.length := (pairLen hpp).trans pl4
  have lu : us.length = s.texts.length := (pairLen D.tx).trans (txOf_len s)
  refine ⟨_, rfl, x, CC, dx, _, _, rfl, D.e1, TC.cl, np, F2_places p t, p, ps, rfl, .inl (hs.seq hps), (by show 1 ≤ sizeLine; decide), fun an nan => ?_⟩
  have s1 := same_upd (o := .lst [.int (ps.length : Nat)]) nan
  refine ⟨_, rfl, x, CC, dx, _, _, rfl, s1 _ _ D.e1, TC.cl, np, F2_places p t, p, rfl, ⟨_, s1.seq (hs.seq hps)⟩, ?_⟩
  refine for_list (K := K) (a := p) (xs := ps) (fun i σ H' => ∃ z2, σ = [some (.ref x), some (.ref an), z2, none] ∧ Same H H' ∧ H' an = some (.lst (((s.marks.length : Int) :: (s.marks.take i).flatMap lookM).map V.int))) ⟨none, rfl, s1, by rw [lp, upd_same]; rfl⟩ (fun i σ H' _ ⟨_, _, sH, _⟩ => sH.seq (hs.seq hps)) ?_ ?_
  · rintro i v σ H' hv ⟨z2, rfl, s2, ea⟩
    obtain ⟨l, hl, b, rfl, hb⟩ := pairGet hpp hv
    have hil : i < s.marks.length := by
      have := (List.getElem?_eq_some_iff.mp hl).1
      omega
    obtain ⟨o, ho⟩ : ∃ o, s.marks[i]? = some o := ⟨_, List.getElem?_eq_getElem hil⟩
    have el : l = encM o := by
      unfold plOf at hl
      rw [List.getElem?_map, ho] at hl
      exact (Option.some.inj hl).symm
    subst el
    have hb2 : H' b = some (.lst ((encM o).map V.int)) := s2 _ _ (hs _ _ hb)
    have ban : b ≠ an := fun z => by rw [z] at hb; rw [hs _ _ hb] at nan; cases nan
    have fl := lookM_len (s.marks.take i)
    have ft : (s.marks.take i).length ≤ 4 := by rw [List.length_take]; omega
    have el4 : (encM o).length ≤ 2 := by cases o <;> simp [encM]
    have fin : ∀ {z : Int}, lookM o = z :: encM o → ∃ y, ([some (V.ref x), some (V.ref an), some (.ref b), none] : List (Option V)) = [some (.ref x), some (.ref an), y, none] ∧ Same H (upd (upd H' an (.lst (((s.marks.length : Int) :: (s.marks.take i).flatMap lookM).map V.int ++ [.int z]))) an (.lst (((s.marks.length : Int) :: (s.marks.take i).flatMap lookM).map V.int ++ [.int z] ++ (encM o).map V.int))) ∧
        (upd (upd H' an (.lst (((s.marks.length : Int) :: (s.marks.take i).flatMap lookM).map V.int ++ [.int z]))) an (.lst (((s.marks.length : Int) :: (s.marks.take i).flatMap lookM).map V.int ++ [.int z] ++ (encM o).map V.int))) an = some (.lst (((s.marks.length : Int) :: (s.marks.take (i + 1)).flatMap lookM).map V.int)) := fun {z} hz => by
      refine ⟨_, rfl, fun c u ec => ?_, ?_⟩
      · have : c ≠ an := fun z => by rw [z, nan] at ec; cases ec
        rw [upd_ne this, upd_ne this]
        exact s2 _ _ ec
      · rw [upd_same, take_succ_get ho, List.flatMap_append, List.flatMap_cons, List.flatMap_nil, List.append_nil, hz]
        simp
    refine ⟨_, rfl, .inl ⟨rfl, _, SqL.of ea⟩, ?_⟩
    refine ⟨_, rfl, b, _, rfl, .inl (SqL.of hb2), rfl, _, rfl, ?_⟩
    refine tEq (fun c => ?_) (fun c => ?_)
    · have e0 : lookM o = 0 :: encM o := by
        rw [List.length_map] at c
        have : o = none := (encM_len0 o).mp (by omega)
        rw [this]
        rfl
      refine ⟨an, _, _, rfl, rfl, ea, small_of (by rw [List.length_map, List.length_cons]; omega), ?_⟩
      refine ⟨_, rfl, .inl ⟨rfl, _, SqL.of upd_same⟩, _, rfl, an, b, _, _, rfl, rfl, upd_same, (upd_ne ban).trans hb2, ?_, ?_⟩
      · refine Nat.le_of_lt (small_of ?_)
        rw [List.length_append, List.length_map, List.length_map, List.length_cons, List.length_singleton]
        omega
      · exact fin e0
    · have e0 : lookM o = 1 :: encM o := by
        cases o with
        | none => exact absurd rfl c
        | some pt => rfl
      refine ⟨an, _, _, rfl, rfl, ea, small_of (by rw [List.length_map, List.length_cons]; omega), ?_⟩
      refine ⟨_, rfl, .inl ⟨rfl, _, SqL.of upd_same⟩, _, rfl, an, b, _, _, rfl, rfl, upd_same, (upd_ne ban).trans hb2, ?_, ?_⟩
      · refine Nat.le_of_lt (small_of ?_)
        rw [List.length_append, List.length_map, List.length_map, List.length_cons, List.length_singleton]
        omega
      · exact fin e0
  · rintro σ H' ⟨z2, rfl, s2, ea⟩
    rw [lp, List.take_length] at ea
    have fl := lookM_len s.marks
    have D2 := D.same s2
    have tan : t ≠ an := fun z => by have := D.e2; rw [z, nan] at this; cases this
    have xan : x ≠ an := fun z => by have := D.e1; rw [z, nan] at this; cases this
    refine ⟨_, rfl, .inl ⟨rfl, _, SqL.of ea⟩, _, rfl, x, CC, dx, _, _, rfl, D2.e1, TC.cl, nt, F2_texts p t, t, us, rfl, .inl (SqL.of D2.e2), ?_⟩
    refine ⟨an, _, _, rfl, rfl, ea, small_of (by rw [List.length_map, List.length_cons]; omega), ?_⟩
    have sB : Same H (upd H' an (.lst (((s.marks.length : Int) :: s.marks.flatMap lookM).map V.int ++ [.int (us.length : Nat)]))) := fun c u ec => by
      have : c ≠ an := fun z => by rw [z, nan] at ec; cases ec
      rw [upd_ne this]
      exact s2 _ _ ec
    have D3 := D.same sB
    refine ⟨_, rfl, .inl ⟨rfl, _, SqL.of upd_same⟩, ?_⟩
    refine ⟨_, rfl, x, CC, dx, _, _, rfl, D3.e1, TC.cl, nt, F2_texts p t, t, rfl, ⟨_, SqL.of D3.e2⟩, fun E nE => lc_list (xs := us) (fun i H2 => MadeV (upd H' an (.lst (((s.marks.length : Int) :: s.marks.flatMap lookM).map V.int ++ [.int (us.length : Nat)]))) E (((s.texts.map fun (u : Text) => (u.length : Int)).take i).map V.int) H2) (MadeV.start nE) (fun i H2 _ M => M.1.seq (SqL.of D3.e2)) (fun i v H2 hv M => ?_) (fun H2 M => ?_)⟩
    · obtain ⟨ls, hls, b, rfl, rs, hrs, hrp⟩ := pairGet D3.tx hv
      unfold txOf at hls
      rw [List.getElem?_map] at hls
      obtain ⟨u, hu, rfl⟩ := Option.map_eq_some_iff.mp hls
      have lr : rs.length = u.length := (pairLen hrp).trans (encT_len u)
      refine ⟨rfl, keepIt ?_⟩
      refine ⟨_, rfl, b, rs, rfl, .inl (M.1.seq ((hide_same _ _).seq hrs)), ?_⟩
      refine ⟨_, M.2, small_of (by rw [List.length_map, List.length_take, List.length_map]; omega), ?_⟩
      rw [take_map_succ hu, List.map_append, lr]
      exact M.put nE _
    · rw [lu, take_all_map] at M
      have ea3 := M.1 _ _ upd_same
      refine ⟨an, E, _, _, rfl, rfl, ea3, M.2, ?_, ?_⟩
      · refine Nat.le_of_lt (small_of ?_)
        rw [List.length_append, List.length_map, List.length_map, List.length_map, List.length_cons, List.length_singleton]
        omega
      · refine ⟨_, rfl, ?_⟩
        have e : (Mu51.step (some s) .look).2 = (s.marks.length : Int) :: s.marks.flatMap lookM ++ (s.texts.length : Int) :: s.texts.map fun (t : Text) => (t.length : Int) := rfl
        rw [e] at q
        refine q _ an (fun c u ec => ?_) nan ?_
        · have : c ≠ an := fun z => by rw [z, nan] at ec; cases ec
          rw [upd_ne this]
          rw [lu] at sB
          exact M.1 _ _ (sB _ _ ec)
        · rw [upd_same]
          simp
end
end Gk
namespace Gk
open PySem PySem.Spec PyProof.Rows L2
open Mu51 (Pt Mix State Text)

theorem ask_zero {nums : List Int} {xs : List (List Int)} {c : Mu51.Call} (h : AskC 0 nums xs c) : c = .begin_ xs ∧ ∀ l ∈ xs, l.length ≤ 3 := by
  cases h with
  | begin_ h => exact ⟨rfl, h⟩
theorem ask_none {p : Int} {nums : List Int} {xs : List (List Int)} {c : Mu51.Call} (h : AskC p nums xs c) (hp : p ≠ 0) : Mu51.step none c = (none, [-9]) := by
  cases h <;> first | exact absurd rfl hp | rfl
theorem ToldS.same {K : PySem.W.Frag} {CC x t : Addr} {S : List Addr} {H H1 : Hp} {Q : VK} {r : Option State × List Int} (h : ToldS K CC x t S H Q r) (s : Same H H1) : ToldS K CC x t S H1 Q r :=
  fun H' p t' M ht O n e => h H' p t' ((Mut.of_same s).trans M) (ht.imp id fun z => s.free z) O (s.free n) e

section
variable {P : Program} {w : World} {K : PySem.W.Frag} {mg : Str → Option Value} {base : Heap} {aN aS aM CF CC : Addr}

/-! ### answer_call -/
abbrev s_answer_call : Stmt := topS 78
theorem sc_answer_call : FnScope ["chart", "number", "numbers", "lists"] ["chart", "number", "numbers", "lists"] (defScope s_answer_call) := ⟨rfl, rfl, rfl, by decide +kernel, rfl, by decide +kernel, by decide +kernel⟩
theorem ok_answer_call {f : Addr} {fd : FuncData} {k : Nat} (F : Fun K "answer_call" "answer_call" s_answer_call f fd) (T : Txt K mg aN aS aM) (TC : TxC K CC chF)
    (C_begin : Cal P w K mg base 2 "begin" ["chart", "landmarks"] (sp_begin K CC)) (C_add_text : Cal P w K mg base 3 "add_text" ["chart", "sayings"] (sp_add_text K CC))
    (C_treasure : Cal P w K mg base 6 "treasure" ["chart", "text"] (sp_treasure K CC)) (C_needs : Cal P w K mg base 6 "needs" ["chart", "text"] (sp_needs K CC))
    (C_tells : Cal P w K mg base 6 "tells" ["chart", "text", "landmark"] (sp_tells K CC)) (C_same : Cal P w K mg base 6 "same" ["chart", "text", "other"] (sp_same K CC))
    (C_lost : Cal P w K mg base 6 "lost" ["chart", "text", "landmark", "found"] (sp_lost K CC)) (C_line : Cal P w K mg base 6 "line" ["chart", "text", "landmark", "first", "second"] (sp_line K CC))
    (C_apart : Cal P w K mg base 6 "apart" ["chart", "text", "other"] (sp_apart K CC)) (C_move : Cal P w K mg base 2 "move" ["chart", "landmark", "place"] (sp_move K CC))
    (C_make_gone : Cal P w K mg base 2 "make_gone" ["chart", "landmark"] (sp_make_gone K CC)) (C_look : Cal P w K mg base 1 "look" ["chart"] (sp_look K CC)) :
    FnOk P w K mg base CX0 (k + 7) f fd ["chart", "number", "numbers", "lists"] (sp_answer_call K CC) := by
  refine F.ok sc_answer_call (fun vs H Q E h => ?_) (fun cdv A outer s H vs Q E hr h => ?_)
  · obtain ⟨x, t, b, d, S, o, p, nums, xs, c, rfl, _⟩ := h
    rfl
  obtain ⟨x, t, b, d, S, o, p, nums, xs, c, rfl, O, hb, hd, hS, hA, q⟩ := h
  refine ⟨_, (pss_cons (ps_if (pt_cmpR op_eq (pv 1) (pgI rfl T.gBEGIN) (nomark _)) (pss_one (ps_ret (pcall C_begin (hr.mono (by omega)) rfl (pa_cons (pv 0) (pa_cons (pv 3) pa_nil)))))
        pss_nil)
      (pss_cons (ps_if (pt_cmpR op_eq (pe_callB (call_lenK (K := K) rfl) (by rfl) T.len PySem.boot_len (pa_cons (pe_fld (pv 0) rfl) pa_nil)) pe_int (nomark _)) (pss_one (ps_ret (pe_lst (pa_cons (pgI rfl T.gNO_MAP) pa_nil))))
        pss_nil)
      (pss_cons (ps_if (pt_cmpR op_eq (pv 1) (pgI rfl T.gTEXT) (nomark _)) (pss_one (ps_ret (pcall C_add_text (hr.mono (by omega)) rfl (pa_cons (pv 0) (pa_cons (pv 3) pa_nil)))))
        pss_nil)
      (pss_cons (ps_if (pt_cmpR op_eq (pv 1) (pgI rfl T.gTREASURE) (nomark _)) (pss_one (ps_ret (pcall C_treasure (hr.mono (by omega)) rfl (pa_cons (pv 0) (pa_cons (pe_ix ix_list (pv 2) pe_int (fun _ _ => rfl)) pa_nil)))))
        pss_nil)
      (pss_cons (ps_if (pt_cmpR op_eq (pv 1) (pgI rfl T.gNEEDS) (nomark _)) (pss_one (ps_ret (pcall C_needs (hr.mono (by omega)) rfl (pa_cons (pv 0) (pa_cons (pe_ix ix_list (pv 2) pe_int (fun _ _ => rfl)) pa_nil)))))
        pss_nil)
      (pss_cons (ps_if (pt_cmpR op_eq (pv 1) (pgI rfl T.gTELLS) (nomark _)) (pss_one (ps_ret (pcall C_tells (hr.mono (by omega)) rfl (pa_cons (pv 0) (pa_cons (pe_ix ix_list (pv 2) pe_int (fun _ _ => rfl)) (pa_cons (pe_ix ix_list (pv 2) pe_int (fun _ _ => rfl)) pa_nil))))))
        pss_nil)
      (pss_cons (ps_if (pt_cmpR op_eq (pv 1) (pgI rfl T.gSAME) (nomark _)) (pss_one (ps_ret (pcall C_same (hr.mono (by omega)) rfl (pa_cons (pv 0) (pa_cons (pe_ix ix_list (pv 2) pe_int (fun _ _ => rfl)) (pa_cons (pe_ix ix_list (pv 2) pe_int (fun _ _ => rfl)) pa_nil))))))
        pss_nil)
      (pss_cons (ps_if (pt_cmpR op_eq (pv 1) (pgI rfl T.gLOST) (nomark _)) (pss_one (ps_ret (pcall C_lost (hr.mono (by omega)) rfl (pa_cons (pv 0) (pa_cons (pe_ix ix_list (pv 2) pe_int (fun _ _ => rfl)) (pa_cons (pe_ix ix_list (pv 2) pe_int (fun _ _ => rfl)) (pa_cons (pe_slice sl_list (pv 2) (po_some pe_int) (po_some pe_int)) pa_nil)))))))
        pss_nil)
      (pss_cons (ps_if (pt_cmpR op_eq (pv 1) (pgI rfl T.gLINE) (nomark _)) (pss_one (ps_ret (pcall C_line (hr.mono (by omega)) rfl (pa_cons (pv 0) (pa_cons (pe_ix ix_list (pv 2) pe_int (fun _ _ => rfl)) (pa_cons (pe_ix ix_list (pv 2) pe_int (fun _ _ => rfl)) (pa_cons (pe_slice sl_list (pv 2) (po_some pe_int) (po_some pe_int)) (pa_cons (pe_slice sl_list (pv 2) (po_some pe_int) (po_some pe_int)) pa_nil))))))))
        pss_nil)
      (pss_cons (ps_if (pt_cmpR op_eq (pv 1) (pgI rfl T.gAPART) (nomark _)) (pss_one (ps_ret (pcall C_apart (hr.mono (by omega)) rfl (pa_cons (pv 0) (pa_cons (pe_ix ix_list (pv 2) pe_int (fun _ _ => rfl)) (pa_cons (pe_ix ix_list (pv 2) pe_int (fun _ _ => rfl)) pa_nil))))))
        pss_nil)
      (pss_cons (ps_if (pt_cmpR op_eq (pv 1) (pgI rfl T.gMOVE) (nomark _)) (pss_one (ps_ret (pcall C_move (hr.mono (by omega)) rfl (pa_cons (pv 0) (pa_cons (pe_ix ix_list (pv 2) pe_int (fun _ _ => rfl)) (pa_cons (pe_slice sl_list (pv 2) (po_some pe_int) (po_some pe_int)) pa_nil))))))
        pss_nil)
      (pss_cons (ps_if (pt_cmpR op_eq (pv 1) (pgI rfl T.gGONE) (nomark _)) (pss_one (ps_ret (pcall C_make_gone (hr.mono (by omega)) rfl (pa_cons (pv 0) (pa_cons (pe_ix ix_list (pv 2) pe_int (fun _ _ => rfl)) pa_nil)))))
        pss_nil)
      (pss_cons (ps_if (pt_cmpR op_eq (pv 1) (pgI rfl T.gLOOK) (nomark _)) (pss_one (ps_ret (pcall C_look (hr.mono (by omega)) rfl (pa_cons (pv 0) pa_nil))))
        pss_nil)
      (pss_one ps_never)))))))))))))), ?_⟩
  obtain ⟨np, nt⟩ := TC.ch
  refine ⟨_, rfl, rfl, _, rfl, ?_⟩
  refine tEq (fun c0 => ?_) (fun c0 => ?_)
  · subst c0
    obtain ⟨rfl, h3⟩ := ask_zero hA
    exact ⟨_, rfl, _, rfl, x, t, d, S, o, xs, rfl, O, hd, fun l hl => Nat.le_trans (h3 l hl) (by decide), q⟩
  cases o with
  | none =>
    obtain ⟨dx, p', us, D⟩ := id O
    obtain ⟨ps, hps, hpp⟩ := D.pl
    have lp := pairLen hpp
    refine ⟨_, rfl, x, CC, dx, _, _, rfl, D.e1, TC.cl, np, F2_places p' t, p', ps, rfl, .inl ((hide_same _ _).seq hps), rfl, _, rfl, ?_⟩
    refine tEq (fun _ => ?_) (fun z => absurd (show ((ps.length : Nat) : Int) = 0 by rw [lp]; rfl) z)
    rw [ask_none hA c0] at q
    exact ⟨(by show 1 ≤ sizeLine; decide), fun p n => (q.told O).lst n⟩
  | some s =>
    obtain ⟨C, G⟩ := id O
    obtain ⟨dx, p', us, D⟩ := id C
    obtain ⟨ps, hps, hpp⟩ := D.pl
    have lp : ps.length = s.marks.length := (pairLen hpp).trans (plOf_len s)
    have m1 := G.m1
    refine ⟨_, rfl, x, CC, dx, _, _, rfl, D.e1, TC.cl, np, F2_places p' t, p', ps, rfl, .inl ((hide_same _ _).seq hps), rfl, _, rfl, ?_⟩
    refine tEq (fun z => absurd z (by omega)) (fun _ => ?_)
    cases hA with
    | begin_ h => exact absurd rfl c0
    | text h =>
      refine ⟨_, rfl, rfl, _, rfl, iteT ?_⟩
      exact ⟨_, rfl, _, rfl, x, t, d, S, s, xs, rfl, O, hd.rows, h, q⟩
    | treasure i =>
      refine ⟨_, rfl, rfl, _, rfl, iteF ⟨_, rfl, rfl, _, rfl, iteT ?_⟩⟩
      have qt : Told H Q (Mu51.step (some s) (.treasure i)).2 := ToldS.told (o := some s) q O
      have hb : SqL K H b [.int i] := hb
      exact ⟨_, rfl, _, rfl, b, _, 0, _, rfl, rfl, hb, at0, x, t, S, s, i, rfl, O, qt⟩
    | needs i =>
      refine ⟨_, rfl, rfl, _, rfl, iteF ⟨_, rfl, rfl, _, rfl, iteF ⟨_, rfl, rfl, _, rfl, iteT ?_⟩⟩⟩
      have qt : Told H Q (Mu51.step (some s) (.needs i)).2 := ToldS.told (o := some s) q O
      have hb : SqL K H b [.int i] := hb
      exact ⟨_, rfl, _, rfl, b, _, 0, _, rfl, rfl, hb, at0, x, t, S, s, i, rfl, O, qt⟩
    | mix i j =>
      refine ⟨_, rfl, rfl, _, rfl, iteF ⟨_, rfl, rfl, _, rfl, iteF ⟨_, rfl, rfl, _, rfl, iteF ⟨_, rfl, rfl, _, rfl, iteT ?_⟩⟩⟩⟩
      have qt : Told H Q (Mu51.step (some s) (.mix i j)).2 := ToldS.told (o := some s) q O
      have hb : SqL K H b [.int i, .int j] := hb
      exact ⟨_, rfl, _, rfl, b, _, 0, _, rfl, rfl, hb, at0, _, rfl, b, _, 1, _, rfl, rfl, hb, at1, x, t, S, s, i, j, rfl, O, qt⟩
    | same i j =>
      refine ⟨_, rfl, rfl, _, rfl, iteF ⟨_, rfl, rfl, _, rfl, iteF ⟨_, rfl, rfl, _, rfl, iteF ⟨_, rfl, rfl, _, rfl, iteF ⟨_, rfl, rfl, _, rfl, iteT ?_⟩⟩⟩⟩⟩
      have qt : Told H Q (Mu51.step (some s) (.same i j)).2 := ToldS.told (o := some s) q O
      have hb : SqL K H b [.int i, .int j] := hb
      exact ⟨_, rfl, _, rfl, b, _, 0, _, rfl, rfl, hb, at0, _, rfl, b, _, 1, _, rfl, rfl, hb, at1, x, t, S, s, i, j, rfl, O, qt⟩
    | lost i j fx fy hx hy =>
      refine ⟨_, rfl, rfl, _, rfl, iteF ⟨_, rfl, rfl, _, rfl, iteF ⟨_, rfl, rfl, _, rfl, iteF ⟨_, rfl, rfl, _, rfl, iteF ⟨_, rfl, rfl, _, rfl, iteF ⟨_, rfl, rfl, _, rfl, iteT ?_⟩⟩⟩⟩⟩⟩
      have qt : Told H Q (Mu51.step (some s) (.lost i j fx fy)).2 := ToldS.told (o := some s) q O
      have hb : SqL K H b [.int i, .int j, .int fx, .int fy] := hb
      have ec : cutV [V.int i, V.int j, V.int fx, V.int fy] (some 2) (some 4) = [V.int fx, V.int fy] := cut_mid _ 2 4 (by decide) (by show 4 ≤ 4; decide)
      refine ⟨_, rfl, _, rfl, b, _, 0, _, rfl, rfl, hb, at0, _, rfl, b, _, 1, _, rfl, rfl, hb, at1, _, rfl, 2, rfl, 4, rfl, b, _, rfl, hb, fun r nr => ?_⟩
      rw [ec]
      have s1 := same_upd (o := .lst [.int fx, .int fy]) nr
      exact ⟨x, t, r, S, s, i, j, fx, fy, rfl, SAt.same s1 O, SqL.of upd_same, qt.same s1⟩
    | line i j a1 a2 a3 a4 h1 h2 h3 h4 =>
      refine ⟨_, rfl, rfl, _, rfl, iteF ⟨_, rfl, rfl, _, rfl, iteF ⟨_, rfl, rfl, _, rfl, iteF ⟨_, rfl, rfl, _, rfl, iteF ⟨_, rfl, rfl, _, rfl, iteF ⟨_, rfl, rfl, _, rfl, iteF ⟨_, rfl, rfl, _, rfl, iteT ?_⟩⟩⟩⟩⟩⟩⟩
      have qt : Told H Q (Mu51.step (some s) (.line i j a1 a2 a3 a4)).2 := ToldS.told (o := some s) q O
      have hb : SqL K H b [.int i, .int j, .int a1, .int a2, .int a3, .int a4] := hb
      have ec : cutV [V.int i, V.int j, V.int a1, V.int a2, V.int a3, V.int a4] (some 2) (some 4) = [V.int a1, V.int a2] := cut_mid _ 2 4 (by decide) (by show 4 ≤ 6; decide)
      have ec2 : cutV [V.int i, V.int j, V.int a1, V.int a2, V.int a3, V.int a4] (some 4) (some 6) = [V.int a3, V.int a4] := cut_mid _ 4 6 (by decide) (by show 6 ≤ 6; decide)
      refine ⟨_, rfl, _, rfl, b, _, 0, _, rfl, rfl, hb, at0, _, rfl, b, _, 1, _, rfl, rfl, hb, at1, _, rfl, 2, rfl, 4, rfl, b, _, rfl, hb, fun r nr => ?_⟩
      rw [ec]
      have s1 := same_upd (o := .lst [.int a1, .int a2]) nr
      refine ⟨_, rfl, 4, rfl, 6, rfl, b, _, rfl, s1.seq hb, fun r2 nr2 => ?_⟩
      rw [ec2]
      have s2 := same_upd (o := .lst [.int a3, .int a4]) nr2
      exact ⟨x, t, r, r2, S, s, i, j, a1, a2, a3, a4, rfl, SAt.same (s1.trans s2) O, s2.seq (SqL.of upd_same), SqL.of upd_same, qt.same (s1.trans s2)⟩
    | apart i j =>
      refine ⟨_, rfl, rfl, _, rfl, iteF ⟨_, rfl, rfl, _, rfl, iteF ⟨_, rfl, rfl, _, rfl, iteF ⟨_, rfl, rfl, _, rfl, iteF ⟨_, rfl, rfl, _, rfl, iteF ⟨_, rfl, rfl, _, rfl, iteF ⟨_, rfl, rfl, _, rfl, iteF ⟨_, rfl, rfl, _, rfl, iteT ?_⟩⟩⟩⟩⟩⟩⟩⟩
      have qt : Told H Q (Mu51.step (some s) (.apart i j)).2 := ToldS.told (o := some s) q O
      have hb : SqL K H b [.int i, .int j] := hb
      exact ⟨_, rfl, _, rfl, b, _, 0, _, rfl, rfl, hb, at0, _, rfl, b, _, 1, _, rfl, rfl, hb, at1, x, t, S, s, i, j, rfl, O, qt⟩
    | move j fx fy hx hy =>
      refine ⟨_, rfl, rfl, _, rfl, iteF ⟨_, rfl, rfl, _, rfl, iteF ⟨_, rfl, rfl, _, rfl, iteF ⟨_, rfl, rfl, _, rfl, iteF ⟨_, rfl, rfl, _, rfl, iteF ⟨_, rfl, rfl, _, rfl, iteF ⟨_, rfl, rfl, _, rfl, iteF ⟨_, rfl, rfl, _, rfl, iteF ⟨_, rfl, rfl, _, rfl, iteT ?_⟩⟩⟩⟩⟩⟩⟩⟩⟩
      have hb : SqL K H b [.int j, .int fx, .int fy] := hb
      have ec : cutV [V.int j, V.int fx, V.int fy] (some 1) (some 3) = [V.int fx, V.int fy] := cut_mid _ 1 3 (by decide) (by show 3 ≤ 3; decide)
      refine ⟨_, rfl, _, rfl, b, _, 0, _, rfl, rfl, hb, at0, _, rfl, 1, rfl, 3, rfl, b, _, rfl, hb, fun r nr => ?_⟩
      rw [ec]
      have s1 := same_upd (o := .lst [.int fx, .int fy]) nr
      exact ⟨x, t, r, S, s, j, fx, fy, rfl, SAt.same s1 O, fun b hb z => hS b hb (s1.free z), hide_of (new_out D hS nr) upd_same, q.same s1⟩
    | gone j =>
      refine ⟨_, rfl, rfl, _, rfl, iteF ⟨_, rfl, rfl, _, rfl, iteF ⟨_, rfl, rfl, _, rfl, iteF ⟨_, rfl, rfl, _, rfl, iteF ⟨_, rfl, rfl, _, rfl, iteF ⟨_, rfl, rfl, _, rfl, iteF ⟨_, rfl, rfl, _, rfl, iteF ⟨_, rfl, rfl, _, rfl, iteF ⟨_, rfl, rfl, _, rfl, iteF ⟨_, rfl, rfl, _, rfl, iteT ?_⟩⟩⟩⟩⟩⟩⟩⟩⟩⟩
      have hb : SqL K H b [.int j] := hb
      exact ⟨_, rfl, _, rfl, b, _, 0, _, rfl, rfl, hb, at0, x, t, S, s, j, rfl, O, hS, q⟩
    | look =>
      refine ⟨_, rfl, rfl, _, rfl, iteF ⟨_, rfl, rfl, _, rfl, iteF ⟨_, rfl, rfl, _, rfl, iteF ⟨_, rfl, rfl, _, rfl, iteF ⟨_, rfl, rfl, _, rfl, iteF ⟨_, rfl, rfl, _, rfl, iteF ⟨_, rfl, rfl, _, rfl, iteF ⟨_, rfl, rfl, _, rfl, iteF ⟨_, rfl, rfl, _, rfl, iteF ⟨_, rfl, rfl, _, rfl, iteF ⟨_, rfl, rfl, _, rfl, iteT ?_⟩⟩⟩⟩⟩⟩⟩⟩⟩⟩⟩
      have qt : Told H Q (Mu51.step (some s) (.look)).2 := ToldS.told (o := some s) q O
      exact ⟨_, rfl, x, t, S, s, rfl, O, qt⟩
end
end Gk
namespace Gk
open PySem PySem.Spec PyProof.Rows L2
/-! ### the end -/
structure ClIn (K : PySem.W.Frag) (C : Addr) : Prop where
  pg : PySem.W.plainGet K C Str.empty = true
  hd : PySem.W.hasDictIn K C = true
  po : PySem.W.plainOver K C = true
  sa : PySem.W.findIn K (.ref C) "__setattr__" = some (some (.builtin "object.__setattr__"))
  mks : PySem.W.makesIn K C = true
  kc : PySem.W.keepIn K (.ref C) = true
theorem ClIn.cl {K : PySem.W.Frag} {C : Addr} (h : ClIn K C) : Cls K C := ⟨h.pg, h.hd, h.po, h.sa⟩
theorem mgI {K : PySem.W.Frag} {h : Heap} {mg : Str → Option Value} {n : Str} {i : Int} (X : K.In h) (G : h.Ns mainGlobals mg) {t : Tok} (e : PySem.W.nsIn K mainGlobals n = some (some (.int i t))) : ∃ t, mg n = some (.int i t) := ⟨t, PySem.W.mg_of X G e⟩
set_option maxHeartbeats 4000000 in
theorem all_mk {P : Program} {w : World} {K : PySem.W.Frag} {h : Heap} {mg : Str → Option Value} {fa f_is_saying f_is_text f_can_follow f_count_followed f_is_too_fine f_Follower___init__ f_Follower_follow f_Follower_go_to f_landmark_shares f_added f_halved f_turned f_shares_of f_Chart___init__ f_common_divisor f_in_lowest_terms f_product f_is_place f_has_text f_has_landmark f_places_with f_treasure_shares f_needed_landmarks f_refusal_if_gone f_treasure_in_parts f_treasure_place f_begin f_add_text f_treasure f_needs f_tells f_same f_lost f_line f_apart f_move f_make_gone f_look f_read_calls f_answer_call f_answers C_Chart C_Follower a_SAYING_LENGTHS a_NOTHING a_MIDDLE : Addr}
    {od_is_saying an_is_saying od_is_text an_is_text od_can_follow an_can_follow od_count_followed an_count_followed od_is_too_fine an_is_too_fine od_Follower___init__ an_Follower___init__ od_Follower_follow an_Follower_follow od_Follower_go_to an_Follower_go_to od_landmark_shares an_landmark_shares od_added an_added od_halved an_halved od_turned an_turned od_shares_of an_shares_of od_Chart___init__ an_Chart___init__ od_common_divisor an_common_divisor od_in_lowest_terms an_in_lowest_terms od_product an_product od_is_place an_is_place od_has_text an_has_text od_has_landmark an_has_landmark od_places_with an_places_with od_treasure_shares an_treasure_shares od_needed_landmarks an_needed_landmarks od_refusal_if_gone an_refusal_if_gone od_treasure_in_parts an_treasure_in_parts od_treasure_place an_treasure_place od_begin an_begin od_add_text an_add_text od_treasure an_treasure od_needs an_needs od_tells an_tells od_same an_same od_lost an_lost od_line an_line od_apart an_apart od_move an_move od_make_gone an_make_gone od_look an_look od_read_calls an_read_calls od_answer_call an_answer_call od_answers an_answers od_SAYING_LENGTHS od_NOTHING od_MIDDLE : Option Addr} {sl_is_saying sl_is_text sl_can_follow sl_count_followed sl_is_too_fine sl_Follower___init__ sl_Follower_follow sl_Follower_go_to sl_landmark_shares sl_added sl_halved sl_turned sl_shares_of sl_Chart___init__ sl_common_divisor sl_in_lowest_terms sl_product sl_is_place sl_has_text sl_has_landmark sl_places_with sl_treasure_shares sl_needed_landmarks sl_refusal_if_gone sl_treasure_in_parts sl_treasure_place sl_begin sl_add_text sl_treasure sl_needs sl_tells sl_same sl_lost sl_line sl_apart sl_move sl_make_gone sl_look sl_read_calls sl_answer_call sl_answers sl_SAYING_LENGTHS sl_NOTHING sl_MIDDLE : Array (Option Value)} {oc_is_saying kV_is_saying dc_is_saying pm_is_saying cd_is_saying ct_is_saying oc_is_text kV_is_text dc_is_text pm_is_text cd_is_text ct_is_text oc_can_follow kV_can_follow dc_can_follow pm_can_follow cd_can_follow ct_can_follow oc_count_followed kV_count_followed dc_count_followed pm_count_followed cd_count_followed ct_count_followed oc_is_too_fine kV_is_too_fine dc_is_too_fine pm_is_too_fine cd_is_too_fine ct_is_too_fine oc_Follower___init__ kV_Follower___init__ dc_Follower___init__ pm_Follower___init__ cd_Follower___init__ ct_Follower___init__ oc_Follower_follow kV_Follower_follow dc_Follower_follow pm_Follower_follow cd_Follower_follow ct_Follower_follow oc_Follower_go_to kV_Follower_go_to dc_Follower_go_to pm_Follower_go_to cd_Follower_go_to ct_Follower_go_to oc_landmark_shares kV_landmark_shares dc_landmark_shares pm_landmark_shares cd_landmark_shares ct_landmark_shares oc_added kV_added dc_added pm_added cd_added ct_added oc_halved kV_halved dc_halved pm_halved cd_halved ct_halved oc_turned kV_turned dc_turned pm_turned cd_turned ct_turned oc_shares_of kV_shares_of dc_shares_of pm_shares_of cd_shares_of ct_shares_of oc_Chart___init__ kV_Chart___init__ dc_Chart___init__ pm_Chart___init__ cd_Chart___init__ ct_Chart___init__ oc_common_divisor kV_common_divisor dc_common_divisor pm_common_divisor cd_common_divisor ct_common_divisor oc_in_lowest_terms kV_in_lowest_terms dc_in_lowest_terms pm_in_lowest_terms cd_in_lowest_terms ct_in_lowest_terms oc_product kV_product dc_product pm_product cd_product ct_product oc_is_place kV_is_place dc_is_place pm_is_place cd_is_place ct_is_place oc_has_text kV_has_text dc_has_text pm_has_text cd_has_text ct_has_text oc_has_landmark kV_has_landmark dc_has_landmark pm_has_landmark cd_has_landmark ct_has_landmark oc_places_with kV_places_with dc_places_with pm_places_with cd_places_with ct_places_with oc_treasure_shares kV_treasure_shares dc_treasure_shares pm_treasure_shares cd_treasure_shares ct_treasure_shares oc_needed_landmarks kV_needed_landmarks dc_needed_landmarks pm_needed_landmarks cd_needed_landmarks ct_needed_landmarks oc_refusal_if_gone kV_refusal_if_gone dc_refusal_if_gone pm_refusal_if_gone cd_refusal_if_gone ct_refusal_if_gone oc_treasure_in_parts kV_treasure_in_parts dc_treasure_in_parts pm_treasure_in_parts cd_treasure_in_parts ct_treasure_in_parts oc_treasure_place kV_treasure_place dc_treasure_place pm_treasure_place cd_treasure_place ct_treasure_place oc_begin kV_begin dc_begin pm_begin cd_begin ct_begin oc_add_text kV_add_text dc_add_text pm_add_text cd_add_text ct_add_text oc_treasure kV_treasure dc_treasure pm_treasure cd_treasure ct_treasure oc_needs kV_needs dc_needs pm_needs cd_needs ct_needs oc_tells kV_tells dc_tells pm_tells cd_tells ct_tells oc_same kV_same dc_same pm_same cd_same ct_same oc_lost kV_lost dc_lost pm_lost cd_lost ct_lost oc_line kV_line dc_line pm_line cd_line ct_line oc_apart kV_apart dc_apart pm_apart cd_apart ct_apart oc_move kV_move dc_move pm_move cd_move ct_move oc_make_gone kV_make_gone dc_make_gone pm_make_gone cd_make_gone ct_make_gone oc_look kV_look dc_look pm_look cd_look ct_look oc_read_calls kV_read_calls dc_read_calls pm_read_calls cd_read_calls ct_read_calls oc_answer_call kV_answer_call dc_answer_call pm_answer_call cd_answer_call ct_answer_call oc_answers kV_answers dc_answers pm_answers cd_answers ct_answers : Value} {tk_STAND tk_TO_LANDMARK tk_TO_PEG tk_TURN tk_GO_ON tk_GO_HALF tk_DRIVE tk_HALFWAY tk_MOST_SAYINGS tk_MOST_TIMES tk_MOST_HALVINGS tk_PARTS tk_BEGIN tk_TEXT tk_TREASURE tk_NEEDS tk_TELLS tk_SAME tk_LOST tk_LINE tk_APART tk_MOVE tk_GONE tk_LOOK tk_WRONG tk_NO_TEXT tk_NOT_THERE tk_TOO_FINE tk_TEXTS_FULL tk_IS_GONE tk_NOT_NEEDED tk_NO_MAP tk_MOST_LANDMARKS tk_MOST_TEXTS tk_FARTHEST tk_SAYING_LENGTHS0 tk_SAYING_LENGTHS1 tk_SAYING_LENGTHS2 tk_SAYING_LENGTHS3 tk_SAYING_LENGTHS4 tk_SAYING_LENGTHS5 tk_SAYING_LENGTHS6 tk_SAYING_LENGTHS7 tk_NOTHING0 tk_NOTHING1 tk_MIDDLE0 tk_MIDDLE1 : Tok} {n_SAYING_LENGTHS n_NOTHING n_MIDDLE : Nat} (X : K.In h) (G : h.Ns mainGlobals mg) (hfa : mg "answers" = some (.ref fa))
    (g_Chart : PySem.W.nsIn K mainGlobals "Chart" = some (some (.ref C_Chart)))
    (g_Follower : PySem.W.nsIn K mainGlobals "Follower" = some (some (.ref C_Follower)))
    (a_is_saying : PySem.W.nsIn K mainGlobals "is_saying" = some (some (.ref f_is_saying)))
    (l_is_saying : K.lookup f_is_saying = some ⟨oc_is_saying, od_is_saying, .func (PySem.W.fnOf "is_saying" "is_saying" (defArgs s_is_saying) (defBody s_is_saying) (defScope s_is_saying) .none kV_is_saying dc_is_saying pm_is_saying an_is_saying cd_is_saying ct_is_saying), sl_is_saying⟩)
    (c_is_saying : PySem.W.codeIn K cd_is_saying "is_saying" = true)
    (k_is_saying : PySem.W.keepIn K (.ref f_is_saying) = true)
    (a_is_text : PySem.W.nsIn K mainGlobals "is_text" = some (some (.ref f_is_text)))
    (l_is_text : K.lookup f_is_text = some ⟨oc_is_text, od_is_text, .func (PySem.W.fnOf "is_text" "is_text" (defArgs s_is_text) (defBody s_is_text) (defScope s_is_text) .none kV_is_text dc_is_text pm_is_text an_is_text cd_is_text ct_is_text), sl_is_text⟩)
    (c_is_text : PySem.W.codeIn K cd_is_text "is_text" = true)
    (k_is_text : PySem.W.keepIn K (.ref f_is_text) = true)
    (a_can_follow : PySem.W.nsIn K mainGlobals "can_follow" = some (some (.ref f_can_follow)))
    (l_can_follow : K.lookup f_can_follow = some ⟨oc_can_follow, od_can_follow, .func (PySem.W.fnOf "can_follow" "can_follow" (defArgs s_can_follow) (defBody s_can_follow) (defScope s_can_follow) .none kV_can_follow dc_can_follow pm_can_follow an_can_follow cd_can_follow ct_can_follow), sl_can_follow⟩)
    (c_can_follow : PySem.W.codeIn K cd_can_follow "can_follow" = true)
    (k_can_follow : PySem.W.keepIn K (.ref f_can_follow) = true)
    (a_count_followed : PySem.W.nsIn K mainGlobals "count_followed" = some (some (.ref f_count_followed)))
    (l_count_followed : K.lookup f_count_followed = some ⟨oc_count_followed, od_count_followed, .func (PySem.W.fnOf "count_followed" "count_followed" (defArgs s_count_followed) (defBody s_count_followed) (defScope s_count_followed) .none kV_count_followed dc_count_followed pm_count_followed an_count_followed cd_count_followed ct_count_followed), sl_count_followed⟩)
    (c_count_followed : PySem.W.codeIn K cd_count_followed "count_followed" = true)
    (k_count_followed : PySem.W.keepIn K (.ref f_count_followed) = true)
    (a_is_too_fine : PySem.W.nsIn K mainGlobals "is_too_fine" = some (some (.ref f_is_too_fine)))
    (l_is_too_fine : K.lookup f_is_too_fine = some ⟨oc_is_too_fine, od_is_too_fine, .func (PySem.W.fnOf "is_too_fine" "is_too_fine" (defArgs s_is_too_fine) (defBody s_is_too_fine) (defScope s_is_too_fine) .none kV_is_too_fine dc_is_too_fine pm_is_too_fine an_is_too_fine cd_is_too_fine ct_is_too_fine), sl_is_too_fine⟩)
    (c_is_too_fine : PySem.W.codeIn K cd_is_too_fine "is_too_fine" = true)
    (k_is_too_fine : PySem.W.keepIn K (.ref f_is_too_fine) = true)
    (a_Follower___init__ : PySem.W.findIn K (.ref C_Follower) "__init__" = some (some (.ref f_Follower___init__)))
    (m_Follower___init__ : PySem.W.isFn K (.ref f_Follower___init__) = true)
    (l_Follower___init__ : K.lookup f_Follower___init__ = some ⟨oc_Follower___init__, od_Follower___init__, .func (PySem.W.fnOf "__init__" "Follower.__init__" (defArgs s_Follower___init__) (defBody s_Follower___init__) (defScope s_Follower___init__) .none kV_Follower___init__ dc_Follower___init__ pm_Follower___init__ an_Follower___init__ cd_Follower___init__ ct_Follower___init__), sl_Follower___init__⟩)
    (c_Follower___init__ : PySem.W.codeIn K cd_Follower___init__ "Follower.__init__" = true)
    (k_Follower___init__ : PySem.W.keepIn K (.ref f_Follower___init__) = true)
    (a_Follower_follow : PySem.W.findIn K (.ref C_Follower) "follow" = some (some (.ref f_Follower_follow)))
    (m_Follower_follow : PySem.W.isFn K (.ref f_Follower_follow) = true)
    (l_Follower_follow : K.lookup f_Follower_follow = some ⟨oc_Follower_follow, od_Follower_follow, .func (PySem.W.fnOf "follow" "Follower.follow" (defArgs s_Follower_follow) (defBody s_Follower_follow) (defScope s_Follower_follow) .none kV_Follower_follow dc_Follower_follow pm_Follower_follow an_Follower_follow cd_Follower_follow ct_Follower_follow), sl_Follower_follow⟩)
    (c_Follower_follow : PySem.W.codeIn K cd_Follower_follow "Follower.follow" = true)
    (k_Follower_follow : PySem.W.keepIn K (.ref f_Follower_follow) = true)
    (a_Follower_go_to : PySem.W.findIn K (.ref C_Follower) "go_to" = some (some (.ref f_Follower_go_to)))
    (m_Follower_go_to : PySem.W.isFn K (.ref f_Follower_go_to) = true)
    (l_Follower_go_to : K.lookup f_Follower_go_to = some ⟨oc_Follower_go_to, od_Follower_go_to, .func (PySem.W.fnOf "go_to" "Follower.go_to" (defArgs s_Follower_go_to) (defBody s_Follower_go_to) (defScope s_Follower_go_to) .none kV_Follower_go_to dc_Follower_go_to pm_Follower_go_to an_Follower_go_to cd_Follower_go_to ct_Follower_go_to), sl_Follower_go_to⟩)
    (c_Follower_go_to : PySem.W.codeIn K cd_Follower_go_to "Follower.go_to" = true)
    (k_Follower_go_to : PySem.W.keepIn K (.ref f_Follower_go_to) = true)
    (a_landmark_shares : PySem.W.nsIn K mainGlobals "landmark_shares" = some (some (.ref f_landmark_shares)))
    (l_landmark_shares : K.lookup f_landmark_shares = some ⟨oc_landmark_shares, od_landmark_shares, .func (PySem.W.fnOf "landmark_shares" "landmark_shares" (defArgs s_landmark_shares) (defBody s_landmark_shares) (defScope s_landmark_shares) .none kV_landmark_shares dc_landmark_shares pm_landmark_shares an_landmark_shares cd_landmark_shares ct_landmark_shares), sl_landmark_shares⟩)
    (c_landmark_shares : PySem.W.codeIn K cd_landmark_shares "landmark_shares" = true)
    (k_landmark_shares : PySem.W.keepIn K (.ref f_landmark_shares) = true)
    (a_added : PySem.W.nsIn K mainGlobals "added" = some (some (.ref f_added)))
    (l_added : K.lookup f_added = some ⟨oc_added, od_added, .func (PySem.W.fnOf "added" "added" (defArgs s_added) (defBody s_added) (defScope s_added) .none kV_added dc_added pm_added an_added cd_added ct_added), sl_added⟩)
    (c_added : PySem.W.codeIn K cd_added "added" = true)
    (k_added : PySem.W.keepIn K (.ref f_added) = true)
    (a_halved : PySem.W.nsIn K mainGlobals "halved" = some (some (.ref f_halved)))
    (l_halved : K.lookup f_halved = some ⟨oc_halved, od_halved, .func (PySem.W.fnOf "halved" "halved" (defArgs s_halved) (defBody s_halved) (defScope s_halved) .none kV_halved dc_halved pm_halved an_halved cd_halved ct_halved), sl_halved⟩)
    (c_halved : PySem.W.codeIn K cd_halved "halved" = true)
    (k_halved : PySem.W.keepIn K (.ref f_halved) = true)
    (a_turned : PySem.W.nsIn K mainGlobals "turned" = some (some (.ref f_turned)))
    (l_turned : K.lookup f_turned = some ⟨oc_turned, od_turned, .func (PySem.W.fnOf "turned" "turned" (defArgs s_turned) (defBody s_turned) (defScope s_turned) .none kV_turned dc_turned pm_turned an_turned cd_turned ct_turned), sl_turned⟩)
    (c_turned : PySem.W.codeIn K cd_turned "turned" = true)
    (k_turned : PySem.W.keepIn K (.ref f_turned) = true)
    (a_shares_of : PySem.W.nsIn K mainGlobals "shares_of" = some (some (.ref f_shares_of)))
    (l_shares_of : K.lookup f_shares_of = some ⟨oc_shares_of, od_shares_of, .func (PySem.W.fnOf "shares_of" "shares_of" (defArgs s_shares_of) (defBody s_shares_of) (defScope s_shares_of) .none kV_shares_of dc_shares_of pm_shares_of an_shares_of cd_shares_of ct_shares_of), sl_shares_of⟩)
    (c_shares_of : PySem.W.codeIn K cd_shares_of "shares_of" = true)
    (k_shares_of : PySem.W.keepIn K (.ref f_shares_of) = true)
    (a_Chart___init__ : PySem.W.findIn K (.ref C_Chart) "__init__" = some (some (.ref f_Chart___init__)))
    (m_Chart___init__ : PySem.W.isFn K (.ref f_Chart___init__) = true)
    (l_Chart___init__ : K.lookup f_Chart___init__ = some ⟨oc_Chart___init__, od_Chart___init__, .func (PySem.W.fnOf "__init__" "Chart.__init__" (defArgs s_Chart___init__) (defBody s_Chart___init__) (defScope s_Chart___init__) .none kV_Chart___init__ dc_Chart___init__ pm_Chart___init__ an_Chart___init__ cd_Chart___init__ ct_Chart___init__), sl_Chart___init__⟩)
    (c_Chart___init__ : PySem.W.codeIn K cd_Chart___init__ "Chart.__init__" = true)
    (k_Chart___init__ : PySem.W.keepIn K (.ref f_Chart___init__) = true)
    (a_common_divisor : PySem.W.nsIn K mainGlobals "common_divisor" = some (some (.ref f_common_divisor)))
    (l_common_divisor : K.lookup f_common_divisor = some ⟨oc_common_divisor, od_common_divisor, .func (PySem.W.fnOf "common_divisor" "common_divisor" (defArgs s_common_divisor) (defBody s_common_divisor) (defScope s_common_divisor) .none kV_common_divisor dc_common_divisor pm_common_divisor an_common_divisor cd_common_divisor ct_common_divisor), sl_common_divisor⟩)
    (c_common_divisor : PySem.W.codeIn K cd_common_divisor "common_divisor" = true)
    (k_common_divisor : PySem.W.keepIn K (.ref f_common_divisor) = true)
    (a_in_lowest_terms : PySem.W.nsIn K mainGlobals "in_lowest_terms" = some (some (.ref f_in_lowest_terms)))
    (l_in_lowest_terms : K.lookup f_in_lowest_terms = some ⟨oc_in_lowest_terms, od_in_lowest_terms, .func (PySem.W.fnOf "in_lowest_terms" "in_lowest_terms" (defArgs s_in_lowest_terms) (defBody s_in_lowest_terms) (defScope s_in_lowest_terms) .none kV_in_lowest_terms dc_in_lowest_terms pm_in_lowest_terms an_in_lowest_terms cd_in_lowest_terms ct_in_lowest_terms), sl_in_lowest_terms⟩)
    (c_in_lowest_terms : PySem.W.codeIn K cd_in_lowest_terms "in_lowest_terms" = true)
    (k_in_lowest_terms : PySem.W.keepIn K (.ref f_in_lowest_terms) = true)
    (a_product : PySem.W.nsIn K mainGlobals "product" = some (some (.ref f_product)))
    (l_product : K.lookup f_product = some ⟨oc_product, od_product, .func (PySem.W.fnOf "product" "product" (defArgs s_product) (defBody s_product) (defScope s_product) .none kV_product dc_product pm_product an_product cd_product ct_product), sl_product⟩)
    (c_product : PySem.W.codeIn K cd_product "product" = true)
    (k_product : PySem.W.keepIn K (.ref f_product) = true)
    (a_is_place : PySem.W.nsIn K mainGlobals "is_place" = some (some (.ref f_is_place)))
    (l_is_place : K.lookup f_is_place = some ⟨oc_is_place, od_is_place, .func (PySem.W.fnOf "is_place" "is_place" (defArgs s_is_place) (defBody s_is_place) (defScope s_is_place) .none kV_is_place dc_is_place pm_is_place an_is_place cd_is_place ct_is_place), sl_is_place⟩)
    (c_is_place : PySem.W.codeIn K cd_is_place "is_place" = true)
    (k_is_place : PySem.W.keepIn K (.ref f_is_place) = true)
    (a_has_text : PySem.W.nsIn K mainGlobals "has_text" = some (some (.ref f_has_text)))
    (l_has_text : K.lookup f_has_text = some ⟨oc_has_text, od_has_text, .func (PySem.W.fnOf "has_text" "has_text" (defArgs s_has_text) (defBody s_has_text) (defScope s_has_text) .none kV_has_text dc_has_text pm_has_text an_has_text cd_has_text ct_has_text), sl_has_text⟩)
    (c_has_text : PySem.W.codeIn K cd_has_text "has_text" = true)
    (k_has_text : PySem.W.keepIn K (.ref f_has_text) = true)
    (a_has_landmark : PySem.W.nsIn K mainGlobals "has_landmark" = some (some (.ref f_has_landmark)))
    (l_has_landmark : K.lookup f_has_landmark = some ⟨oc_has_landmark, od_has_landmark, .func (PySem.W.fnOf "has_landmark" "has_landmark" (defArgs s_has_landmark) (defBody s_has_landmark) (defScope s_has_landmark) .none kV_has_landmark dc_has_landmark pm_has_landmark an_has_landmark cd_has_landmark ct_has_landmark), sl_has_landmark⟩)
    (c_has_landmark : PySem.W.codeIn K cd_has_landmark "has_landmark" = true)
    (k_has_landmark : PySem.W.keepIn K (.ref f_has_landmark) = true)
    (a_places_with : PySem.W.nsIn K mainGlobals "places_with" = some (some (.ref f_places_with)))
    (l_places_with : K.lookup f_places_with = some ⟨oc_places_with, od_places_with, .func (PySem.W.fnOf "places_with" "places_with" (defArgs s_places_with) (defBody s_places_with) (defScope s_places_with) .none kV_places_with dc_places_with pm_places_with an_places_with cd_places_with ct_places_with), sl_places_with⟩)
    (c_places_with : PySem.W.codeIn K cd_places_with "places_with" = true)
    (k_places_with : PySem.W.keepIn K (.ref f_places_with) = true)
    (a_treasure_shares : PySem.W.nsIn K mainGlobals "treasure_shares" = some (some (.ref f_treasure_shares)))
    (l_treasure_shares : K.lookup f_treasure_shares = some ⟨oc_treasure_shares, od_treasure_shares, .func (PySem.W.fnOf "treasure_shares" "treasure_shares" (defArgs s_treasure_shares) (defBody s_treasure_shares) (defScope s_treasure_shares) .none kV_treasure_shares dc_treasure_shares pm_treasure_shares an_treasure_shares cd_treasure_shares ct_treasure_shares), sl_treasure_shares⟩)
    (c_treasure_shares : PySem.W.codeIn K cd_treasure_shares "treasure_shares" = true)
    (k_treasure_shares : PySem.W.keepIn K (.ref f_treasure_shares) = true)
    (a_needed_landmarks : PySem.W.nsIn K mainGlobals "needed_landmarks" = some (some (.ref f_needed_landmarks)))
    (l_needed_landmarks : K.lookup f_needed_landmarks = some ⟨oc_needed_landmarks, od_needed_landmarks, .func (PySem.W.fnOf "needed_landmarks" "needed_landmarks" (defArgs s_needed_landmarks) (defBody s_needed_landmarks) (defScope s_needed_landmarks) .none kV_needed_landmarks dc_needed_landmarks pm_needed_landmarks an_needed_landmarks cd_needed_landmarks ct_needed_landmarks), sl_needed_landmarks⟩)
    (c_needed_landmarks : PySem.W.codeIn K cd_needed_landmarks "needed_landmarks" = true)
    (k_needed_landmarks : PySem.W.keepIn K (.ref f_needed_landmarks) = true)
    (a_refusal_if_gone : PySem.W.nsIn K mainGlobals "refusal_if_gone" = some (some (.ref f_refusal_if_gone)))
    (l_refusal_if_gone : K.lookup f_refusal_if_gone = some ⟨oc_refusal_if_gone, od_refusal_if_gone, .func (PySem.W.fnOf "refusal_if_gone" "refusal_if_gone" (defArgs s_refusal_if_gone) (defBody s_refusal_if_gone) (defScope s_refusal_if_gone) .none kV_refusal_if_gone dc_refusal_if_gone pm_refusal_if_gone an_refusal_if_gone cd_refusal_if_gone ct_refusal_if_gone), sl_refusal_if_gone⟩)
    (c_refusal_if_gone : PySem.W.codeIn K cd_refusal_if_gone "refusal_if_gone" = true)
    (k_refusal_if_gone : PySem.W.keepIn K (.ref f_refusal_if_gone) = true)
    (a_treasure_in_parts : PySem.W.nsIn K mainGlobals "treasure_in_parts" = some (some (.ref f_treasure_in_parts)))
    (l_treasure_in_parts : K.lookup f_treasure_in_parts = some ⟨oc_treasure_in_parts, od_treasure_in_parts, .func (PySem.W.fnOf "treasure_in_parts" "treasure_in_parts" (defArgs s_treasure_in_parts) (defBody s_treasure_in_parts) (defScope s_treasure_in_parts) .none kV_treasure_in_parts dc_treasure_in_parts pm_treasure_in_parts an_treasure_in_parts cd_treasure_in_parts ct_treasure_in_parts), sl_treasure_in_parts⟩)
    (c_treasure_in_parts : PySem.W.codeIn K cd_treasure_in_parts "treasure_in_parts" = true)
    (k_treasure_in_parts : PySem.W.keepIn K (.ref f_treasure_in_parts) = true)
    (a_treasure_place : PySem.W.nsIn K mainGlobals "treasure_place" = some (some (.ref f_treasure_place)))
    (l_treasure_place : K.lookup f_treasure_place = some ⟨oc_treasure_place, od_treasure_place, .func (PySem.W.fnOf "treasure_place" "treasure_place" (defArgs s_treasure_place) (defBody s_treasure_place) (defScope s_treasure_place) .none kV_treasure_place dc_treasure_place pm_treasure_place an_treasure_place cd_treasure_place ct_treasure_place), sl_treasure_place⟩)
    (c_treasure_place : PySem.W.codeIn K cd_treasure_place "treasure_place" = true)
    (k_treasure_place : PySem.W.keepIn K (.ref f_treasure_place) = true)
    (a_begin : PySem.W.nsIn K mainGlobals "begin" = some (some (.ref f_begin)))
    (l_begin : K.lookup f_begin = some ⟨oc_begin, od_begin, .func (PySem.W.fnOf "begin" "begin" (defArgs s_begin) (defBody s_begin) (defScope s_begin) .none kV_begin dc_begin pm_begin an_begin cd_begin ct_begin), sl_begin⟩)
    (c_begin : PySem.W.codeIn K cd_begin "begin" = true)
    (k_begin : PySem.W.keepIn K (.ref f_begin) = true)
    (a_add_text : PySem.W.nsIn K mainGlobals "add_text" = some (some (.ref f_add_text)))
    (l_add_text : K.lookup f_add_text = some ⟨oc_add_text, od_add_text, .func (PySem.W.fnOf "add_text" "add_text" (defArgs s_add_text) (defBody s_add_text) (defScope s_add_text) .none kV_add_text dc_add_text pm_add_text an_add_text cd_add_text ct_add_text), sl_add_text⟩)
    (c_add_text : PySem.W.codeIn K cd_add_text "add_text" = true)
    (k_add_text : PySem.W.keepIn K (.ref f_add_text) = true)
    (a_treasure : PySem.W.nsIn K mainGlobals "treasure" = some (some (.ref f_treasure)))
    (l_treasure : K.lookup f_treasure = some ⟨oc_treasure, od_treasure, .func (PySem.W.fnOf "treasure" "treasure" (defArgs s_treasure) (defBody s_treasure) (defScope s_treasure) .none kV_treasure dc_treasure pm_treasure an_treasure cd_treasure ct_treasure), sl_treasure⟩)
    (c_treasure : PySem.W.codeIn K cd_treasure "treasure" = true)
    (k_treasure : PySem.W.keepIn K (.ref f_treasure) = true)
    (a_needs : PySem.W.nsIn K mainGlobals "needs" = some (some (.ref f_needs)))
    (l_needs : K.lookup f_needs = some ⟨oc_needs, od_needs, .func (PySem.W.fnOf "needs" "needs" (defArgs s_needs) (defBody s_needs) (defScope s_needs) .none kV_needs dc_needs pm_needs an_needs cd_needs ct_needs), sl_needs⟩)
    (c_needs : PySem.W.codeIn K cd_needs "needs" = true)
    (k_needs : PySem.W.keepIn K (.ref f_needs) = true)
    (a_tells : PySem.W.nsIn K mainGlobals "tells" = some (some (.ref f_tells)))
    (l_tells : K.lookup f_tells = some ⟨oc_tells, od_tells, .func (PySem.W.fnOf "tells" "tells" (defArgs s_tells) (defBody s_tells) (defScope s_tells) .none kV_tells dc_tells pm_tells an_tells cd_tells ct_tells), sl_tells⟩)
    (c_tells : PySem.W.codeIn K cd_tells "tells" = true)
    (k_tells : PySem.W.keepIn K (.ref f_tells) = true)
    (a_same : PySem.W.nsIn K mainGlobals "same" = some (some (.ref f_same)))
    (l_same : K.lookup f_same = some ⟨oc_same, od_same, .func (PySem.W.fnOf "same" "same" (defArgs s_same) (defBody s_same) (defScope s_same) .none kV_same dc_same pm_same an_same cd_same ct_same), sl_same⟩)
    (c_same : PySem.W.codeIn K cd_same "same" = true)
    (k_same : PySem.W.keepIn K (.ref f_same) = true)
    (a_lost : PySem.W.nsIn K mainGlobals "lost" = some (some (.ref f_lost)))
    (l_lost : K.lookup f_lost = some ⟨oc_lost, od_lost, .func (PySem.W.fnOf "lost" "lost" (defArgs s_lost) (defBody s_lost) (defScope s_lost) .none kV_lost dc_lost pm_lost an_lost cd_lost ct_lost), sl_lost⟩)
    (c_lost : PySem.W.codeIn K cd_lost "lost" = true)
    (k_lost : PySem.W.keepIn K (.ref f_lost) = true)
    (a_line : PySem.W.nsIn K mainGlobals "line" = some (some (.ref f_line)))
    (l_line : K.lookup f_line = some ⟨oc_line, od_line, .func (PySem.W.fnOf "line" "line" (defArgs s_line) (defBody s_line) (defScope s_line) .none kV_line dc_line pm_line an_line cd_line ct_line), sl_line⟩)
    (c_line : PySem.W.codeIn K cd_line "line" = true)
    (k_line : PySem.W.keepIn K (.ref f_line) = true)
    (a_apart : PySem.W.nsIn K mainGlobals "apart" = some (some (.ref f_apart)))
    (l_apart : K.lookup f_apart = some ⟨oc_apart, od_apart, .func (PySem.W.fnOf "apart" "apart" (defArgs s_apart) (defBody s_apart) (defScope s_apart) .none kV_apart dc_apart pm_apart an_apart cd_apart ct_apart), sl_apart⟩)
    (c_apart : PySem.W.codeIn K cd_apart "apart" = true)
    (k_apart : PySem.W.keepIn K (.ref f_apart) = true)
    (a_move : PySem.W.nsIn K mainGlobals "move" = some (some (.ref f_move)))
    (l_move : K.lookup f_move = some ⟨oc_move, od_move, .func (PySem.W.fnOf "move" "move" (defArgs s_move) (defBody s_move) (defScope s_move) .none kV_move dc_move pm_move an_move cd_move ct_move), sl_move⟩)
    (c_move : PySem.W.codeIn K cd_move "move" = true)
    (k_move : PySem.W.keepIn K (.ref f_move) = true)
    (a_make_gone : PySem.W.nsIn K mainGlobals "make_gone" = some (some (.ref f_make_gone)))
    (l_make_gone : K.lookup f_make_gone = some ⟨oc_make_gone, od_make_gone, .func (PySem.W.fnOf "make_gone" "make_gone" (defArgs s_make_gone) (defBody s_make_gone) (defScope s_make_gone) .none kV_make_gone dc_make_gone pm_make_gone an_make_gone cd_make_gone ct_make_gone), sl_make_gone⟩)
    (c_make_gone : PySem.W.codeIn K cd_make_gone "make_gone" = true)
    (k_make_gone : PySem.W.keepIn K (.ref f_make_gone) = true)
    (a_look : PySem.W.nsIn K mainGlobals "look" = some (some (.ref f_look)))
    (l_look : K.lookup f_look = some ⟨oc_look, od_look, .func (PySem.W.fnOf "look" "look" (defArgs s_look) (defBody s_look) (defScope s_look) .none kV_look dc_look pm_look an_look cd_look ct_look), sl_look⟩)
    (c_look : PySem.W.codeIn K cd_look "look" = true)
    (k_look : PySem.W.keepIn K (.ref f_look) = true)
    (a_read_calls : PySem.W.nsIn K mainGlobals "read_calls" = some (some (.ref f_read_calls)))
    (l_read_calls : K.lookup f_read_calls = some ⟨oc_read_calls, od_read_calls, .func (PySem.W.fnOf "read_calls" "read_calls" (defArgs s_read_calls) (defBody s_read_calls) (defScope s_read_calls) .none kV_read_calls dc_read_calls pm_read_calls an_read_calls cd_read_calls ct_read_calls), sl_read_calls⟩)
    (c_read_calls : PySem.W.codeIn K cd_read_calls "read_calls" = true)
    (k_read_calls : PySem.W.keepIn K (.ref f_read_calls) = true)
    (a_answer_call : PySem.W.nsIn K mainGlobals "answer_call" = some (some (.ref f_answer_call)))
    (l_answer_call : K.lookup f_answer_call = some ⟨oc_answer_call, od_answer_call, .func (PySem.W.fnOf "answer_call" "answer_call" (defArgs s_answer_call) (defBody s_answer_call) (defScope s_answer_call) .none kV_answer_call dc_answer_call pm_answer_call an_answer_call cd_answer_call ct_answer_call), sl_answer_call⟩)
    (c_answer_call : PySem.W.codeIn K cd_answer_call "answer_call" = true)
    (k_answer_call : PySem.W.keepIn K (.ref f_answer_call) = true)
    (a_answers : PySem.W.nsIn K mainGlobals "answers" = some (some (.ref f_answers)))
    (l_answers : K.lookup f_answers = some ⟨oc_answers, od_answers, .func (PySem.W.fnOf "answers" "answers" (defArgs s_answers) (defBody s_answers) (defScope s_answers) .none kV_answers dc_answers pm_answers an_answers cd_answers ct_answers), sl_answers⟩)
    (c_answers : PySem.W.codeIn K cd_answers "answers" = true)
    (k_answers : PySem.W.keepIn K (.ref f_answers) = true)
    (kc_Chart : ClIn K C_Chart)
    (n_Chart_places : PySem.W.findIn K (.ref C_Chart) "places" = some none)
    (n_Chart_texts : PySem.W.findIn K (.ref C_Chart) "texts" = some none)
    (kc_Follower : ClIn K C_Follower)
    (n_Follower_landmarks : PySem.W.findIn K (.ref C_Follower) "landmarks" = some none)
    (n_Follower_here : PySem.W.findIn K (.ref C_Follower) "here" = some none)
    (n_Follower_way : PySem.W.findIn K (.ref C_Follower) "way" = some none)
    (n_Follower_pegs : PySem.W.findIn K (.ref C_Follower) "pegs" = some none)
    (g_STAND : PySem.W.nsIn K mainGlobals "STAND" = some (some (.int (0) tk_STAND)))
    (g_TO_LANDMARK : PySem.W.nsIn K mainGlobals "TO_LANDMARK" = some (some (.int (1) tk_TO_LANDMARK)))
    (g_TO_PEG : PySem.W.nsIn K mainGlobals "TO_PEG" = some (some (.int (2) tk_TO_PEG)))
    (g_TURN : PySem.W.nsIn K mainGlobals "TURN" = some (some (.int (3) tk_TURN)))
    (g_GO_ON : PySem.W.nsIn K mainGlobals "GO_ON" = some (some (.int (4) tk_GO_ON)))
    (g_GO_HALF : PySem.W.nsIn K mainGlobals "GO_HALF" = some (some (.int (5) tk_GO_HALF)))
    (g_DRIVE : PySem.W.nsIn K mainGlobals "DRIVE" = some (some (.int (6) tk_DRIVE)))
    (g_HALFWAY : PySem.W.nsIn K mainGlobals "HALFWAY" = some (some (.int (7) tk_HALFWAY)))
    (g_MOST_SAYINGS : PySem.W.nsIn K mainGlobals "MOST_SAYINGS" = some (some (.int (14) tk_MOST_SAYINGS)))
    (g_MOST_TIMES : PySem.W.nsIn K mainGlobals "MOST_TIMES" = some (some (.int (3) tk_MOST_TIMES)))
    (g_MOST_HALVINGS : PySem.W.nsIn K mainGlobals "MOST_HALVINGS" = some (some (.int (8) tk_MOST_HALVINGS)))
    (g_PARTS : PySem.W.nsIn K mainGlobals "PARTS" = some (some (.int (256) tk_PARTS)))
    (g_BEGIN : PySem.W.nsIn K mainGlobals "BEGIN" = some (some (.int (0) tk_BEGIN)))
    (g_TEXT : PySem.W.nsIn K mainGlobals "TEXT" = some (some (.int (1) tk_TEXT)))
    (g_TREASURE : PySem.W.nsIn K mainGlobals "TREASURE" = some (some (.int (2) tk_TREASURE)))
    (g_NEEDS : PySem.W.nsIn K mainGlobals "NEEDS" = some (some (.int (3) tk_NEEDS)))
    (g_TELLS : PySem.W.nsIn K mainGlobals "TELLS" = some (some (.int (4) tk_TELLS)))
    (g_SAME : PySem.W.nsIn K mainGlobals "SAME" = some (some (.int (5) tk_SAME)))
    (g_LOST : PySem.W.nsIn K mainGlobals "LOST" = some (some (.int (6) tk_LOST)))
    (g_LINE : PySem.W.nsIn K mainGlobals "LINE" = some (some (.int (7) tk_LINE)))
    (g_APART : PySem.W.nsIn K mainGlobals "APART" = some (some (.int (8) tk_APART)))
    (g_MOVE : PySem.W.nsIn K mainGlobals "MOVE" = some (some (.int (9) tk_MOVE)))
    (g_GONE : PySem.W.nsIn K mainGlobals "GONE" = some (some (.int (10) tk_GONE)))
    (g_LOOK : PySem.W.nsIn K mainGlobals "LOOK" = some (some (.int (11) tk_LOOK)))
    (g_WRONG : PySem.W.nsIn K mainGlobals "WRONG" = some (some (.int (-1) tk_WRONG)))
    (g_NO_TEXT : PySem.W.nsIn K mainGlobals "NO_TEXT" = some (some (.int (-2) tk_NO_TEXT)))
    (g_NOT_THERE : PySem.W.nsIn K mainGlobals "NOT_THERE" = some (some (.int (-3) tk_NOT_THERE)))
    (g_TOO_FINE : PySem.W.nsIn K mainGlobals "TOO_FINE" = some (some (.int (-4) tk_TOO_FINE)))
    (g_TEXTS_FULL : PySem.W.nsIn K mainGlobals "TEXTS_FULL" = some (some (.int (-5) tk_TEXTS_FULL)))
    (g_IS_GONE : PySem.W.nsIn K mainGlobals "IS_GONE" = some (some (.int (-6) tk_IS_GONE)))
    (g_NOT_NEEDED : PySem.W.nsIn K mainGlobals "NOT_NEEDED" = some (some (.int (-7) tk_NOT_NEEDED)))
    (g_NO_MAP : PySem.W.nsIn K mainGlobals "NO_MAP" = some (some (.int (-9) tk_NO_MAP)))
    (g_MOST_LANDMARKS : PySem.W.nsIn K mainGlobals "MOST_LANDMARKS" = some (some (.int (4) tk_MOST_LANDMARKS)))
    (g_MOST_TEXTS : PySem.W.nsIn K mainGlobals "MOST_TEXTS" = some (some (.int (4) tk_MOST_TEXTS)))
    (g_FARTHEST : PySem.W.nsIn K mainGlobals "FARTHEST" = some (some (.int (1000) tk_FARTHEST)))
    (g_SAYING_LENGTHS : PySem.W.nsIn K mainGlobals "SAYING_LENGTHS" = some (some (.ref a_SAYING_LENGTHS)))
    (t_SAYING_LENGTHS : K.lookup a_SAYING_LENGTHS = some ⟨.type "tuple", od_SAYING_LENGTHS, .seq #[.int (2) tk_SAYING_LENGTHS0, .int (2) tk_SAYING_LENGTHS1, .int (2) tk_SAYING_LENGTHS2, .int (2) tk_SAYING_LENGTHS3, .int (2) tk_SAYING_LENGTHS4, .int (1) tk_SAYING_LENGTHS5, .int (1) tk_SAYING_LENGTHS6, .int (3) tk_SAYING_LENGTHS7] n_SAYING_LENGTHS, sl_SAYING_LENGTHS⟩)
    (g_NOTHING : PySem.W.nsIn K mainGlobals "NOTHING" = some (some (.ref a_NOTHING)))
    (t_NOTHING : K.lookup a_NOTHING = some ⟨.type "tuple", od_NOTHING, .seq #[.int (0) tk_NOTHING0, .int (0) tk_NOTHING1] n_NOTHING, sl_NOTHING⟩)
    (g_MIDDLE : PySem.W.nsIn K mainGlobals "MIDDLE" = some (some (.ref a_MIDDLE)))
    (t_MIDDLE : K.lookup a_MIDDLE = some ⟨.type "tuple", od_MIDDLE, .seq #[.int (0) tk_MIDDLE0, .int (0) tk_MIDDLE1] n_MIDDLE, sl_MIDDLE⟩)
    (z_len : PySem.W.nsIn K mainGlobals "len" = some none)
    (z_range : PySem.W.nsIn K mainGlobals "range" = some none)
    (z_zip : PySem.W.nsIn K mainGlobals "zip" = some none)
    (z_enumerate : PySem.W.nsIn K mainGlobals "enumerate" = some none)
    (z_all : PySem.W.nsIn K mainGlobals "all" = some none)
    (z_abs : PySem.W.nsIn K mainGlobals "abs" = some none)
    : ∃ fd : FuncData, (∀ (s : Shared) (us : List Value), us.length = (["calls"] : List Str).length → BindsTo s fd ⟨us, []⟩ ((["calls"] : List Str).zip us)) ∧ ∀ base : Heap, K.In base → base.Ns mainGlobals mg → FnOk P w K mg base CX0 8 fa fd ["calls"] (sp_answers K) := by
  have e := hfa.symm.trans (PySem.W.mg_of X G a_answers)
  cases e
  have u_SAYING_LENGTHS : TupIn K a_SAYING_LENGTHS [.int (2), .int (2), .int (2), .int (2), .int (2), .int (1), .int (1), .int (3)] := by
    exact ⟨_, _, _, t_SAYING_LENGTHS, rfl, rfl, (by show 8 ≤ sizeLine; decide), .cons ⟨_, rfl⟩ (.cons ⟨_, rfl⟩ (.cons ⟨_, rfl⟩ (.cons ⟨_, rfl⟩ (.cons ⟨_, rfl⟩ (.cons ⟨_, rfl⟩ (.cons ⟨_, rfl⟩ (.cons ⟨_, rfl⟩ (.nil))))))))⟩
  have u_NOTHING : TupIn K a_NOTHING [.int (0), .int (0)] := by
    exact ⟨_, _, _, t_NOTHING, rfl, rfl, (by show 2 ≤ sizeLine; decide), .cons ⟨_, rfl⟩ (.cons ⟨_, rfl⟩ (.nil))⟩
  have u_MIDDLE : TupIn K a_MIDDLE [.int (0), .int (0)] := by
    exact ⟨_, _, _, t_MIDDLE, rfl, rfl, (by show 2 ≤ sizeLine; decide), .cons ⟨_, rfl⟩ (.cons ⟨_, rfl⟩ (.nil))⟩
  have T : Txt K mg a_NOTHING a_SAYING_LENGTHS a_MIDDLE := ⟨mgI X G g_PARTS, PySem.W.mg_of X G g_NOTHING, u_NOTHING, PySem.W.mg_of X G g_MIDDLE, u_MIDDLE, PySem.W.mg_of X G g_SAYING_LENGTHS, u_SAYING_LENGTHS, mgI X G g_STAND, mgI X G g_TO_LANDMARK, mgI X G g_TO_PEG, mgI X G g_TURN, mgI X G g_GO_ON, mgI X G g_GO_HALF, mgI X G g_DRIVE, mgI X G g_HALFWAY, mgI X G g_WRONG, mgI X G g_NO_TEXT, mgI X G g_NOT_THERE, mgI X G g_TOO_FINE, mgI X G g_TEXTS_FULL, mgI X G g_IS_GONE, mgI X G g_NOT_NEEDED, mgI X G g_NO_MAP, mgI X G g_MOST_LANDMARKS, mgI X G g_MOST_TEXTS, mgI X G g_MOST_SAYINGS, mgI X G g_MOST_HALVINGS, mgI X G g_MOST_TIMES, mgI X G g_FARTHEST, mgI X G g_BEGIN, mgI X G g_TEXT, mgI X G g_TREASURE, mgI X G g_NEEDS, mgI X G g_TELLS, mgI X G g_SAME, mgI X G g_LOST, mgI X G g_LINE, mgI X G g_APART, mgI X G g_MOVE, mgI X G g_GONE, mgI X G g_LOOK, PySem.W.mg_none_of X G z_len, PySem.W.mg_none_of X G z_range, PySem.W.mg_none_of X G z_zip, PySem.W.mg_none_of X G z_enumerate, PySem.W.mg_none_of X G z_all, PySem.W.mg_none_of X G z_abs⟩
  have T_Chart : TxC K C_Chart chF := ⟨kc_Chart.cl, fun f hf => by
    simp only [List.mem_cons, List.not_mem_nil, or_false] at hf
    rcases hf with rfl | rfl
    · exact n_Chart_places
    · exact n_Chart_texts⟩
  have T_Follower : TxC K C_Follower foF := ⟨kc_Follower.cl, fun f hf => by
    simp only [List.mem_cons, List.not_mem_nil, or_false] at hf
    rcases hf with rfl | rfl | rfl | rfl
    · exact n_Follower_landmarks
    · exact n_Follower_here
    · exact n_Follower_way
    · exact n_Follower_pegs⟩
  have F_is_saying := fun_mk (st := s_is_saying) l_is_saying c_is_saying k_is_saying
  have b_is_saying := F_is_saying.binds (ps := ["saying"]) fun _ _ _ _ _ _ us hl => match us, hl with | [_], _ => rfl
  have F_is_text := fun_mk (st := s_is_text) l_is_text c_is_text k_is_text
  have b_is_text := F_is_text.binds (ps := ["sayings"]) fun _ _ _ _ _ _ us hl => match us, hl with | [_], _ => rfl
  have F_can_follow := fun_mk (st := s_can_follow) l_can_follow c_can_follow k_can_follow
  have b_can_follow := F_can_follow.binds (ps := ["saying", "landmarks", "pegs"]) fun _ _ _ _ _ _ us hl => match us, hl with | [_, _, _], _ => rfl
  have F_count_followed := fun_mk (st := s_count_followed) l_count_followed c_count_followed k_count_followed
  have b_count_followed := F_count_followed.binds (ps := ["sayings", "landmarks"]) fun _ _ _ _ _ _ us hl => match us, hl with | [_, _], _ => rfl
  have F_is_too_fine := fun_mk (st := s_is_too_fine) l_is_too_fine c_is_too_fine k_is_too_fine
  have b_is_too_fine := F_is_too_fine.binds (ps := ["sayings"]) fun _ _ _ _ _ _ us hl => match us, hl with | [_], _ => rfl
  have F_Follower___init__ := fun_mk (st := s_Follower___init__) l_Follower___init__ c_Follower___init__ k_Follower___init__
  have b_Follower___init__ := F_Follower___init__.binds (ps := ["self", "landmarks"]) fun _ _ _ _ _ _ us hl => match us, hl with | [_, _], _ => rfl
  have F_Follower_follow := fun_mk (st := s_Follower_follow) l_Follower_follow c_Follower_follow k_Follower_follow
  have b_Follower_follow := F_Follower_follow.binds (ps := ["self", "saying"]) fun _ _ _ _ _ _ us hl => match us, hl with | [_, _], _ => rfl
  have F_Follower_go_to := fun_mk (st := s_Follower_go_to) l_Follower_go_to c_Follower_go_to k_Follower_go_to
  have b_Follower_go_to := F_Follower_go_to.binds (ps := ["self", "there"]) fun _ _ _ _ _ _ us hl => match us, hl with | [_, _], _ => rfl
  have F_landmark_shares := fun_mk (st := s_landmark_shares) l_landmark_shares c_landmark_shares k_landmark_shares
  have b_landmark_shares := F_landmark_shares.binds (ps := ["standing", "landmarks"]) fun _ _ _ _ _ _ us hl => match us, hl with | [_, _], _ => rfl
  have F_added := fun_mk (st := s_added) l_added c_added k_added
  have b_added := F_added.binds (ps := ["shares", "others", "times"]) fun _ _ _ _ _ _ us hl => match us, hl with | [_, _, _], _ => rfl
  have F_halved := fun_mk (st := s_halved) l_halved c_halved k_halved
  have b_halved := F_halved.binds (ps := ["shares"]) fun _ _ _ _ _ _ us hl => match us, hl with | [_], _ => rfl
  have F_turned := fun_mk (st := s_turned) l_turned c_turned k_turned
  have b_turned := F_turned.binds (ps := ["shares", "turns"]) fun _ _ _ _ _ _ us hl => match us, hl with | [_, _], _ => rfl
  have F_shares_of := fun_mk (st := s_shares_of) l_shares_of c_shares_of k_shares_of
  have b_shares_of := F_shares_of.binds (ps := ["sayings", "landmarks"]) fun _ _ _ _ _ _ us hl => match us, hl with | [_, _], _ => rfl
  have F_Chart___init__ := fun_mk (st := s_Chart___init__) l_Chart___init__ c_Chart___init__ k_Chart___init__
  have b_Chart___init__ := F_Chart___init__.binds (ps := ["self"]) fun _ _ _ _ _ _ us hl => match us, hl with | [_], _ => rfl
  have F_common_divisor := fun_mk (st := s_common_divisor) l_common_divisor c_common_divisor k_common_divisor
  have b_common_divisor := F_common_divisor.binds (ps := ["numbers"]) fun _ _ _ _ _ _ us hl => match us, hl with | [_], _ => rfl
  have F_in_lowest_terms := fun_mk (st := s_in_lowest_terms) l_in_lowest_terms c_in_lowest_terms k_in_lowest_terms
  have b_in_lowest_terms := F_in_lowest_terms.binds (ps := ["numbers"]) fun _ _ _ _ _ _ us hl => match us, hl with | [_], _ => rfl
  have F_product := fun_mk (st := s_product) l_product c_product k_product
  have b_product := F_product.binds (ps := ["pair", "other"]) fun _ _ _ _ _ _ us hl => match us, hl with | [_, _], _ => rfl
  have F_is_place := fun_mk (st := s_is_place) l_is_place c_is_place k_is_place
  have b_is_place := F_is_place.binds (ps := ["numbers"]) fun _ _ _ _ _ _ us hl => match us, hl with | [_], _ => rfl
  have F_has_text := fun_mk (st := s_has_text) l_has_text c_has_text k_has_text
  have b_has_text := F_has_text.binds (ps := ["chart", "text"]) fun _ _ _ _ _ _ us hl => match us, hl with | [_, _], _ => rfl
  have F_has_landmark := fun_mk (st := s_has_landmark) l_has_landmark c_has_landmark k_has_landmark
  have b_has_landmark := F_has_landmark.binds (ps := ["chart", "landmark"]) fun _ _ _ _ _ _ us hl => match us, hl with | [_, _], _ => rfl
  have F_places_with := fun_mk (st := s_places_with) l_places_with c_places_with k_places_with
  have b_places_with := F_places_with.binds (ps := ["chart", "landmark", "place"]) fun _ _ _ _ _ _ us hl => match us, hl with | [_, _, _], _ => rfl
  have F_treasure_shares := fun_mk (st := s_treasure_shares) l_treasure_shares c_treasure_shares k_treasure_shares
  have b_treasure_shares := F_treasure_shares.binds (ps := ["chart", "text"]) fun _ _ _ _ _ _ us hl => match us, hl with | [_, _], _ => rfl
  have F_needed_landmarks := fun_mk (st := s_needed_landmarks) l_needed_landmarks c_needed_landmarks k_needed_landmarks
  have b_needed_landmarks := F_needed_landmarks.binds (ps := ["shares"]) fun _ _ _ _ _ _ us hl => match us, hl with | [_], _ => rfl
  have F_refusal_if_gone := fun_mk (st := s_refusal_if_gone) l_refusal_if_gone c_refusal_if_gone k_refusal_if_gone
  have b_refusal_if_gone := F_refusal_if_gone.binds (ps := ["places", "shares"]) fun _ _ _ _ _ _ us hl => match us, hl with | [_, _], _ => rfl
  have F_treasure_in_parts := fun_mk (st := s_treasure_in_parts) l_treasure_in_parts c_treasure_in_parts k_treasure_in_parts
  have b_treasure_in_parts := F_treasure_in_parts.binds (ps := ["places", "shares"]) fun _ _ _ _ _ _ us hl => match us, hl with | [_, _], _ => rfl
  have F_treasure_place := fun_mk (st := s_treasure_place) l_treasure_place c_treasure_place k_treasure_place
  have b_treasure_place := F_treasure_place.binds (ps := ["places", "shares"]) fun _ _ _ _ _ _ us hl => match us, hl with | [_, _], _ => rfl
  have F_begin := fun_mk (st := s_begin) l_begin c_begin k_begin
  have b_begin := F_begin.binds (ps := ["chart", "landmarks"]) fun _ _ _ _ _ _ us hl => match us, hl with | [_, _], _ => rfl
  have F_add_text := fun_mk (st := s_add_text) l_add_text c_add_text k_add_text
  have b_add_text := F_add_text.binds (ps := ["chart", "sayings"]) fun _ _ _ _ _ _ us hl => match us, hl with | [_, _], _ => rfl
  have F_treasure := fun_mk (st := s_treasure) l_treasure c_treasure k_treasure
  have b_treasure := F_treasure.binds (ps := ["chart", "text"]) fun _ _ _ _ _ _ us hl => match us, hl with | [_, _], _ => rfl
  have F_needs := fun_mk (st := s_needs) l_needs c_needs k_needs
  have b_needs := F_needs.binds (ps := ["chart", "text"]) fun _ _ _ _ _ _ us hl => match us, hl with | [_, _], _ => rfl
  have F_tells := fun_mk (st := s_tells) l_tells c_tells k_tells
  have b_tells := F_tells.binds (ps := ["chart", "text", "landmark"]) fun _ _ _ _ _ _ us hl => match us, hl with | [_, _, _], _ => rfl
  have F_same := fun_mk (st := s_same) l_same c_same k_same
  have b_same := F_same.binds (ps := ["chart", "text", "other"]) fun _ _ _ _ _ _ us hl => match us, hl with | [_, _, _], _ => rfl
  have F_lost := fun_mk (st := s_lost) l_lost c_lost k_lost
  have b_lost := F_lost.binds (ps := ["chart", "text", "landmark", "found"]) fun _ _ _ _ _ _ us hl => match us, hl with | [_, _, _, _], _ => rfl
  have F_line := fun_mk (st := s_line) l_line c_line k_line
  have b_line := F_line.binds (ps := ["chart", "text", "landmark", "first", "second"]) fun _ _ _ _ _ _ us hl => match us, hl with | [_, _, _, _, _], _ => rfl
  have F_apart := fun_mk (st := s_apart) l_apart c_apart k_apart
  have b_apart := F_apart.binds (ps := ["chart", "text", "other"]) fun _ _ _ _ _ _ us hl => match us, hl with | [_, _, _], _ => rfl
  have F_move := fun_mk (st := s_move) l_move c_move k_move
  have b_move := F_move.binds (ps := ["chart", "landmark", "place"]) fun _ _ _ _ _ _ us hl => match us, hl with | [_, _, _], _ => rfl
  have F_make_gone := fun_mk (st := s_make_gone) l_make_gone c_make_gone k_make_gone
  have b_make_gone := F_make_gone.binds (ps := ["chart", "landmark"]) fun _ _ _ _ _ _ us hl => match us, hl with | [_, _], _ => rfl
  have F_look := fun_mk (st := s_look) l_look c_look k_look
  have b_look := F_look.binds (ps := ["chart"]) fun _ _ _ _ _ _ us hl => match us, hl with | [_], _ => rfl
  have F_read_calls := fun_mk (st := s_read_calls) l_read_calls c_read_calls k_read_calls
  have b_read_calls := F_read_calls.binds (ps := ["calls"]) fun _ _ _ _ _ _ us hl => match us, hl with | [_], _ => rfl
  have F_answer_call := fun_mk (st := s_answer_call) l_answer_call c_answer_call k_answer_call
  have b_answer_call := F_answer_call.binds (ps := ["chart", "number", "numbers", "lists"]) fun _ _ _ _ _ _ us hl => match us, hl with | [_, _, _, _], _ => rfl
  have F_answers := fun_mk (st := s_answers) l_answers c_answers k_answers
  refine ⟨PySem.W.fnOf "answers" "answers" (defArgs s_answers) (defBody s_answers) (defScope s_answers) .none kV_answers dc_answers pm_answers an_answers cd_answers ct_answers, fun s us hu => match us, hu with | [_], _ => .of_eq rfl, fun base _ _ => ?_⟩
  have o_halved : FnOk P w K mg base CX0 1 f_halved _ ["shares"] (sp_halved K) := ok_halved (k := 0) F_halved T
  have C_halved : Cal P w K mg base 1 "halved" ["shares"] (sp_halved K) := ⟨_, _, PySem.W.mg_of X G a_halved, F_halved.kp, b_halved, o_halved⟩
  have o_added : FnOk P w K mg base CX0 1 f_added _ ["shares", "others", "times"] (sp_added K) := ok_added (k := 0) F_added T
  have C_added : Cal P w K mg base 1 "added" ["shares", "others", "times"] (sp_added K) := ⟨_, _, PySem.W.mg_of X G a_added, F_added.kp, b_added, o_added⟩
  have o_turned : FnOk P w K mg base CX0 1 f_turned _ ["shares", "turns"] (sp_turned K) := ok_turned (k := 0) F_turned T
  have C_turned : Cal P w K mg base 1 "turned" ["shares", "turns"] (sp_turned K) := ⟨_, _, PySem.W.mg_of X G a_turned, F_turned.kp, b_turned, o_turned⟩
  have o_landmark_shares : FnOk P w K mg base CX0 1 f_landmark_shares _ ["standing", "landmarks"] (sp_landmark_shares K) := ok_landmark_shares (k := 0) F_landmark_shares T
  have C_landmark_shares : Cal P w K mg base 1 "landmark_shares" ["standing", "landmarks"] (sp_landmark_shares K) := ⟨_, _, PySem.W.mg_of X G a_landmark_shares, F_landmark_shares.kp, b_landmark_shares, o_landmark_shares⟩
  have o_common_divisor : FnOk P w K mg base CX0 1 f_common_divisor _ ["numbers"] (sp_common_divisor K) := ok_common_divisor (k := 0) F_common_divisor T
  have C_common_divisor : Cal P w K mg base 1 "common_divisor" ["numbers"] (sp_common_divisor K) := ⟨_, _, PySem.W.mg_of X G a_common_divisor, F_common_divisor.kp, b_common_divisor, o_common_divisor⟩
  have o_in_lowest_terms : FnOk P w K mg base CX0 2 f_in_lowest_terms _ ["numbers"] (sp_in_lowest_terms K) := ok_in_lowest_terms (k := 0) F_in_lowest_terms C_common_divisor
  have C_in_lowest_terms : Cal P w K mg base 2 "in_lowest_terms" ["numbers"] (sp_in_lowest_terms K) := ⟨_, _, PySem.W.mg_of X G a_in_lowest_terms, F_in_lowest_terms.kp, b_in_lowest_terms, o_in_lowest_terms⟩
  have o_product : FnOk P w K mg base CX0 1 f_product _ ["pair", "other"] (sp_product K) := ok_product (k := 0) F_product 
  have C_product : Cal P w K mg base 1 "product" ["pair", "other"] (sp_product K) := ⟨_, _, PySem.W.mg_of X G a_product, F_product.kp, b_product, o_product⟩
  have o_is_place : FnOk P w K mg base CX0 1 f_is_place _ ["numbers"] (sp_is_place K) := ok_is_place (k := 0) F_is_place T
  have C_is_place : Cal P w K mg base 1 "is_place" ["numbers"] (sp_is_place K) := ⟨_, _, PySem.W.mg_of X G a_is_place, F_is_place.kp, b_is_place, o_is_place⟩
  have o_is_saying : FnOk P w K mg base CX0 1 f_is_saying _ ["saying"] (sp_is_saying K) := ok_is_saying (k := 0) F_is_saying T
  have C_is_saying : Cal P w K mg base 1 "is_saying" ["saying"] (sp_is_saying K) := ⟨_, _, PySem.W.mg_of X G a_is_saying, F_is_saying.kp, b_is_saying, o_is_saying⟩
  have o_is_text : FnOk P w K mg base CX0 2 f_is_text _ ["sayings"] (sp_is_text K) := ok_is_text (k := 0) F_is_text T C_is_saying
  have C_is_text : Cal P w K mg base 2 "is_text" ["sayings"] (sp_is_text K) := ⟨_, _, PySem.W.mg_of X G a_is_text, F_is_text.kp, b_is_text, o_is_text⟩
  have o_can_follow : FnOk P w K mg base CX0 1 f_can_follow _ ["saying", "landmarks", "pegs"] (sp_can_follow K) := ok_can_follow (k := 0) F_can_follow T
  have C_can_follow : Cal P w K mg base 1 "can_follow" ["saying", "landmarks", "pegs"] (sp_can_follow K) := ⟨_, _, PySem.W.mg_of X G a_can_follow, F_can_follow.kp, b_can_follow, o_can_follow⟩
  have o_count_followed : FnOk P w K mg base CX0 2 f_count_followed _ ["sayings", "landmarks"] (sp_count_followed K) := ok_count_followed (k := 0) F_count_followed T C_can_follow
  have C_count_followed : Cal P w K mg base 2 "count_followed" ["sayings", "landmarks"] (sp_count_followed K) := ⟨_, _, PySem.W.mg_of X G a_count_followed, F_count_followed.kp, b_count_followed, o_count_followed⟩
  have o_is_too_fine : FnOk P w K mg base CX0 1 f_is_too_fine _ ["sayings"] (sp_is_too_fine K) := ok_is_too_fine (k := 0) F_is_too_fine T
  have C_is_too_fine : Cal P w K mg base 1 "is_too_fine" ["sayings"] (sp_is_too_fine K) := ⟨_, _, PySem.W.mg_of X G a_is_too_fine, F_is_too_fine.kp, b_is_too_fine, o_is_too_fine⟩
  have o_Follower_go_to : FnOk P w K mg base CX0 2 f_Follower_go_to _ ["self", "there"] (sp_go_to K C_Follower) := ok_go_to (k := 0) F_Follower_go_to T_Follower C_added
  have M_go_to : CalM P w K mg base 2 C_Follower "go_to" ["self", "there"] (sp_go_to K C_Follower) := ⟨kc_Follower.cl, _, _, ⟨a_Follower_go_to, m_Follower_go_to, F_Follower_go_to.kp⟩, b_Follower_go_to, o_Follower_go_to⟩
  have o_Follower___init__ : FnOk P w K mg base CX0 1 f_Follower___init__ _ ["self", "landmarks"] (sp_Follower K C_Follower) := ok_Follower (k := 0) F_Follower___init__ T T_Follower
  have N_Follower : CalN P w K mg base 1 "Follower" C_Follower ["self", "landmarks"] (sp_Follower K C_Follower) := ⟨PySem.W.mg_of X G g_Follower, _, _, ⟨kc_Follower.mks, a_Follower___init__, m_Follower___init__, kc_Follower.kc⟩, b_Follower___init__, o_Follower___init__⟩
  have o_Follower_follow : FnOk P w K mg base CX0 3 f_Follower_follow _ ["self", "saying"] (sp_follow K C_Follower) := ok_follow (k := 0) F_Follower_follow T T_Follower C_landmark_shares C_added C_halved C_turned M_go_to
  have M_follow : CalM P w K mg base 3 C_Follower "follow" ["self", "saying"] (sp_follow K C_Follower) := ⟨kc_Follower.cl, _, _, ⟨a_Follower_follow, m_Follower_follow, F_Follower_follow.kp⟩, b_Follower_follow, o_Follower_follow⟩
  have o_has_text : FnOk P w K mg base CX0 1 f_has_text _ ["chart", "text"] (sp_has_text K C_Chart) := ok_has_text (k := 0) F_has_text T T_Chart
  have C_has_text : Cal P w K mg base 1 "has_text" ["chart", "text"] (sp_has_text K C_Chart) := ⟨_, _, PySem.W.mg_of X G a_has_text, F_has_text.kp, b_has_text, o_has_text⟩
  have o_has_landmark : FnOk P w K mg base CX0 1 f_has_landmark _ ["chart", "landmark"] (sp_has_landmark K C_Chart) := ok_has_landmark (k := 0) F_has_landmark T T_Chart
  have C_has_landmark : Cal P w K mg base 1 "has_landmark" ["chart", "landmark"] (sp_has_landmark K C_Chart) := ⟨_, _, PySem.W.mg_of X G a_has_landmark, F_has_landmark.kp, b_has_landmark, o_has_landmark⟩
  have o_places_with : FnOk P w K mg base CX0 1 f_places_with _ ["chart", "landmark", "place"] (sp_places_with K C_Chart) := ok_places_with (k := 0) F_places_with T T_Chart
  have C_places_with : Cal P w K mg base 1 "places_with" ["chart", "landmark", "place"] (sp_places_with K C_Chart) := ⟨_, _, PySem.W.mg_of X G a_places_with, F_places_with.kp, b_places_with, o_places_with⟩
  have o_shares_of : FnOk P w K mg base CX0 4 f_shares_of _ ["sayings", "landmarks"] (sp_shares_of K) := ok_shares_of (k := 0) F_shares_of T T_Follower N_Follower M_follow
  have C_shares_of : Cal P w K mg base 4 "shares_of" ["sayings", "landmarks"] (sp_shares_of K) := ⟨_, _, PySem.W.mg_of X G a_shares_of, F_shares_of.kp, b_shares_of, o_shares_of⟩
  have o_treasure_shares : FnOk P w K mg base CX0 5 f_treasure_shares _ ["chart", "text"] (sp_treasure_shares K C_Chart) := ok_treasure_shares (k := 0) F_treasure_shares T T_Chart C_shares_of
  have C_treasure_shares : Cal P w K mg base 5 "treasure_shares" ["chart", "text"] (sp_treasure_shares K C_Chart) := ⟨_, _, PySem.W.mg_of X G a_treasure_shares, F_treasure_shares.kp, b_treasure_shares, o_treasure_shares⟩
  have o_needed_landmarks : FnOk P w K mg base CX0 1 f_needed_landmarks _ ["shares"] (sp_needed_landmarks K) := ok_needed_landmarks (k := 0) F_needed_landmarks T
  have C_needed_landmarks : Cal P w K mg base 1 "needed_landmarks" ["shares"] (sp_needed_landmarks K) := ⟨_, _, PySem.W.mg_of X G a_needed_landmarks, F_needed_landmarks.kp, b_needed_landmarks, o_needed_landmarks⟩
  have o_refusal_if_gone : FnOk P w K mg base CX0 2 f_refusal_if_gone _ ["places", "shares"] (sp_refusal_if_gone K) := ok_refusal_if_gone (k := 0) F_refusal_if_gone T C_needed_landmarks
  have C_refusal_if_gone : Cal P w K mg base 2 "refusal_if_gone" ["places", "shares"] (sp_refusal_if_gone K) := ⟨_, _, PySem.W.mg_of X G a_refusal_if_gone, F_refusal_if_gone.kp, b_refusal_if_gone, o_refusal_if_gone⟩
  have o_treasure_in_parts : FnOk P w K mg base CX0 2 f_treasure_in_parts _ ["places", "shares"] (sp_treasure_in_parts K) := ok_treasure_in_parts (k := 0) F_treasure_in_parts C_needed_landmarks C_product
  have C_treasure_in_parts : Cal P w K mg base 2 "treasure_in_parts" ["places", "shares"] (sp_treasure_in_parts K) := ⟨_, _, PySem.W.mg_of X G a_treasure_in_parts, F_treasure_in_parts.kp, b_treasure_in_parts, o_treasure_in_parts⟩
  have o_treasure_place : FnOk P w K mg base CX0 3 f_treasure_place _ ["places", "shares"] (sp_treasure_place K) := ok_treasure_place (k := 0) F_treasure_place T C_treasure_in_parts C_in_lowest_terms
  have C_treasure_place : Cal P w K mg base 3 "treasure_place" ["places", "shares"] (sp_treasure_place K) := ⟨_, _, PySem.W.mg_of X G a_treasure_place, F_treasure_place.kp, b_treasure_place, o_treasure_place⟩
  have o_treasure : FnOk P w K mg base CX0 6 f_treasure _ ["chart", "text"] (sp_treasure K C_Chart) := ok_treasure (k := 0) F_treasure T T_Chart C_has_text C_treasure_shares C_refusal_if_gone C_treasure_place
  have C_treasure : Cal P w K mg base 6 "treasure" ["chart", "text"] (sp_treasure K C_Chart) := ⟨_, _, PySem.W.mg_of X G a_treasure, F_treasure.kp, b_treasure, o_treasure⟩
  have o_needs : FnOk P w K mg base CX0 6 f_needs _ ["chart", "text"] (sp_needs K C_Chart) := ok_needs (k := 0) F_needs T C_has_text C_treasure_shares C_needed_landmarks
  have C_needs : Cal P w K mg base 6 "needs" ["chart", "text"] (sp_needs K C_Chart) := ⟨_, _, PySem.W.mg_of X G a_needs, F_needs.kp, b_needs, o_needs⟩
  have o_tells : FnOk P w K mg base CX0 6 f_tells _ ["chart", "text", "landmark"] (sp_tells K C_Chart) := ok_tells (k := 0) F_tells T C_has_text C_treasure_shares C_has_landmark C_in_lowest_terms
  have C_tells : Cal P w K mg base 6 "tells" ["chart", "text", "landmark"] (sp_tells K C_Chart) := ⟨_, _, PySem.W.mg_of X G a_tells, F_tells.kp, b_tells, o_tells⟩
  have o_same : FnOk P w K mg base CX0 6 f_same _ ["chart", "text", "other"] (sp_same K C_Chart) := ok_same (k := 0) F_same T C_has_text C_treasure_shares
  have C_same : Cal P w K mg base 6 "same" ["chart", "text", "other"] (sp_same K C_Chart) := ⟨_, _, PySem.W.mg_of X G a_same, F_same.kp, b_same, o_same⟩
  have o_lost : FnOk P w K mg base CX0 6 f_lost _ ["chart", "text", "landmark", "found"] (sp_lost K C_Chart) := ok_lost (k := 0) F_lost T C_has_text C_has_landmark C_is_place C_treasure_shares C_places_with C_refusal_if_gone C_treasure_in_parts C_product C_in_lowest_terms
  have C_lost : Cal P w K mg base 6 "lost" ["chart", "text", "landmark", "found"] (sp_lost K C_Chart) := ⟨_, _, PySem.W.mg_of X G a_lost, F_lost.kp, b_lost, o_lost⟩
  have o_line : FnOk P w K mg base CX0 6 f_line _ ["chart", "text", "landmark", "first", "second"] (sp_line K C_Chart) := ok_line (k := 0) F_line T C_has_text C_has_landmark C_is_place C_treasure_shares C_places_with C_refusal_if_gone C_treasure_place
  have C_line : Cal P w K mg base 6 "line" ["chart", "text", "landmark", "first", "second"] (sp_line K C_Chart) := ⟨_, _, PySem.W.mg_of X G a_line, F_line.kp, b_line, o_line⟩
  have o_apart : FnOk P w K mg base CX0 6 f_apart _ ["chart", "text", "other"] (sp_apart K C_Chart) := ok_apart (k := 0) F_apart T T_Chart C_has_text C_treasure_shares C_refusal_if_gone C_added C_treasure_in_parts C_in_lowest_terms
  have C_apart : Cal P w K mg base 6 "apart" ["chart", "text", "other"] (sp_apart K C_Chart) := ⟨_, _, PySem.W.mg_of X G a_apart, F_apart.kp, b_apart, o_apart⟩
  have o_move : FnOk P w K mg base CX0 2 f_move _ ["chart", "landmark", "place"] (sp_move K C_Chart) := ok_move (k := 0) F_move T T_Chart C_has_landmark C_is_place C_places_with
  have C_move : Cal P w K mg base 2 "move" ["chart", "landmark", "place"] (sp_move K C_Chart) := ⟨_, _, PySem.W.mg_of X G a_move, F_move.kp, b_move, o_move⟩
  have o_make_gone : FnOk P w K mg base CX0 2 f_make_gone _ ["chart", "landmark"] (sp_make_gone K C_Chart) := ok_make_gone (k := 0) F_make_gone T T_Chart C_has_landmark C_places_with
  have C_make_gone : Cal P w K mg base 2 "make_gone" ["chart", "landmark"] (sp_make_gone K C_Chart) := ⟨_, _, PySem.W.mg_of X G a_make_gone, F_make_gone.kp, b_make_gone, o_make_gone⟩
  have o_look : FnOk P w K mg base CX0 1 f_look _ ["chart"] (sp_look K C_Chart) := ok_look (k := 0) F_look T T_Chart
  have C_look : Cal P w K mg base 1 "look" ["chart"] (sp_look K C_Chart) := ⟨_, _, PySem.W.mg_of X G a_look, F_look.kp, b_look, o_look⟩
  have o_Chart___init__ : FnOk P w K mg base CX0 1 f_Chart___init__ _ ["self"] (sp_Chart K C_Chart) := ok_Chart (k := 0) F_Chart___init__ T_Chart
  have N_Chart : CalN P w K mg base 1 "Chart" C_Chart ["self"] (sp_Chart K C_Chart) := ⟨PySem.W.mg_of X G g_Chart, _, _, ⟨kc_Chart.mks, a_Chart___init__, m_Chart___init__, kc_Chart.kc⟩, b_Chart___init__, o_Chart___init__⟩
  have o_begin : FnOk P w K mg base CX0 2 f_begin _ ["chart", "landmarks"] (sp_begin K C_Chart) := ok_begin (k := 0) F_begin T T_Chart C_is_place
  have C_begin : Cal P w K mg base 2 "begin" ["chart", "landmarks"] (sp_begin K C_Chart) := ⟨_, _, PySem.W.mg_of X G a_begin, F_begin.kp, b_begin, o_begin⟩
  have o_add_text : FnOk P w K mg base CX0 3 f_add_text _ ["chart", "sayings"] (sp_add_text K C_Chart) := ok_add_text (k := 0) F_add_text T T_Chart C_is_text C_count_followed C_is_too_fine
  have C_add_text : Cal P w K mg base 3 "add_text" ["chart", "sayings"] (sp_add_text K C_Chart) := ⟨_, _, PySem.W.mg_of X G a_add_text, F_add_text.kp, b_add_text, o_add_text⟩
  have o_read_calls : FnOk P w K mg base CX0 1 f_read_calls _ ["calls"] (sp_read_calls K) := ok_read_calls (k := 0) F_read_calls T
  have C_read_calls : Cal P w K mg base 1 "read_calls" ["calls"] (sp_read_calls K) := ⟨_, _, PySem.W.mg_of X G a_read_calls, F_read_calls.kp, b_read_calls, o_read_calls⟩
  have o_answer_call : FnOk P w K mg base CX0 7 f_answer_call _ ["chart", "number", "numbers", "lists"] (sp_answer_call K C_Chart) := ok_answer_call (k := 0) F_answer_call T T_Chart C_begin C_add_text C_treasure C_needs C_tells C_same C_lost C_line C_apart C_move C_make_gone C_look
  have C_answer_call : Cal P w K mg base 7 "answer_call" ["chart", "number", "numbers", "lists"] (sp_answer_call K C_Chart) := ⟨_, _, PySem.W.mg_of X G a_answer_call, F_answer_call.kp, b_answer_call, o_answer_call⟩
  exact ok_answers (k := 0) F_answers T N_Chart C_read_calls C_answer_call
end Gk
open PySem PySem.W PyProof.Rows
set_option maxRecDepth 100000 in
set_option maxHeartbeats 8000000 in
theorem PySem.Challenge.cw_goneoak_s01_answers_holds : PySem.Challenge.rw_goneoak_s01_answers.Holds := by
  w_on; k_headS; (case hw => exact ⟨[.list [.int 11, .int 0, .int 0]], by decide +kernel, by decide +kernel⟩)
  k_fillS
  refine L2.walk_specK (r := PySem.Challenge.rw_goneoak_s01_answers) (k := 8) (CX := L2.CX0) (ps := ["calls"]) (sp := Gk.sp_answers) (by decide +kernel) rfl rfl ⟨rfl, by decide, by decide⟩ (fun w h Y => PySem.W.kIn_of Y) ?F ?S (fun _ _ _ _ z => z)
  case F =>
    intro w mg fa h Y KX G hmg
    refine' Gk.all_mk KX G hmg ?g_Chart ?g_Follower ?a_is_saying ?l_is_saying ?c_is_saying ?k_is_saying ?a_is_text ?l_is_text ?c_is_text ?k_is_text ?a_can_follow ?l_can_follow ?c_can_follow ?k_can_follow ?a_count_followed ?l_count_followed ?c_count_followed ?k_count_followed ?a_is_too_fine ?l_is_too_fine ?c_is_too_fine ?k_is_too_fine ?a_Follower___init__ ?m_Follower___init__ ?l_Follower___init__ ?c_Follower___init__ ?k_Follower___init__ ?a_Follower_follow ?m_Follower_follow ?l_Follower_follow ?c_Follower_follow ?k_Follower_follow ?a_Follower_go_to ?m_Follower_go_to ?l_Follower_go_to ?c_Follower_go_to ?k_Follower_go_to ?a_landmark_shares ?l_landmark_shares ?c_landmark_shares ?k_landmark_shares ?a_added ?l_added ?c_added ?k_added ?a_halved ?l_halved ?c_halved ?k_halved ?a_turned ?l_turned ?c_turned ?k_turned ?a_shares_of ?l_shares_of ?c_shares_of ?k_shares_of ?a_Chart___init__ ?m_Chart___init__ ?l_Chart___init__ ?c_Chart___init__ ?k_Chart___init__ ?a_common_divisor ?l_common_divisor ?c_common_divisor ?k_common_divisor ?a_in_lowest_terms ?l_in_lowest_terms ?c_in_lowest_terms ?k_in_lowest_terms ?a_product ?l_product ?c_product ?k_product ?a_is_place ?l_is_place ?c_is_place ?k_is_place ?a_has_text ?l_has_text ?c_has_text ?k_has_text ?a_has_landmark ?l_has_landmark ?c_has_landmark ?k_has_landmark ?a_places_with ?l_places_with ?c_places_with ?k_places_with ?a_treasure_shares ?l_treasure_shares ?c_treasure_shares ?k_treasure_shares ?a_needed_landmarks ?l_needed_landmarks ?c_needed_landmarks ?k_needed_landmarks ?a_refusal_if_gone ?l_refusal_if_gone ?c_refusal_if_gone ?k_refusal_if_gone ?a_treasure_in_parts ?l_treasure_in_parts ?c_treasure_in_parts ?k_treasure_in_parts ?a_treasure_place ?l_treasure_place ?c_treasure_place ?k_treasure_place ?a_begin ?l_begin ?c_begin ?k_begin ?a_add_text ?l_add_text ?c_add_text ?k_add_text ?a_treasure ?l_treasure ?c_treasure ?k_treasure ?a_needs ?l_needs ?c_needs ?k_needs ?a_tells ?l_tells ?c_tells ?k_tells ?a_same ?l_same ?c_same ?k_same ?a_lost ?l_lost ?c_lost ?k_lost ?a_line ?l_line ?c_line ?k_line ?a_apart ?l_apart ?c_apart ?k_apart ?a_move ?l_move ?c_move ?k_move ?a_make_gone ?l_make_gone ?c_make_gone ?k_make_gone ?a_look ?l_look ?c_look ?k_look ?a_read_calls ?l_read_calls ?c_read_calls ?k_read_calls ?a_answer_call ?l_answer_call ?c_answer_call ?k_answer_call ?a_answers ?l_answers ?c_answers ?k_answers ?kc_Chart ?n_Chart_places ?n_Chart_texts ?kc_Follower ?n_Follower_landmarks ?n_Follower_here ?n_Follower_way ?n_Follower_pegs ?g_STAND ?g_TO_LANDMARK ?g_TO_PEG ?g_TURN ?g_GO_ON ?g_GO_HALF ?g_DRIVE ?g_HALFWAY ?g_MOST_SAYINGS ?g_MOST_TIMES ?g_MOST_HALVINGS ?g_PARTS ?g_BEGIN ?g_TEXT ?g_TREASURE ?g_NEEDS ?g_TELLS ?g_SAME ?g_LOST ?g_LINE ?g_APART ?g_MOVE ?g_GONE ?g_LOOK ?g_WRONG ?g_NO_TEXT ?g_NOT_THERE ?g_TOO_FINE ?g_TEXTS_FULL ?g_IS_GONE ?g_NOT_NEEDED ?g_NO_MAP ?g_MOST_LANDMARKS ?g_MOST_TEXTS ?g_FARTHEST ?g_SAYING_LENGTHS ?t_SAYING_LENGTHS ?g_NOTHING ?t_NOTHING ?g_MIDDLE ?t_MIDDLE ?z_len ?z_range ?z_zip ?z_enumerate ?z_all ?z_abs
    (case g_Chart => k_is)
    (case g_Follower => k_is)
    (case a_is_saying => k_is)
    (case l_is_saying => k_is)
    (case c_is_saying => k_is)
    (case k_is_saying => k_is)
    (case a_is_text => k_is)
    (case l_is_text => k_is)
    (case c_is_text => k_is)
    (case k_is_text => k_is)
    (case a_can_follow => k_is)
    (case l_can_follow => k_is)
    (case c_can_follow => k_is)
    (case k_can_follow => k_is)
    (case a_count_followed => k_is)
    (case l_count_followed => k_is)
    (case c_count_followed => k_is)
    (case k_count_followed => k_is)
    (case a_is_too_fine => k_is)
    (case l_is_too_fine => k_is)
    (case c_is_too_fine => k_is)
    (case k_is_too_fine => k_is)
    (case a_Follower___init__ => k_is)
    (case m_Follower___init__ => k_is)
    (case l_Follower___init__ => k_is)
    (case c_Follower___init__ => k_is)
    (case k_Follower___init__ => k_is)
    (case a_Follower_follow => k_is)
    (case m_Follower_follow => k_is)
    (case l_Follower_follow => k_is)
    (case c_Follower_follow => k_is)
    (case k_Follower_follow => k_is)
    (case a_Follower_go_to => k_is)
    (case m_Follower_go_to => k_is)
    (case l_Follower_go_to => k_is)
    (case c_Follower_go_to => k_is)
    (case k_Follower_go_to => k_is)
    (case a_landmark_shares => k_is)
    (case l_landmark_shares => k_is)
    (case c_landmark_shares => k_is)
    (case k_landmark_shares => k_is)
    (case a_added => k_is)
    (case l_added => k_is)
    (case c_added => k_is)
    (case k_added => k_is)
    (case a_halved => k_is)
    (case l_halved => k_is)
    (case c_halved => k_is)
    (case k_halved => k_is)
    (case a_turned => k_is)
    (case l_turned => k_is)
    (case c_turned => k_is)
    (case k_turned => k_is)
    (case a_shares_of => k_is)
    (case l_shares_of => k_is)
    (case c_shares_of => k_is)
    (case k_shares_of => k_is)
    (case a_Chart___init__ => k_is)
    (case m_Chart___init__ => k_is)
    (case l_Chart___init__ => k_is)
    (case c_Chart___init__ => k_is)
    (case k_Chart___init__ => k_is)
    (case a_common_divisor => k_is)
    (case l_common_divisor => k_is)
    (case c_common_divisor => k_is)
    (case k_common_divisor => k_is)
    (case a_in_lowest_terms => k_is)
    (case l_in_lowest_terms => k_is)
    (case c_in_lowest_terms => k_is)
    (case k_in_lowest_terms => k_is)
    (case a_product => k_is)
    (case l_product => k_is)
    (case c_product => k_is)
    (case k_product => k_is)
    (case a_is_place => k_is)
    (case l_is_place => k_is)
    (case c_is_place => k_is)
    (case k_is_place => k_is)
    (case a_has_text => k_is)
    (case l_has_text => k_is)
    (case c_has_text => k_is)
    (case k_has_text => k_is)
    (case a_has_landmark => k_is)
    (case l_has_landmark => k_is)
    (case c_has_landmark => k_is)
    (case k_has_landmark => k_is)
    (case a_places_with => k_is)
    (case l_places_with => k_is)
    (case c_places_with => k_is)
    (case k_places_with => k_is)
    (case a_treasure_shares => k_is)
    (case l_treasure_shares => k_is)
    (case c_treasure_shares => k_is)
    (case k_treasure_shares => k_is)
    (case a_needed_landmarks => k_is)
    (case l_needed_landmarks => k_is)
    (case c_needed_landmarks => k_is)
    (case k_needed_landmarks => k_is)
    (case a_refusal_if_gone => k_is)
    (case l_refusal_if_gone => k_is)
    (case c_refusal_if_gone => k_is)
    (case k_refusal_if_gone => k_is)
    (case a_treasure_in_parts => k_is)
    (case l_treasure_in_parts => k_is)
    (case c_treasure_in_parts => k_is)
    (case k_treasure_in_parts => k_is)
    (case a_treasure_place => k_is)
    (case l_treasure_place => k_is)
    (case c_treasure_place => k_is)
    (case k_treasure_place => k_is)
    (case a_begin => k_is)
    (case l_begin => k_is)
    (case c_begin => k_is)
    (case k_begin => k_is)
    (case a_add_text => k_is)
    (case l_add_text => k_is)
    (case c_add_text => k_is)
    (case k_add_text => k_is)
    (case a_treasure => k_is)
    (case l_treasure => k_is)
    (case c_treasure => k_is)
    (case k_treasure => k_is)
    (case a_needs => k_is)
    (case l_needs => k_is)
    (case c_needs => k_is)
    (case k_needs => k_is)
    (case a_tells => k_is)
    (case l_tells => k_is)
    (case c_tells => k_is)
    (case k_tells => k_is)
    (case a_same => k_is)
    (case l_same => k_is)
    (case c_same => k_is)
    (case k_same => k_is)
    (case a_lost => k_is)
    (case l_lost => k_is)
    (case c_lost => k_is)
    (case k_lost => k_is)
    (case a_line => k_is)
    (case l_line => k_is)
    (case c_line => k_is)
    (case k_line => k_is)
    (case a_apart => k_is)
    (case l_apart => k_is)
    (case c_apart => k_is)
    (case k_apart => k_is)
    (case a_move => k_is)
    (case l_move => k_is)
    (case c_move => k_is)
    (case k_move => k_is)
    (case a_make_gone => k_is)
    (case l_make_gone => k_is)
    (case c_make_gone => k_is)
    (case k_make_gone => k_is)
    (case a_look => k_is)
    (case l_look => k_is)
    (case c_look => k_is)
    (case k_look => k_is)
    (case a_read_calls => k_is)
    (case l_read_calls => k_is)
    (case c_read_calls => k_is)
    (case k_read_calls => k_is)
    (case a_answer_call => k_is)
    (case l_answer_call => k_is)
    (case c_answer_call => k_is)
    (case k_answer_call => k_is)
    (case a_answers => k_is)
    (case l_answers => k_is)
    (case c_answers => k_is)
    (case k_answers => k_is)
    (case kc_Chart => refine' ⟨?pg, ?hd, ?po, ?sa, ?mk, ?kc⟩; (case pg => k_is); (case hd => k_is); (case po => k_is); (case sa => k_is); (case mk => k_is); (case kc => k_is))
    (case n_Chart_places => k_is)
    (case n_Chart_texts => k_is)
    (case kc_Follower => refine' ⟨?pg, ?hd, ?po, ?sa, ?mk, ?kc⟩; (case pg => k_is); (case hd => k_is); (case po => k_is); (case sa => k_is); (case mk => k_is); (case kc => k_is))
    (case n_Follower_landmarks => k_is)
    (case n_Follower_here => k_is)
    (case n_Follower_way => k_is)
    (case n_Follower_pegs => k_is)
    (case g_STAND => k_is)
    (case g_TO_LANDMARK => k_is)
    (case g_TO_PEG => k_is)
    (case g_TURN => k_is)
    (case g_GO_ON => k_is)
    (case g_GO_HALF => k_is)
    (case g_DRIVE => k_is)
    (case g_HALFWAY => k_is)
    (case g_MOST_SAYINGS => k_is)
    (case g_MOST_TIMES => k_is)
    (case g_MOST_HALVINGS => k_is)
    (case g_PARTS => k_is)
    (case g_BEGIN => k_is)
    (case g_TEXT => k_is)
    (case g_TREASURE => k_is)
    (case g_NEEDS => k_is)
    (case g_TELLS => k_is)
    (case g_SAME => k_is)
    (case g_LOST => k_is)
    (case g_LINE => k_is)
    (case g_APART => k_is)
    (case g_MOVE => k_is)
    (case g_GONE => k_is)
    (case g_LOOK => k_is)
    (case g_WRONG => k_is)
    (case g_NO_TEXT => k_is)
    (case g_NOT_THERE => k_is)
    (case g_TOO_FINE => k_is)
    (case g_TEXTS_FULL => k_is)
    (case g_IS_GONE => k_is)
    (case g_NOT_NEEDED => k_is)
    (case g_NO_MAP => k_is)
    (case g_MOST_LANDMARKS => k_is)
    (case g_MOST_TEXTS => k_is)
    (case g_FARTHEST => k_is)
    (case g_SAYING_LENGTHS => k_is)
    (case t_SAYING_LENGTHS => k_is)
    (case g_NOTHING => k_is)
    (case t_NOTHING => k_is)
    (case g_MIDDLE => k_is)
    (case t_MIDDLE => k_is)
    (case z_len => k_is)
    (case z_range => k_is)
    (case z_zip => k_is)
    (case z_enumerate => k_is)
    (case z_all => k_is)
    (case z_abs => k_is)
  case S =>
    intro K H xs a hO hwi hask hx
    cases hx with
    | cons h1 h2 =>
      cases h2
      cases h1 with
      | lst hs ha =>
        have e := L2.ints_dw a.1 _ ha
        subst e
        have q : ((Codec.inLen 0 6200 a.1 && a.1.all (Codec.inInt (-2000) 2000)) && true) = true := hwi
        rw [Bool.and_eq_true, Bool.and_eq_true] at q
        exact ⟨_, a.1, rfl, hs, (Codec.inNat_iff.mp q.1.1).2, hask, fun H' p hp => .lst (L2.SqL.of hp) (L2.dw_ints _)⟩
#print axioms PySem.Challenge.cw_goneoak_s01_answers_holds
