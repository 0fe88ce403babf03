import PyProof.Rows.All
import Wide.All
import OpenK.AllK
import Wide.FinOn
import Open.SpecLaws
import KE.OsGo
import HandS.ForMost
import HandS.ForSpec
import HandS.Walk
import HandS.Codes
import HandS.CallLocal
import HandS.TupLen
import HandS.SetFor
import HandS.Conv
import HandS.Deep
import HandS.Zip
import KE.KDictDisplayH
import PyProof.SeqI3
import PySem.Challenge.RW_softedges_s01_answers
set_option Elab.async false
namespace SE
open Ie01
/-! ### lists -/
theorem range_mul (w : Nat) : ∀ h : Nat, List.range (w * (h + 1)) = List.range (w * h) ++ (List.range w).map (fun x => w * h + x) := by
  intro h
  rw [Nat.mul_succ, List.range_add]
def cellsOf (w h : Nat) : List Cell := (List.range h).flatMap fun y => (List.range w).map fun x => (x, y)
theorem all_eq (p : Page) : p.all = cellsOf p.w p.h := rfl
theorem cellsOf_succ (w h : Nat) : cellsOf w (h + 1) = cellsOf w h ++ (List.range w).map fun x => (x, h) := by
  unfold cellsOf
  rw [List.range_succ, List.flatMap_append]
  simp
theorem cellsOf_eq (w h : Nat) (hw : 0 < w) : cellsOf w h = (List.range (w * h)).map fun i => (i % w, i / w) := by
  induction h with
  | zero => simp [cellsOf]
  | succ h ih =>
    rw [cellsOf_succ, range_mul, List.map_append, ih, List.map_map]
    congr 1
    apply List.map_congr_left
    intro x hx
    have hx' : x < w := List.mem_range.mp hx
    show (x, h) = ((w * h + x) % w, (w * h + x) / w)
    rw [Nat.mul_add_mod, Nat.mod_eq_of_lt hx', Nat.mul_add_div hw, Nat.div_eq_of_lt hx', Nat.add_zero]
theorem cellsOf_length (w h : Nat) : (cellsOf w h).length = w * h := by
  induction h with
  | zero => simp [cellsOf]
  | succ h ih => rw [cellsOf_succ, List.length_append, ih, List.length_map, List.length_range, Nat.mul_succ]
theorem mem_cellsOf {w h : Nat} {c : Cell} : c ∈ cellsOf w h ↔ c.1 < w ∧ c.2 < h := by
  unfold cellsOf
  obtain ⟨x, y⟩ := c
  simp only [List.mem_flatMap, List.mem_range, List.mem_map, Prod.mk.injEq]
  constructor
  · rintro ⟨y', hy, x', hx, rfl, rfl⟩
    exact ⟨hx, hy⟩
  · rintro ⟨hx, hy⟩
    exact ⟨y, hy, x, hx, rfl, rfl⟩
theorem cellsOf_get {w h i : Nat} (hw : 0 < w) (hi : i < w * h) : (cellsOf w h)[i]? = some (i % w, i / w) := by
  rw [cellsOf_eq w h hw, List.getElem?_map, List.getElem?_range hi]
  rfl
theorem cellsOf_nodup (w h : Nat) : (cellsOf w h).Nodup := by
  by_cases hw : 0 < w
  · rw [cellsOf_eq w h hw]
    rw [List.nodup_iff_pairwise_ne, List.pairwise_map]
    refine List.Pairwise.imp (fun {a b} hab => ?_) List.nodup_range
    intro he
    apply hab
    have h1 : a % w = b % w := congrArg Prod.fst he
    have h2 : a / w = b / w := congrArg Prod.snd he
    rw [← Nat.div_add_mod a w, ← Nat.div_add_mod b w, h1, h2]
  · have : w = 0 := by omega
    subst this
    have e : cellsOf 0 h = [] := List.eq_nil_of_length_eq_zero (by rw [cellsOf_length, Nat.zero_mul])
    rw [e]; exact List.nodup_nil
/-! ### pages -/
structure Ok (p : Page) : Prop where
  len : p.cells.length = p.w * p.h
  w1 : 1 ≤ p.w
  w2 : p.w ≤ 16
  h1 : 1 ≤ p.h
  h2 : p.h ≤ 16
theorem Ok.small {p : Page} (o : Ok p) : p.w * p.h ≤ 256 := by
  have := Nat.mul_le_mul o.w2 o.h2
  omega
theorem of_eq (w h : Nat) (f : Cell → Bool) : Page.of w h f = ⟨w, h, (cellsOf w h).map f⟩ := by
  unfold Page.of cellsOf
  rw [List.map_flatMap]
  simp only [List.map_map]
  rfl
theorem of_ok {w h : Nat} {f : Cell → Bool} (w1 : 1 ≤ w) (w2 : w ≤ 16) (h1 : 1 ≤ h) (h2 : h ≤ 16) : Ok (Page.of w h f) := by
  rw [of_eq]
  exact ⟨by simp [cellsOf_length], w1, w2, h1, h2⟩
theorem Ok.of {p : Page} (o : Ok p) (f : Cell → Bool) : Ok (Page.of p.w p.h f) := of_ok o.w1 o.w2 o.h1 o.h2
theorem init_ok : Ok init := ⟨rfl, by decide, by decide, by decide, by decide⟩
theorem idx_lt {w h x y : Nat} (hx : x < w) (hy : y < h) : y * w + x < w * h := by
  have h1 : (y + 1) * w ≤ h * w := Nat.mul_le_mul_right w hy
  rw [Nat.mul_comm w h]
  rw [Nat.succ_mul] at h1
  omega
theorem has_get {p : Page} (o : Ok p) {i : Nat} (hi : i < p.w * p.h) : p.cells[i]? = some (p.has (i % p.w, i / p.w)) := by
  have hw := o.w1
  have h1 : i % p.w < p.w := Nat.mod_lt _ (by omega)
  have h2 : i / p.w < p.h := Nat.div_lt_of_lt_mul hi
  have e : i / p.w * p.w + i % p.w = i := by
    rw [Nat.mul_comm]
    exact Nat.div_add_mod i p.w
  unfold Page.has
  simp only [h1, h2, decide_true, Bool.true_and, e]
  have hl : i < p.cells.length := by rw [o.len]; exact hi
  rw [List.getD_eq_getElem?_getD, List.getElem?_eq_getElem hl]
  rfl
theorem cells_eq {p : Page} (o : Ok p) : p.cells = p.all.map p.has := by
  apply List.ext_getElem?
  intro i
  rw [List.getElem?_map, all_eq]
  by_cases hi : i < p.w * p.h
  · rw [has_get o hi, cellsOf_get o.w1 hi]
    rfl
  · rw [List.getElem?_eq_none (by rw [o.len]; omega), List.getElem?_eq_none (by rw [cellsOf_length]; omega)]
    rfl
theorem has_of {w h : Nat} {f : Cell → Bool} {c : Cell} (h1 : c.1 < w) (h2 : c.2 < h) : (Page.of w h f).has c = f c := by
  rw [of_eq]
  unfold Page.has
  simp only [h1, h2, decide_true, Bool.true_and]
  have hi := idx_lt h1 h2
  rw [List.getD_eq_getElem?_getD, List.getElem?_map, cellsOf_get (by omega) hi]
  have e1 : (c.2 * w + c.1) % w = c.1 := by rw [Nat.mul_comm, Nat.mul_add_mod, Nat.mod_eq_of_lt h1]
  have e2 : (c.2 * w + c.1) / w = c.2 := by rw [Nat.mul_comm, Nat.mul_add_div (by omega), Nat.div_eq_of_lt h1, Nat.add_zero]
  rw [e1, e2]
  rfl
theorem mem_all {p : Page} {c : Cell} : c ∈ p.all ↔ c.1 < p.w ∧ c.2 < p.h := mem_cellsOf
theorem has_in {p : Page} {c : Cell} (h : p.has c = true) : c ∈ p.all := by
  unfold Page.has at h
  simp only [Bool.and_eq_true, decide_eq_true_eq] at h
  exact mem_all.mpr ⟨h.1, h.2.1⟩
/-- an Ok page is what its has says -/
theorem of_has {p : Page} (o : Ok p) : Page.of p.w p.h p.has = p := by
  rw [of_eq]
  have := cells_eq o
  rw [all_eq] at this
  rw [← this]
theorem zip_marks {p : Page} (o : Ok p) : p.all.zip p.cells = p.all.map fun c => (c, p.has c) := by
  rw [cells_eq o, List.zip_map_right]
  generalize p.all = l
  induction l with
  | nil => rfl
  | cons a l ih => simp only [List.zip_cons_cons, List.map_cons, ih, Prod.map]; rfl
/-! ### the program's list functions -/
def marked {α : Type} (cs : List α) (ms : List Bool) : List α := ((cs.zip ms).filter (·.2)).map (·.1)
theorem marked_page {p : Page} (o : Ok p) : marked p.all p.cells = p.chosen := by
  unfold marked Page.chosen
  rw [zip_marks o, List.filter_map, List.map_map]
  show (p.all.filter fun c => p.has c).map (fun c => c) = _
  simp
theorem over_eq (p : Page) : p.over = Page.of p.w p.h fun c => !p.has c := rfl
theorem over_ok {p : Page} (o : Ok p) : Ok p.over := o.of _
theorem over_cells {p : Page} (o : Ok p) : p.over.cells = p.cells.map fun m => !m := by
  rw [over_eq, of_eq, cells_eq o, List.map_map]
  rfl
theorem over_all (p : Page) : p.over.all = p.all := rfl
theorem count_chosen {p : Page} (o : Ok p) : p.cells.count true = p.chosen.length := by
  rw [cells_eq o]
  unfold Page.chosen
  generalize p.all = l
  induction l with
  | nil => rfl
  | cons a l ih =>
    rw [List.map_cons, List.count_cons, ih, List.filter_cons]
    cases h : p.has a <;> simp
/-! ### distances -/
abbrev IC := Int × Int
def ic (c : Cell) : IC := ((c.1 : Int), (c.2 : Int))
def apartI (a b : IC) : Int := (a.1 - b.1) * (a.1 - b.1) + (a.2 - b.2) * (a.2 - b.2)
theorem gap_sq (a b : Nat) : ((gap a b * gap a b : Nat) : Int) = ((a : Int) - b) * ((a : Int) - b) := by
  rw [Int.natCast_mul]
  unfold gap
  rcases Nat.le_total a b with h | h
  · have e : ((a - b + (b - a) : Nat) : Int) = (b : Int) - a := by omega
    rw [e]
    have e2 : ((b : Int) - a) = -((a : Int) - b) := by omega
    rw [e2, Int.neg_mul_neg]
  · have e : ((a - b + (b - a) : Nat) : Int) = (a : Int) - b := by omega
    rw [e]
theorem far_apart (a b : Cell) : apartI (ic a) (ic b) = ((far a b : Nat) : Int) := by
  unfold far apartI ic
  rw [Int.natCast_add, gap_sq, gap_sq]
theorem far_self (a : Cell) : far a a = 0 := by
  unfold far gap
  simp
end SE
namespace SE
open Ie01
/-! ### what a way leads to -/
inductive Conn {α : Type} (l : List α) (adj : α → α → Bool) (s : α) : α → Prop
  | refl : Conn l adj s s
  | step {c d : α} : Conn l adj s d → c ∈ l → adj c d = true → Conn l adj s c
/-- a list that holds the start, only what is come to, and all beside what it holds, is what is come to -/
theorem conn_of_closed {α : Type} {l : List α} {adj : α → α → Bool} {s : α} {P : α → Prop} (h0 : P s) (hc : ∀ d, P d → ∀ c ∈ l, adj c d = true → P c) : ∀ c, Conn l adj s c → P c := by
  intro c h
  induction h with
  | refl => exact h0
  | step _ hl ha ih => exact hc _ ih _ hl ha
theorem conn_mem {α : Type} {l : List α} {adj : α → α → Bool} {s : α} (hs : s ∈ l) : ∀ c, Conn l adj s c → c ∈ l := by
  intro c h
  cases h with
  | refl => exact hs
  | step _ hl _ => exact hl
section
variable {α : Type}
theorem filter_le_of_imp (l : List α) (p q : α → Bool) (h : ∀ a, p a = true → q a = true) : (l.filter p).length ≤ (l.filter q).length := by
  induction l with
  | nil => exact Nat.le_refl _
  | cons a l ih =>
    rw [List.filter_cons, List.filter_cons]
    cases hp : p a
    · cases hq : q a
      · simpa using ih
      · simp only [List.length_cons, if_true, Bool.false_eq_true, if_false]; omega
    · rw [h a hp]
      simpa using ih
theorem filter_lt_of_imp (l : List α) (p q : α → Bool) (h : ∀ a, p a = true → q a = true) {x : α} (hx : x ∈ l) (hp : p x = false) (hq : q x = true) : (l.filter p).length < (l.filter q).length := by
  induction l with
  | nil => cases hx
  | cons a l ih =>
    rw [List.filter_cons, List.filter_cons]
    rcases List.mem_cons.mp hx with rfl | hx
    · rw [hp, hq]
      have := filter_le_of_imp l p q h
      simp only [List.length_cons, if_true, Bool.false_eq_true, if_false]; omega
    · have := ih hx
      cases hp' : p a
      · cases hq' : q a
        · simpa using this
        · simp only [List.length_cons, if_true, Bool.false_eq_true, if_false]; omega
      · rw [h a hp']
        simpa using this
end
/-- the specification's rounds -/
theorem rounds (corners : Bool) (l : List Cell) (s : Cell) (hl : l.Nodup) : ∀ (k : Nat) (edge met : List Cell), met.Nodup → (∀ c ∈ edge, c ∈ met) → (∀ c ∈ met, Conn l (beside corners) s c) →
    (∀ d ∈ met, d ∉ edge → ∀ c ∈ l, beside corners c d = true → c ∈ met) → ((l.filter fun c => !met.contains c).length + 1 ≤ k ∨ edge = []) →
    (reachRounds corners l k edge met).Nodup ∧ (∀ c ∈ met, c ∈ reachRounds corners l k edge met) ∧ (∀ c ∈ reachRounds corners l k edge met, Conn l (beside corners) s c) ∧
    (∀ d ∈ reachRounds corners l k edge met, ∀ c ∈ l, beside corners c d = true → c ∈ reachRounds corners l k edge met) := by
  intro k
  induction k with
  | zero =>
    intro edge met hn he hm hc hk
    have : edge = [] := by
      rcases hk with h | h
      · omega
      · exact h
    subst this
    refine ⟨hn, fun c h => h, hm, fun d hd c hcl hb => hc d hd (by simp) c hcl hb⟩
  | succ k ih =>
    intro edge met hn he hm hc hk
    cases edge with
    | nil => exact ⟨hn, fun c h => h, hm, fun d hd c hcl hb => hc d hd (by simp) c hcl hb⟩
    | cons e edge =>
      have hk' : (l.filter fun c => !met.contains c).length ≤ k := by
        rcases hk with h | h
        · omega
        · cases h
      show (reachRounds corners l k _ _).Nodup ∧ _
      generalize hnew : (l.filter fun c => !met.contains c && (e :: edge).any fun d => beside corners c d) = new
      have mem_new : ∀ c, c ∈ new ↔ c ∈ l ∧ c ∉ met ∧ ∃ d ∈ e :: edge, beside corners c d = true := by
        intro c
        rw [← hnew, List.mem_filter, Bool.and_eq_true, List.any_eq_true]
        simp
      have hnn : new.Nodup := by
        rw [← hnew]
        exact hl.filter _
      have r := ih new (met ++ new) ?_ ?_ ?_ ?_ ?_
      · have e' : reachRounds corners l (k + 1) (e :: edge) met = reachRounds corners l k new (met ++ new) := by
          show reachRounds corners l k _ _ = _
          rw [hnew]
        rw [e']
        exact ⟨r.1, fun c h => r.2.1 c (List.mem_append_left _ h), r.2.2.1, r.2.2.2⟩
      · rw [List.nodup_append]
        exact ⟨hn, hnn, fun a ha b hb hab => ((mem_new b).mp hb).2.1 (hab ▸ ha)⟩
      · intro c h
        exact List.mem_append_right _ h
      · intro c h
        rcases List.mem_append.mp h with h | h
        · exact hm c h
        · obtain ⟨h1, _, d, hd, hb⟩ := (mem_new c).mp h
          exact .step (hm d (he d hd)) h1 hb
      · intro d hd hde c hcl hb
        by_cases hcm : c ∈ met
        · exact List.mem_append_left _ hcm
        rcases List.mem_append.mp hd with h | h
        · by_cases hdedge : d ∈ e :: edge
          · exact List.mem_append_right _ ((mem_new c).mpr ⟨hcl, hcm, d, hdedge, hb⟩)
          · exact absurd (hc d h hdedge c hcl hb) hcm
        · exact absurd h hde
      · cases hcase : new with
        | nil => exact .inr rfl
        | cons x xs =>
          left
          have hx : x ∈ new := by rw [hcase]; exact List.mem_cons_self
          obtain ⟨h1, h2, _⟩ := (mem_new x).mp hx
          have hlt : (l.filter fun c => !(met ++ new).contains c).length < (l.filter fun c => !met.contains c).length := by
            refine filter_lt_of_imp l _ _ (fun a ha => ?_) h1 ?_ ?_
            · simp only [Bool.not_eq_true', List.contains_eq_mem, decide_eq_false_iff_not, List.mem_append, not_or] at ha ⊢
              exact ha.1
            · simp only [Bool.not_eq_false', List.contains_eq_mem, decide_eq_true_eq, List.mem_append]
              exact .inr hx
            · simp only [Bool.not_eq_true', List.contains_eq_mem, decide_eq_false_iff_not]
              exact h2
          rw [hcase] at hlt
          omega
theorem reach_spec {corners : Bool} {l : List Cell} {s : Cell} (hl : l.Nodup) (hs : s ∈ l) :
    (reach corners l [s]).Nodup ∧ ∀ c, c ∈ reach corners l [s] ↔ Conn l (beside corners) s c := by
  unfold reach
  have r := rounds corners l s hl (l.length + 1) [s] [s] (by simp) (fun c h => h) (fun c h => by rw [List.mem_singleton] at h; subst h; exact .refl)
    (fun d hd hde => absurd hd hde) (.inl (by have := List.length_filter_le (fun c => !([s] : List Cell).contains c) l; omega))
  refine ⟨r.1, fun c => ⟨r.2.2.1 c, ?_⟩⟩
  exact conn_of_closed (P := fun c => c ∈ reachRounds corners l (l.length + 1) [s] [s]) (r.2.1 s (by simp)) (fun d hd c hc hb => r.2.2.2 d hd c hc hb) c
theorem gap_comm (a b : Nat) : gap a b = gap b a := by
  unfold gap; omega
theorem beside_comm (corners : Bool) (a b : Cell) : beside corners a b = beside corners b a := by
  unfold beside
  rw [gap_comm a.1 b.1, gap_comm a.2 b.2]
  have : (a != b) = (b != a) := by
    rw [bne, bne, Bool.beq_comm]
  rw [this]
/-! ### parting a list of cells into pieces, cell by cell -/
/-- seen is whole: what is beside a seen cell is seen -/
def Whole (corners : Bool) (l seen : List Cell) : Prop := ∀ d ∈ seen, ∀ c ∈ l, beside corners c d = true → c ∈ seen
theorem conn_rest {corners : Bool} {l seen : List Cell} {s : Cell} (hw : Whole corners l seen) (hs : s ∉ seen) (hsl : s ∈ l) (c : Cell) :
    Conn (l.filter fun c => !seen.contains c) (beside corners) s c ↔ Conn l (beside corners) s c := by
  constructor
  · intro h
    induction h with
    | refl => exact .refl
    | step _ hl hb ih => exact .step ih (List.mem_filter.mp hl).1 hb
  · intro h
    have : c ∉ seen ∧ Conn (l.filter fun c => !seen.contains c) (beside corners) s c := by
      have hP := conn_of_closed (l := l) (adj := beside corners) (s := s) (P := fun c => c ∈ l ∧ c ∉ seen ∧ Conn (l.filter fun c => !seen.contains c) (beside corners) s c) ⟨hsl, hs, .refl⟩ ?_ c h
      · exact hP.2
      · rintro d ⟨hdl, hd, hcd⟩ c hcl hb
        have hcs : c ∉ seen := fun hc => hd (hw c hc d hdl (by rw [beside_comm]; exact hb))
        refine ⟨hcl, hcs, .step hcd (List.mem_filter.mpr ⟨hcl, ?_⟩) hb⟩
        simpa using hcs
    exact this.2
/-- a piece as the program has it, and as the specification has it -/
def Tells (P : List Cell) (q : Cell × List Cell) : Prop := P.head? = some q.1 ∧ P.Perm q.2
inductive Rel2 {α β : Type} (R : α → β → Prop) : List α → List β → Prop
  | nil : Rel2 R [] []
  | cons {a b l m} : R a b → Rel2 R l m → Rel2 R (a :: l) (b :: m)
theorem Rel2.snoc {α β : Type} {R : α → β → Prop} {l : List α} {m : List β} {a : α} {b : β} (h : Rel2 R l m) (r : R a b) : Rel2 R (l ++ [a]) (m ++ [b]) := by
  induction h with
  | nil => exact .cons r .nil
  | cons h _ ih => exact .cons h ih
theorem Rel2.length {α β : Type} {R : α → β → Prop} {l : List α} {m : List β} (h : Rel2 R l m) : l.length = m.length := by
  induction h with
  | nil => rfl
  | cons _ _ ih => simp [ih]
theorem Rel2.filter {α β : Type} {R : α → β → Prop} {p : α → Bool} {q : β → Bool} (hpq : ∀ a b, R a b → p a = q b) {l : List α} {m : List β} (h : Rel2 R l m) : Rel2 R (l.filter p) (m.filter q) := by
  induction h with
  | nil => exact .nil
  | cons h _ ih =>
    rw [List.filter_cons, List.filter_cons, hpq _ _ h]
    split
    · exact .cons h ih
    · exact ih
theorem Rel2.map_eq {α β γ : Type} {R : α → β → Prop} {f : α → γ} {g : β → γ} (hfg : ∀ a b, R a b → f a = g b) {l : List α} {m : List β} (h : Rel2 R l m) : l.map f = m.map g := by
  induction h with
  | nil => rfl
  | cons h _ ih => rw [List.map_cons, List.map_cons, hfg _ _ h, ih]
structure PInv (corners : Bool) (l : List Cell) (i : Nat) (seen : List Cell) (Ps : List (List Cell)) : Prop where
  nd : l.Nodup
  sub : ∀ c ∈ seen, c ∈ l
  whole : Whole corners l seen
  past : ∀ c ∈ l.take i, c ∈ seen
  part : ∃ done fuel, piecesOf corners l.length l = done ++ piecesOf corners fuel (l.filter fun c => !seen.contains c) ∧ (l.filter fun c => !seen.contains c).length ≤ fuel ∧ Rel2 Tells Ps done
theorem PInv.start {corners : Bool} {l : List Cell} (h : l.Nodup) : PInv corners l 0 [] [] := by
  have e : (l.filter fun c => !([] : List Cell).contains c) = l := List.filter_eq_self.mpr (by simp)
  refine ⟨h, by simp, fun d hd => (by cases hd), by simp, [], l.length, ?_, ?_, .nil⟩
  · rw [e]; rfl
  · rw [e]; exact Nat.le_refl _
theorem take_succ_mem {α : Type} {l : List α} {i : Nat} {x : α} (h : l[i]? = some x) : ∀ c, c ∈ l.take (i + 1) → c ∈ l.take i ∨ c = x := by
  intro c hc
  rw [List.take_add_one, h] at hc
  simpa using hc
theorem PInv.skip {corners : Bool} {l : List Cell} {i : Nat} {seen : List Cell} {Ps : List (List Cell)} {x : Cell} (h : PInv corners l i seen Ps) (hi : l[i]? = some x) (hx : x ∈ seen) : PInv corners l (i + 1) seen Ps :=
  ⟨h.nd, h.sub, h.whole, fun c hc => (take_succ_mem hi c hc).elim (h.past c) (fun e => e ▸ hx), h.part⟩
theorem filter_head {α : Type} [BEq α] [LawfulBEq α] {l : List α} {i : Nat} {x : α} {seen : List α} (hi : l[i]? = some x) (past : ∀ c ∈ l.take i, c ∈ seen) (hx : x ∉ seen) :
    ∃ r, (l.filter fun c => !seen.contains c) = x :: r := by
  have hl : i < l.length := by
    rcases Nat.lt_or_ge i l.length with h | h
    · exact h
    · rw [List.getElem?_eq_none h] at hi; cases hi
  have e : l = l.take i ++ x :: l.drop (i + 1) := by
    have h1 := List.take_append_drop i l
    rw [List.drop_eq_getElem_cons hl] at h1
    have h2 : l[i] = x := by
      rw [List.getElem?_eq_getElem hl] at hi
      exact Option.some.inj hi
    rw [h2] at h1
    exact h1.symm
  refine ⟨(l.drop (i + 1)).filter fun c => !seen.contains c, ?_⟩
  have e1 : (l.take i).filter (fun c => !seen.contains c) = [] := by
    rw [List.filter_eq_nil_iff]
    intro a ha
    have := past a ha
    simp [this]
  conv => lhs; rw [e]
  rw [List.filter_append, e1, List.nil_append, List.filter_cons_of_pos]
  simpa using hx
theorem PInv.take {corners : Bool} {l : List Cell} {i : Nat} {seen seen' : List Cell} {Ps : List (List Cell)} {x : Cell} {P : List Cell} (h : PInv corners l i seen Ps) (hi : l[i]? = some x) (hx : x ∉ seen)
    (hP : P.Nodup) (hh : P.head? = some x) (hm : ∀ c, c ∈ P ↔ Conn l (beside corners) x c) (hs : ∀ c, c ∈ seen' ↔ c ∈ seen ∨ c ∈ P) : PInv corners l (i + 1) seen' (Ps ++ [P]) := by
  have hxl : x ∈ l := List.mem_of_getElem? hi
  obtain ⟨done, fuel, hd, hf, hr⟩ := h.part
  obtain ⟨r, er⟩ := filter_head hi h.past hx
  have nd' : (l.filter fun c => !seen.contains c).Nodup := h.nd.filter _
  have hxr : x ∈ l.filter fun c => !seen.contains c := by rw [er]; exact List.mem_cons_self
  have rs := reach_spec (corners := corners) nd' hxr
  have hfull : ∀ c, c ∈ reach corners (l.filter fun c => !seen.contains c) [x] ↔ c ∈ P := by
    intro c
    rw [rs.2 c, conn_rest h.whole hx hxl, hm c]
  have fuel1 : ∃ f, fuel = f + 1 := by
    rw [er] at hf
    simp only [List.length_cons] at hf
    exact ⟨fuel - 1, by omega⟩
  obtain ⟨f, rfl⟩ := fuel1
  have rest : ((l.filter fun c => !seen.contains c).filter fun d => !(reach corners (l.filter fun c => !seen.contains c) [x]).contains d) = l.filter fun c => !seen'.contains c := by
    rw [List.filter_filter]
    apply List.filter_congr
    intro c _
    have h1 := hfull c
    have h2 := hs c
    generalize reach corners (l.filter fun c => !seen.contains c) [x] = R at h1
    rw [Bool.eq_iff_iff]
    simp only [Bool.and_eq_true, Bool.not_eq_true', List.contains_eq_mem, decide_eq_false_iff_not]
    rw [h1, h2]
    constructor
    · rintro ⟨a, b⟩ (c | c)
      · exact b c
      · exact a c
    · intro a
      exact ⟨fun b => a (.inr b), fun b => a (.inl b)⟩
  refine ⟨h.nd, fun c hc => ((hs c).mp hc).elim (h.sub c) (fun q => conn_mem hxl c ((hm c).mp q)), ?_, ?_, done ++ [(x, reach corners (l.filter fun c => !seen.contains c) [x])], f, ?_, ?_, hr.snoc ⟨hh, ?_⟩⟩
  · intro d hd c hc hb
    rcases (hs d).mp hd with q | q
    · exact (hs c).mpr (.inl (h.whole d q c hc hb))
    · exact (hs c).mpr (.inr ((hm c).mpr (.step ((hm d).mp q) hc hb)))
  · intro c hc
    rcases take_succ_mem hi c hc with q | q
    · exact (hs c).mpr (.inl (h.past c q))
    · subst q
      exact (hs c).mpr (.inr ((hm c).mpr .refl))
  · rw [hd]
    have e : piecesOf corners (f + 1) (l.filter fun c => !seen.contains c) = (x, reach corners (l.filter fun c => !seen.contains c) [x]) :: piecesOf corners f ((l.filter fun c => !seen.contains c).filter fun d => !(reach corners (l.filter fun c => !seen.contains c) [x]).contains d) := by
      conv => lhs; rw [er]
      show (x, reach corners (x :: r) [x]) :: piecesOf corners f ((x :: r).filter fun d => !(reach corners (x :: r) [x]).contains d) = _
      rw [← er]
    rw [e, rest, List.append_assoc]
    rfl
  · rw [← rest]
    have hlt : ((l.filter fun c => !seen.contains c).filter fun d => !(reach corners (l.filter fun c => !seen.contains c) [x]).contains d).length < (l.filter fun c => !seen.contains c).length := by
      rw [← List.countP_eq_length_filter]
      have := (List.countP_eq_length (p := fun d => !(reach corners (l.filter fun c => !seen.contains c) [x]).contains d) (l := l.filter fun c => !seen.contains c))
      have h2 := List.countP_le_length (p := fun d => !(reach corners (l.filter fun c => !seen.contains c) [x]).contains d) (l := l.filter fun c => !seen.contains c)
      rcases Nat.lt_or_ge (List.countP (fun d => !(reach corners (l.filter fun c => !seen.contains c) [x]).contains d) (l.filter fun c => !seen.contains c)) (l.filter fun c => !seen.contains c).length with g | g
      · exact g
      · have hall := this.mp (Nat.le_antisymm h2 g) x hxr
        have hin := (rs.2 x).mpr .refl
        generalize reach corners (l.filter fun c => !seen.contains c) [x] = R at hin hall
        simp [hin] at hall
    omega
  · rw [List.perm_ext_iff_of_nodup hP rs.1]
    intro c
    exact (hfull c).symm
theorem PInv.done {corners : Bool} {l : List Cell} {i : Nat} {seen : List Cell} {Ps : List (List Cell)} (h : PInv corners l i seen Ps) (hi : l.length ≤ i) : Rel2 Tells Ps (piecesOf corners l.length l) := by
  obtain ⟨done, fuel, hd, _, hr⟩ := h.part
  have e : (l.filter fun c => !seen.contains c) = [] := by
    rw [List.filter_eq_nil_iff]
    intro a ha
    have := h.past a (by rw [List.take_of_length_le hi]; exact ha)
    simp [this]
  rw [e] at hd
  have e2 : piecesOf corners fuel [] = [] := by cases fuel <;> rfl
  rw [hd, e2, List.append_nil]
  exact hr
end SE
namespace SE
open Ie01
/-! ### each change, as the program's lists have it -/
def nearM (c : Cell) (l : List Cell) (r : Nat) : Bool := l.any fun d => decide (far c d ≤ r)
def grownM (cs : List Cell) (ms : List Bool) (r : Nat) : List Bool := (cs.zip ms).map fun q => q.2 || nearM q.1 (marked cs ms) r
def overM (ms : List Bool) : List Bool := ms.map fun m => !m
def shrunkM (cs : List Cell) (ms : List Bool) (r : Nat) : List Bool := overM (grownM cs (overM ms) r)
def outM (w h : Nat) (c : Cell) : Nat := min (min (c.1 + 1) (w - c.1)) (min (c.2 + 1) (h - c.2))
def shrunkOutM (w h : Nat) (cs : List Cell) (ms : List Bool) (r : Nat) : List Bool := (cs.zip ms).map fun q => q.2 && decide (r < outM w h q.1 * outM w h q.1)
def ringM (cs : List Cell) (ms : List Bool) (r : Nat) : List Bool := (ms.zip (grownM cs ms r)).map fun q => q.2 && !q.1
def joinedM (ms ns : List Bool) (how : Nat) : List Bool := (ms.zip ns).map fun q => mix how q.1 q.2
theorem map_zip_map {α β γ δ : Type} (l : List α) (f : α → β) (g : α → γ) (k : β × γ → δ) : ((l.map f).zip (l.map g)).map k = l.map fun a => k (f a, g a) := by
  induction l with
  | nil => rfl
  | cons a l ih => simp only [List.map_cons, List.zip_cons_cons, ih]
theorem map_zip_right {α γ δ : Type} (l : List α) (g : α → γ) (k : α × γ → δ) : (l.zip (l.map g)).map k = l.map fun a => k (a, g a) := by
  induction l with
  | nil => rfl
  | cons a l ih => simp only [List.map_cons, List.zip_cons_cons, ih]
theorem cells_of (w h : Nat) (f : Cell → Bool) : (Page.of w h f).cells = (cellsOf w h).map f := by rw [of_eq]
theorem grow_has {p : Page} (_o : Ok p) (r : Nat) (c : Cell) (hc : c ∈ p.all) : (p.has c || nearM c p.chosen r) = nearM c p.chosen r := by
  cases h : p.has c
  · simp
  · simp only [Bool.true_or]
    symm
    unfold nearM
    rw [List.any_eq_true]
    refine ⟨c, List.mem_filter.mpr ⟨hc, h⟩, ?_⟩
    rw [far_self]
    simp
theorem grow_cells {p : Page} (o : Ok p) (r : Nat) : (p.grow r).cells = grownM p.all p.cells r := by
  unfold grownM
  rw [marked_page o]
  conv => rhs; rw [cells_eq o, map_zip_right]
  show (Page.of p.w p.h _).cells = _
  rw [cells_of, ← all_eq]
  apply List.map_congr_left
  intro c hc
  exact (grow_has o r c hc).symm
theorem grow_ok {p : Page} (o : Ok p) (r : Nat) : Ok (p.grow r) := by
  unfold Page.grow
  dsimp only
  exact o.of _
theorem over_cells' {p : Page} (o : Ok p) : p.over.cells = overM p.cells := over_cells o
theorem shrink0_cells {p : Page} (o : Ok p) (r : Nat) : (p.shrink false r).cells = shrunkM p.all p.cells r := by
  unfold shrunkM
  have e := grow_cells (over_ok o) r
  rw [over_all, over_cells' o] at e
  rw [← e]
  show (Page.of p.w p.h _).cells = overM (Page.of p.over.w p.over.h _).cells
  rw [cells_of, cells_of]
  unfold overM
  rw [List.map_map]
  apply List.map_congr_left
  intro c _
  simp
theorem shrink1_cells {p : Page} (o : Ok p) (r : Nat) : (p.shrink true r).cells = shrunkOutM p.w p.h p.all (shrunkM p.all p.cells r) r := by
  rw [← shrink0_cells o]
  show (Page.of p.w p.h _).cells = shrunkOutM p.w p.h p.all (Page.of p.w p.h _).cells r
  rw [cells_of, cells_of, ← all_eq]
  unfold shrunkOutM
  rw [map_zip_right]
  apply List.map_congr_left
  intro c _
  simp only [Bool.false_and, Bool.not_false, Bool.and_true, Bool.true_and]
  congr 1
  unfold Page.out outM
  simp only
  rw [← decide_not]
  congr 1
  rw [Nat.not_le]
theorem shrink_ok {p : Page} (o : Ok p) (e : Bool) (r : Nat) : Ok (p.shrink e r) := by
  unfold Page.shrink
  dsimp only
  exact o.of _
theorem of_has_mem {w h : Nat} {f : Cell → Bool} {c : Cell} (hc : c ∈ cellsOf w h) : (Page.of w h f).has c = f c := has_of (mem_cellsOf.mp hc).1 (mem_cellsOf.mp hc).2
theorem ring_cells {p : Page} (o : Ok p) (r : Nat) : (p.ring r).cells = ringM p.all p.cells r := by
  unfold ringM
  rw [← grow_cells o]
  have e : (p.grow r).cells = p.all.map (p.grow r).has := cells_eq (grow_ok o r)
  rw [e]
  conv => rhs; rw [cells_eq o, map_zip_map]
  show (Page.of p.w p.h _).cells = _
  rw [cells_of, ← all_eq]
theorem ring_ok {p : Page} (o : Ok p) (r : Nat) : Ok (p.ring r) := by
  unfold Page.ring
  dsimp only
  exact o.of _
theorem join_cells {p : Page} (o : Ok p) (how : Nat) (f : Cell → Bool) : (Page.of p.w p.h fun c => mix how (p.has c) (f c)).cells = joinedM p.cells (p.all.map f) how := by
  unfold joinedM
  conv => rhs; rw [cells_eq o, map_zip_map]
  rw [cells_of, ← all_eq]
/-! ### holes -/
theorem chosen_nodup (p : Page) : p.chosen.Nodup := (cellsOf_nodup p.w p.h).filter _
theorem atRim_perm {p : Page} {P Q : List Cell} (h : P.Perm Q) : P.any p.atRim = Q.any p.atRim := by
  rw [Bool.eq_iff_iff, List.any_eq_true, List.any_eq_true]
  constructor
  · rintro ⟨c, hc, h2⟩
    exact ⟨c, h.mem_iff.mp hc, h2⟩
  · rintro ⟨c, hc, h2⟩
    exact ⟨c, h.mem_iff.mpr hc, h2⟩
theorem holes_rel {p : Page} {Ps : List (List Cell)} (h : Rel2 Tells Ps (piecesOf true p.over.chosen.length p.over.chosen)) : Rel2 Tells (Ps.filter fun P => !P.any p.atRim) p.holes := by
  refine h.filter ?_
  rintro P q ⟨_, hp⟩
  rw [atRim_perm hp]
theorem rel_mem {Ps : List (List Cell)} {qs : List (Cell × List Cell)} (h : Rel2 Tells Ps qs) (c : Cell) : (∃ P ∈ Ps, c ∈ P) ↔ c ∈ qs.flatMap fun q => q.2 := by
  induction h with
  | nil => simp
  | cons h _ ih =>
    rw [List.flatMap_cons, List.mem_append, ← ih, ← h.2.mem_iff]
    simp
def filledM (cs : List Cell) (ms : List Bool) (inside : List Cell) : List Bool := (cs.zip ms).map fun q => q.2 || inside.contains q.1
theorem filled_cells {p : Page} (o : Ok p) {inside : List Cell} (h : ∀ c, c ∈ inside ↔ c ∈ p.holes.flatMap fun q => q.2) : p.filled.cells = filledM p.all p.cells inside := by
  unfold filledM
  conv => rhs; rw [cells_eq o, map_zip_right]
  show (Page.of p.w p.h _).cells = _
  rw [cells_of, ← all_eq]
  apply List.map_congr_left
  intro c _
  congr 1
  rw [Bool.eq_iff_iff]
  simp only [List.contains_eq_mem, decide_eq_true_eq]
  exact (h c).symm
theorem filled_ok {p : Page} (o : Ok p) : Ok p.filled := by
  unfold Page.filled
  dsimp only
  exact o.of _
/-- what a call leaves has as many columns and rows -/
theorem become_len {q : Page} (o : Ok q) : Ie01.ints [q.chosen.length] = [((q.cells.count true : Nat) : Int)] := by
  rw [count_chosen o]
  rfl
end SE
namespace SE
open Ie01
/-! ### the list of calls, call by call -/
def stp (s : Page) (c : List (List Int)) : Page × List Int := Ie01Neutral.step s (c.headD [])
def casts (l : List Nat) : List Int := l.map fun (n : Nat) => (n : Int)
/-- behind some calls: place, the page, what is given -/
def Loop (l : List Int) (place : Nat) (s : Page) (g : List Int) : Prop := ∃ f cs, PyFlat.calls PyIe01.shape f (l.drop place) = some cs ∧ place ≤ l.length ∧
  (∀ c ∈ cs, Ie01Neutral.asked1 ((PyIe01.whole c).headD []) = true) ∧ PyIe01.answers l = g ++ PyFlat.told (PyFlat.played stp s (cs.map PyIe01.whole))
theorem asked_loop {l : List Int} (h : PyIe01.answers_asked l = true) : Loop l 0 init [] ∧ (PyIe01.answers l).length ≤ 10000000 := by
  unfold PyIe01.answers_asked at h
  cases e : PyFlat.calls PyIe01.shape l.length l with
  | none => rw [e] at h; cases h
  | some cs =>
    rw [e] at h
    simp only [Bool.and_eq_true] at h
    obtain ⟨⟨⟨⟨_, _⟩, _⟩, h4⟩, h5⟩ := h
    refine ⟨⟨l.length, cs, e, Nat.zero_le _, ?_, ?_⟩, ?_⟩
    · unfold Ie01Neutral.asked at h4
      rw [Bool.and_eq_true, List.all_eq_true] at h4
      intro c hc
      exact h4.1 _ (List.mem_map.mpr ⟨_, List.mem_map.mpr ⟨c, hc, rfl⟩, rfl⟩)
    · unfold PyIe01.answers PyIe01.calls
      rw [e]
      rfl
    · exact of_decide_eq_true h5
theorem loop_end {l : List Int} {place : Nat} {s : Page} {g : List Int} (h : Loop l place s g) (hp : l.length ≤ place) : PyIe01.answers l = g := by
  obtain ⟨f, cs, h1, h2, _, h3⟩ := h
  have : l.drop place = [] := List.drop_eq_nil_of_le hp
  rw [this] at h1
  have : cs = [] := by
    cases f <;> exact (Option.some.inj h1).symm
  subst this
  rw [h3]
  show g ++ [] = g
  rw [List.append_nil]
/-- how many numbers a call has -/
def arity (k : Nat) : Nat := [2, 5, 4, 0, 1, 2, 1, 0, 2, 2, 1, 0, 0, 0, 0].getD k 0
theorem shape_eq {p : Int} {n k : Nat} (h : PyIe01.shape p = some (n, k)) : k = 0 ∧ 0 ≤ p ∧ p < 15 ∧ n = arity p.toNat := by
  unfold PyIe01.shape at h
  by_cases e0 : p = 0
  · rw [if_pos e0] at h
    cases h
    subst e0
    exact ⟨rfl, by decide, by decide, rfl⟩
  rw [if_neg e0] at h
  by_cases e1 : p = 1
  · rw [if_pos e1] at h
    cases h
    subst e1
    exact ⟨rfl, by decide, by decide, rfl⟩
  rw [if_neg e1] at h
  by_cases e2 : p = 2
  · rw [if_pos e2] at h
    cases h
    subst e2
    exact ⟨rfl, by decide, by decide, rfl⟩
  rw [if_neg e2] at h
  by_cases e3 : p = 3
  · rw [if_pos e3] at h
    cases h
    subst e3
    exact ⟨rfl, by decide, by decide, rfl⟩
  rw [if_neg e3] at h
  by_cases e4 : p = 4
  · rw [if_pos e4] at h
    cases h
    subst e4
    exact ⟨rfl, by decide, by decide, rfl⟩
  rw [if_neg e4] at h
  by_cases e5 : p = 5
  · rw [if_pos e5] at h
    cases h
    subst e5
    exact ⟨rfl, by decide, by decide, rfl⟩
  rw [if_neg e5] at h
  by_cases e6 : p = 6
  · rw [if_pos e6] at h
    cases h
    subst e6
    exact ⟨rfl, by decide, by decide, rfl⟩
  rw [if_neg e6] at h
  by_cases e7 : p = 7
  · rw [if_pos e7] at h
    cases h
    subst e7
    exact ⟨rfl, by decide, by decide, rfl⟩
  rw [if_neg e7] at h
  by_cases e8 : p = 8
  · rw [if_pos e8] at h
    cases h
    subst e8
    exact ⟨rfl, by decide, by decide, rfl⟩
  rw [if_neg e8] at h
  by_cases e9 : p = 9
  · rw [if_pos e9] at h
    cases h
    subst e9
    exact ⟨rfl, by decide, by decide, rfl⟩
  rw [if_neg e9] at h
  by_cases e10 : p = 10
  · rw [if_pos e10] at h
    cases h
    subst e10
    exact ⟨rfl, by decide, by decide, rfl⟩
  rw [if_neg e10] at h
  by_cases e11 : p = 11
  · rw [if_pos e11] at h
    cases h
    subst e11
    exact ⟨rfl, by decide, by decide, rfl⟩
  rw [if_neg e11] at h
  by_cases e12 : p = 12
  · rw [if_pos e12] at h
    cases h
    subst e12
    exact ⟨rfl, by decide, by decide, rfl⟩
  rw [if_neg e12] at h
  by_cases e13 : p = 13
  · rw [if_pos e13] at h
    cases h
    subst e13
    exact ⟨rfl, by decide, by decide, rfl⟩
  rw [if_neg e13] at h
  by_cases e14 : p = 14
  · rw [if_pos e14] at h
    cases h
    subst e14
    exact ⟨rfl, by decide, by decide, rfl⟩
  rw [if_neg e14] at h
  cases h
theorem casts_toNat {l : List Int} (h : l.all Ie01Neutral.nat = true) : casts (l.map Int.toNat) = l ∧ ∀ n ∈ l.map Int.toNat, n < 4294967296 := by
  rw [List.all_eq_true] at h
  constructor
  · unfold casts
    rw [List.map_map]
    conv => rhs; rw [← List.map_id l]
    apply List.map_congr_left
    intro x hx
    have := h x hx
    unfold Ie01Neutral.nat at this
    rw [Bool.and_eq_true, decide_eq_true_eq, decide_eq_true_eq] at this
    show ((x.toNat : Nat) : Int) = x
    omega
  · intro n hn
    obtain ⟨x, hx, rfl⟩ := List.mem_map.mp hn
    have := h x hx
    unfold Ie01Neutral.nat at this
    rw [Bool.and_eq_true, decide_eq_true_eq, decide_eq_true_eq] at this
    have h2 : (2 : Int) ^ 32 = 4294967296 := by decide
    rw [h2] at this
    omega
theorem whole_eq (p : Int) (args : List Int) : PyIe01.whole [p :: args] = [p :: args] := by
  unfold PyIe01.whole
  split <;> simp_all
theorem callOf_some {c : List Int} {X : Call} (h : Ie01Neutral.callOf c = some X) : c.all Ie01Neutral.nat = true ∧ Ie01Neutral.callIn (c.map Int.toNat) = some X := by
  unfold Ie01Neutral.callOf at h
  split at h
  · cases h
  · rename_i e
    exact ⟨by simpa using e, h⟩
/-- one call more -/
theorem loop_turn {l : List Int} {place : Nat} {s : Page} {g : List Int} (h : Loop l place s g) (hp : place < l.length) :
    ∃ (k : Nat) (args : List Nat) (X : Call), Ie01Neutral.callIn (k :: args) = some X ∧ (∀ n ∈ args, n < 4294967296) ∧ k < 15 ∧ args.length = arity k ∧
      l[place]? = some (k : Int) ∧ (l.drop (place + 1)).take (arity k) = casts args ∧ place + 1 + arity k ≤ l.length ∧
      Loop l (place + 1 + arity k) (step s X).1 (g ++ ((((step s X).2.length : Nat) : Int) :: (step s X).2)) := by
  obtain ⟨f, cs, h1, h2, h3, h4⟩ := h
  have ed : l.drop place = l[place] :: l.drop (place + 1) := List.drop_eq_getElem_cons hp
  generalize hp0 : l[place] = p at ed
  rw [ed] at h1
  cases f with
  | zero => cases h1
  | succ f =>
    have h1' : (match PyFlat.call PyIe01.shape (p :: l.drop (place + 1)) with
      | none => none
      | some (c, t) => match PyFlat.calls PyIe01.shape f t with
        | none => none
        | some cs => some (c :: cs)) = some cs := h1
    cases e1 : PyFlat.call PyIe01.shape (p :: l.drop (place + 1)) with
    | none => rw [e1] at h1'; cases h1'
    | some ct =>
      obtain ⟨c, t⟩ := ct
      rw [e1] at h1'
      cases e2 : PyFlat.calls PyIe01.shape f t with
      | none => simp only [e2] at h1'; cases h1'
      | some cs' =>
        simp only [e2] at h1'
        have ecs : cs = c :: cs' := (Option.some.inj h1').symm
        subst ecs
        unfold PyFlat.call at e1
        cases e3 : PyIe01.shape p with
        | none => simp only [e3] at e1; cases e1
        | some nk =>
          obtain ⟨n, k0⟩ := nk
          obtain ⟨rfl, hp1, hp2, rfl⟩ := shape_eq e3
          simp only [e3, PyFlat.rows] at e1
          split at e1
          · cases e1
          · rename_i hlen
            have e1' := Option.some.inj e1
            have ec : c = [p :: (l.drop (place + 1)).take (arity p.toNat)] := (congrArg Prod.fst e1').symm
            have et : t = (l.drop (place + 1)).drop (arity p.toNat) := (congrArg Prod.snd e1').symm
            have ask := h3 c List.mem_cons_self
            rw [ec, whole_eq] at ask
            obtain ⟨X, hX⟩ : ∃ X, Ie01Neutral.callOf (p :: (l.drop (place + 1)).take (arity p.toNat)) = some X := Option.isSome_iff_exists.mp ask
            obtain ⟨hall, hin⟩ := callOf_some hX
            have hall2 : ((l.drop (place + 1)).take (arity p.toNat)).all Ie01Neutral.nat = true := by
              rw [List.all_cons, Bool.and_eq_true] at hall
              exact hall.2
            obtain ⟨hc1, hc2⟩ := casts_toNat hall2
            have hlen' : arity p.toNat ≤ l.length - (place + 1) := by
              rw [List.length_drop] at hlen
              omega
            refine ⟨p.toNat, ((l.drop (place + 1)).take (arity p.toNat)).map Int.toNat, X, hin, hc2, by omega, ?_, ?_, hc1.symm, by omega, ?_⟩
            · rw [List.length_map, List.length_take, List.length_drop]
              omega
            · rw [List.getElem?_eq_getElem hp, hp0]
              congr 1
              omega
            · refine ⟨f, cs', ?_, by omega, fun c hc => h3 c (List.mem_cons_of_mem _ hc), ?_⟩
              · rw [← e2, et, List.drop_drop]
              · rw [h4, List.map_cons, ec, whole_eq]
                have es : stp s [p :: (l.drop (place + 1)).take (arity p.toNat)] = step s X := by
                  show Ie01Neutral.step s (p :: (l.drop (place + 1)).take (arity p.toNat)) = _
                  unfold Ie01Neutral.step
                  rw [hX]
                show g ++ PyFlat.told ((stp s _).2 :: PyFlat.played stp (stp s _).1 _) = _
                rw [es]
                unfold PyFlat.told
                rw [List.flatMap_cons, List.append_assoc]
theorem loop_short {l : List Int} {place : Nat} {s : Page} {g : List Int} (h : Loop l place s g) : g.length ≤ (PyIe01.answers l).length := by
  obtain ⟨_, _, _, _, _, h3⟩ := h
  rw [h3, List.length_append]
  omega
end SE
namespace SE
open Ie01
/-! ### the nearest, cell by cell -/
theorem nearest_snoc (l : List Cell) (d c : Cell) : nearest (l ++ [d]) c = match nearest l c with
    | none => some (far c d, d)
    | some q => if far c d < q.1 then some (far c d, d) else some q := by
  unfold nearest
  rw [List.foldl_append]
  generalize l.foldl _ none = m
  cases m <;> rfl
theorem snoc_ind {α : Type} {M : List α → Prop} (h0 : M []) (h1 : ∀ l a, M l → M (l ++ [a])) (l : List α) : M l := by
  rw [← List.reverse_reverse l]
  induction l.reverse with
  | nil => exact h0
  | cons a r ih =>
    rw [List.reverse_cons]
    exact h1 _ _ ih
theorem nearest_nil (c : Cell) : nearest [] c = none := rfl
/-- what is found: one of the cells, none is nearer, those ahead of it are farther -/
theorem nearest_found (c : Cell) : ∀ (l : List Cell), l ≠ [] → ∃ (i : Nat) (x : Cell), l[i]? = some x ∧ nearest l c = some (far c x, x) ∧ (∀ y ∈ l, far c x ≤ far c y) ∧ (∀ (j : Nat) (y : Cell), j < i → l[j]? = some y → far c x < far c y) := by
  intro l
  induction l using snoc_ind with
  | h0 => intro h; exact absurd rfl h
  | h1 l d ih =>
    intro _
    rw [nearest_snoc]
    by_cases hl : l = []
    · subst hl
      refine ⟨0, d, rfl, rfl, fun y hy => ?_, fun j y hj => absurd hj (Nat.not_lt_zero _)⟩
      rw [List.mem_singleton.mp hy]
      exact Nat.le_refl _
    · obtain ⟨i, x, e, en, hle, hlt⟩ := ih hl
      rw [en]
      have hi : i < l.length := by
        rcases Nat.lt_or_ge i l.length with z | z
        · exact z
        · rw [List.getElem?_eq_none z] at e; cases e
      by_cases hd : far c d < far c x
      · refine ⟨l.length, d, ?_, if_pos hd, fun y hy => ?_, fun j y hj ey => ?_⟩
        · rw [List.getElem?_append_right (Nat.le_refl _), Nat.sub_self]; rfl
        · rcases List.mem_append.mp hy with z | z
          · have := hle y z; omega
          · rw [List.mem_singleton.mp z]; exact Nat.le_refl _
        · rw [List.getElem?_append_left hj] at ey
          have := hle y (List.mem_of_getElem? ey)
          omega
      · refine ⟨i, x, ?_, if_neg hd, fun y hy => ?_, fun j y hj ey => ?_⟩
        · rw [List.getElem?_append_left hi]; exact e
        · rcases List.mem_append.mp hy with z | z
          · exact hle y z
          · rw [List.mem_singleton.mp z]; omega
        · rw [List.getElem?_append_left (Nat.lt_trans hj hi)] at ey
          exact hlt j y hj ey
/-- the distance alone -/
theorem nearest_dist {c : Cell} {l : List Cell} {m : Nat} (h1 : ∃ x ∈ l, far c x = m) (h2 : ∀ x ∈ l, m ≤ far c x) : ∃ x, nearest l c = some (m, x) := by
  obtain ⟨x0, hx0, e0⟩ := h1
  have hl : l ≠ [] := fun z => by rw [z] at hx0; cases hx0
  obtain ⟨i, x, e, en, hle, _⟩ := nearest_found c l hl
  have a := hle x0 hx0
  have b := h2 x (List.mem_of_getElem? e)
  have : far c x = m := by omega
  rw [this] at en
  exact ⟨x, en⟩
/-! ### roots -/
theorem rootTo_le : ∀ k n, rootTo k n ≤ k ∧ rootTo k n * rootTo k n ≤ n ∧ ∀ s, s ≤ k → s * s ≤ n → s ≤ rootTo k n := by
  intro k
  induction k with
  | zero =>
    intro n
    refine ⟨Nat.le_refl _, Nat.zero_le _, fun s hs _ => hs⟩
  | succ k ih =>
    intro n
    obtain ⟨h1, h2, h3⟩ := ih n
    unfold rootTo
    split
    · rename_i h
      exact ⟨Nat.le_refl _, h, fun s hs _ => hs⟩
    · rename_i h
      refine ⟨Nat.le_succ_of_le h1, h2, fun s hs hss => ?_⟩
      rcases Nat.lt_or_ge s (k + 1) with z | z
      · exact h3 s (by omega) hss
      · have : s = k + 1 := by omega
        subst this
        exact absurd hss h
/-- the document's own words: the greatest whole number, 255 at the most, whose square isn't more -/
theorem steps_is {k d s : Nat} (h1 : s ≤ 255) (h2 : s * s ≤ d * 16384 / (k * k)) (h3 : s = 255 ∨ d * 16384 / (k * k) < (s + 1) * (s + 1)) : steps k d = s := by
  unfold steps
  obtain ⟨g1, g2, g3⟩ := rootTo_le 255 (min 65025 (d * 16384 / (k * k)))
  have hs : s * s ≤ 65025 := by
    have := Nat.mul_le_mul h1 h1
    omega
  have a := g3 s h1 (by omega)
  rcases h3 with rfl | h3
  · omega
  · have hlt : rootTo 255 (min 65025 (d * 16384 / (k * k))) < s + 1 := by
      rcases Nat.lt_or_ge (rootTo 255 (min 65025 (d * 16384 / (k * k)))) (s + 1) with z | z
      · exact z
      · have := Nat.mul_le_mul z z
        omega
    omega
/-! ### the least and the greatest -/
theorem foldl_min_le : ∀ (l : List Nat) (a : Nat), l.foldl min a ≤ a ∧ (∀ y ∈ l, l.foldl min a ≤ y) ∧ (l.foldl min a = a ∨ l.foldl min a ∈ l)
  | [], a => ⟨Nat.le_refl _, fun y h => (by cases h), .inl rfl⟩
  | b :: l, a => by
    obtain ⟨h1, h2, h3⟩ := foldl_min_le l (min a b)
    refine ⟨?_, fun y hy => ?_, ?_⟩
    · show l.foldl min (min a b) ≤ a
      omega
    · show l.foldl min (min a b) ≤ y
      rcases List.mem_cons.mp hy with rfl | hy
      · omega
      · exact h2 y hy
    · show l.foldl min (min a b) = a ∨ l.foldl min (min a b) ∈ b :: l
      rcases h3 with h3 | h3
      · rcases Nat.le_total a b with z | z
        · left; omega
        · right
          have : l.foldl min (min a b) = b := by omega
          rw [this]
          exact List.mem_cons_self
      · exact .inr (List.mem_cons_of_mem _ h3)
theorem least_is {l : List Nat} {m : Nat} (h1 : m ∈ l) (h2 : ∀ y ∈ l, m ≤ y) : least l = m := by
  cases l with
  | nil => cases h1
  | cons a r =>
    show r.foldl min a = m
    obtain ⟨g1, g2, g3⟩ := foldl_min_le r a
    have a1 : r.foldl min a ≤ m := by
      rcases List.mem_cons.mp h1 with rfl | h
      · exact g1
      · exact g2 m h
    have a2 : m ≤ r.foldl min a := by
      rcases g3 with g3 | g3
      · rw [g3]; exact h2 a List.mem_cons_self
      · exact h2 _ (List.mem_cons_of_mem _ g3)
    omega
theorem foldl_max_le : ∀ (l : List Nat) (a : Nat), a ≤ l.foldl max a ∧ (∀ y ∈ l, y ≤ l.foldl max a) ∧ (l.foldl max a = a ∨ l.foldl max a ∈ l)
  | [], a => ⟨Nat.le_refl _, fun y h => (by cases h), .inl rfl⟩
  | b :: l, a => by
    obtain ⟨h1, h2, h3⟩ := foldl_max_le l (max a b)
    refine ⟨?_, fun y hy => ?_, ?_⟩
    · show a ≤ l.foldl max (max a b)
      omega
    · show y ≤ l.foldl max (max a b)
      rcases List.mem_cons.mp hy with rfl | hy
      · omega
      · exact h2 y hy
    · show l.foldl max (max a b) = a ∨ l.foldl max (max a b) ∈ b :: l
      rcases h3 with h3 | h3
      · rcases Nat.le_total a b with z | z
        · right
          have : l.foldl max (max a b) = b := by omega
          rw [this]
          exact List.mem_cons_self
        · left; omega
      · exact .inr (List.mem_cons_of_mem _ h3)
theorem greatest_is {l : List Nat} {m : Nat} (h1 : m ∈ l) (h2 : ∀ y ∈ l, y ≤ m) : greatest l = m := by
  unfold greatest
  obtain ⟨g1, g2, g3⟩ := foldl_max_le l 0
  have a1 := g2 m h1
  have a2 : l.foldl max 0 ≤ m := by
    rcases g3 with g3 | g3
    · omega
    · exact h2 _ g3
  omega
/-! ### sides -/
def sides4 : List IC := [(-1, 0), (1, 0), (0, -1), (0, 1)]
/-- is a place, on the page or not, chosen? -/
def hasI (p : Page) (x y : Int) : Bool := decide (0 ≤ x) && (decide (0 ≤ y) && p.has (x.toNat, y.toNat))
theorem hasI_cast (p : Page) (c : Cell) : hasI p c.1 c.2 = p.has c := by
  unfold hasI
  simp
/-- open sides of one cell -/
def openSides (p : Page) (c : Cell) : Nat := sides4.countP fun s => !hasI p ((c.1 : Int) + s.1) ((c.2 : Int) + s.2)
theorem foldl_add_sum : ∀ (l : List Nat) (a : Nat), l.foldl (fun a b => a + b) a = a + l.sum
  | [], a => by simp
  | b :: l, a => by
    show l.foldl (fun a b => a + b) (a + b) = _
    rw [foldl_add_sum l, List.sum_cons]
    omega
theorem sides_is (p : Page) : p.sides = (p.chosen.map (openSides p)).sum := by
  unfold Page.sides
  rw [foldl_add_sum, Nat.zero_add]
  congr 1
  apply List.map_congr_left
  rintro ⟨x, y⟩ _
  unfold openSides sides4
  have e1 : hasI p ((x : Int) + -1) ((y : Int) + 0) = (if x = 0 then false else p.has (x - 1, y)) := by
    unfold hasI
    by_cases hx : x = 0
    · subst hx; simp
    · rw [if_neg hx, decide_eq_true (show (0 : Int) ≤ (x : Int) + -1 by omega), decide_eq_true (show (0 : Int) ≤ (y : Int) + 0 by omega)]
      have a : ((x : Int) + -1).toNat = x - 1 := by omega
      have b : ((y : Int) + 0).toNat = y := by omega
      rw [a, b]; rfl
  have e2 : hasI p ((x : Int) + 1) ((y : Int) + 0) = p.has (x + 1, y) := by
    unfold hasI
    rw [decide_eq_true (show (0 : Int) ≤ (x : Int) + 1 by omega), decide_eq_true (show (0 : Int) ≤ (y : Int) + 0 by omega)]
    have a : ((x : Int) + 1).toNat = x + 1 := by omega
    have b : ((y : Int) + 0).toNat = y := by omega
    rw [a, b]; rfl
  have e3 : hasI p ((x : Int) + 0) ((y : Int) + -1) = (if y = 0 then false else p.has (x, y - 1)) := by
    unfold hasI
    by_cases hy : y = 0
    · subst hy; simp
    · rw [if_neg hy, decide_eq_true (show (0 : Int) ≤ (x : Int) + 0 by omega), decide_eq_true (show (0 : Int) ≤ (y : Int) + -1 by omega)]
      have a : ((x : Int) + 0).toNat = x := by omega
      have b : ((y : Int) + -1).toNat = y - 1 := by omega
      rw [a, b]; rfl
  have e4 : hasI p ((x : Int) + 0) ((y : Int) + 1) = p.has (x, y + 1) := by
    unfold hasI
    rw [decide_eq_true (show (0 : Int) ≤ (x : Int) + 0 by omega), decide_eq_true (show (0 : Int) ≤ (y : Int) + 1 by omega)]
    have a : ((x : Int) + 0).toNat = x := by omega
    have b : ((y : Int) + 1).toNat = y + 1 := by omega
    rw [a, b]; rfl
  simp only [List.countP_cons, List.countP_nil, e1, e2, e3, e4]
  by_cases hx : x = 0
  · by_cases hy : y = 0
    · simp only [hx, hy, if_true]
      cases p.has (0 + 1, 0) <;> cases p.has (0, 0 + 1) <;> rfl
    · simp only [hx, hy, if_true, if_false]
      cases p.has (0 + 1, y) <;> cases p.has (0, y - 1) <;> cases p.has (0, y + 1) <;> rfl
  · by_cases hy : y = 0
    · simp only [hx, hy, if_true, if_false]
      cases p.has (x - 1, 0) <;> cases p.has (x + 1, 0) <;> cases p.has (x, 0 + 1) <;> rfl
    · simp only [hx, hy, if_false]
      cases p.has (x - 1, y) <;> cases p.has (x + 1, y) <;> cases p.has (x, y - 1) <;> cases p.has (x, y + 1) <;> rfl
/-! ### keep -/
theorem keep_cells {p : Page} {l R : List Cell} (h : ∀ c, c ∈ R ↔ c ∈ l) : (Page.of p.w p.h l.contains).cells = p.all.map fun c => R.contains c := by
  rw [cells_of, ← all_eq]
  apply List.map_congr_left
  intro c _
  rw [Bool.eq_iff_iff]
  simp only [List.contains_eq_mem, decide_eq_true_eq]
  exact (h c).symm
/-! ### what is told of pieces -/
theorem told_is {Ps : List (List Cell)} {qs : List (Cell × List Cell)} (h : Rel2 Tells Ps qs) : told qs = Ps.length :: Ps.flatMap fun R => match R.head? with
    | some c => [c.1, c.2, R.length]
    | none => [] := by
  unfold told
  rw [← h.length]
  congr 1
  induction h with
  | nil => rfl
  | cons h _ ih =>
    rw [List.flatMap_cons, List.flatMap_cons, ih, h.1, h.2.length_eq]
end SE
namespace SE
open Ie01
/-! ### the runs of a row, column by column -/
def ext (h : Nat → Bool) (m z : Nat) : Nat := if m + 1 = z ∧ h z = true then z else m
def endOf (h : Nat → Bool) (n x : Nat) : Nat := ((List.range n).drop x).foldl (ext h) x
def isStart (h : Nat → Bool) (x : Nat) : Bool := h x && !(decide (0 < x) && h (x - 1))
def runsTo (h : Nat → Bool) (n : Nat) : List (Nat × Nat) := ((List.range n).filter (isStart h)).map fun x => (x, endOf h n x)
theorem runsIn_is (p : Page) (y : Nat) : runsIn p y = runsTo (fun x => p.has (x, y)) p.w := rfl
theorem endOf_succ {h : Nat → Bool} {n x : Nat} (hx : x ≤ n) : endOf h (n + 1) x = ext h (endOf h n x) n := by
  unfold endOf
  rw [List.range_succ, List.drop_append_of_le_length (by rw [List.length_range]; exact hx), List.foldl_append]
  rfl
theorem endOf_self (h : Nat → Bool) (n : Nat) : endOf h (n + 1) n = n := by
  rw [endOf_succ (Nat.le_refl n)]
  have e : endOf h n n = n := by
    unfold endOf
    rw [List.drop_of_length_le (by rw [List.length_range]; exact Nat.le_refl _)]
    rfl
  rw [e]
  unfold ext
  rw [if_neg (by omega)]
theorem runsTo_succ (h : Nat → Bool) (n : Nat) : runsTo h (n + 1) = (runsTo h n).map (fun q => (q.1, ext h q.2 n)) ++ (if isStart h n = true then [(n, n)] else []) := by
  unfold runsTo
  rw [List.range_succ, List.filter_append, List.map_append, List.map_map]
  congr 1
  · apply List.map_congr_left
    intro x hx
    have : x < n := List.mem_range.mp (List.mem_filter.mp hx).1
    show (x, endOf h (n + 1) x) = (x, ext h (endOf h n x) n)
    rw [endOf_succ (by omega)]
  · rw [List.filter_cons]
    split
    · show [(n, endOf h (n + 1) n)] = _
      rw [endOf_self]
    · rfl
structure RunOk (h : Nat → Bool) (n : Nat) (q : Nat × Nat) : Prop where
  le : q.1 ≤ q.2
  lt : q.2 < n
  all : ∀ z, q.1 ≤ z → z ≤ q.2 → h z = true
  stop : q.2 + 1 = n ∨ h (q.2 + 1) = false
theorem runs_ok (h : Nat → Bool) : ∀ n, ∀ q ∈ runsTo h n, RunOk h n q := by
  intro n
  induction n with
  | zero => intro q hq; cases hq
  | succ n ih =>
    intro q hq
    rw [runsTo_succ] at hq
    rcases List.mem_append.mp hq with hq | hq
    · obtain ⟨r, hr, rfl⟩ := List.mem_map.mp hq
      obtain ⟨h1, h2, h3, h4⟩ := ih r hr
      unfold ext
      by_cases hc : r.2 + 1 = n ∧ h n = true
      · rw [if_pos hc]
        refine ⟨by show r.1 ≤ n; omega, by show n < n + 1; omega, fun z z1 z2 => ?_, .inl rfl⟩
        simp only at z1 z2
        rcases Nat.lt_or_ge z n with y | y
        · exact h3 z z1 (by omega)
        · have : z = n := by omega
          rw [this]
          exact hc.2
      · rw [if_neg hc]
        refine ⟨h1, by show r.2 < n + 1; omega, h3, .inr ?_⟩
        rcases h4 with h4 | h4
        · have : ¬ h n = true := fun z => hc ⟨h4, z⟩
          show h (r.2 + 1) = false
          rw [h4]
          simpa using this
        · exact h4
    · split at hq
      · rename_i hs
        rw [List.mem_singleton.mp hq]
        unfold isStart at hs
        rw [Bool.and_eq_true] at hs
        refine ⟨Nat.le_refl _, by show n < n + 1; omega, fun z z1 z2 => ?_, .inl rfl⟩
        simp only at z1 z2
        have : z = n := by omega
        rw [this]
        exact hs.1
      · cases hq
/-- a cell that isn't chosen: nothing changes -/
theorem runs_no {h : Nat → Bool} {n : Nat} (hn : h n = false) : runsTo h (n + 1) = runsTo h n := by
  rw [runsTo_succ]
  have e : isStart h n = false := by unfold isStart; rw [hn]; rfl
  rw [e, if_neg Bool.false_ne_true, List.append_nil]
  conv => rhs; rw [← List.map_id (runsTo h n)]
  apply List.map_congr_left
  intro q _
  unfold ext
  rw [if_neg (by rw [hn]; simp)]
  rfl
/-- a chosen cell, none to its left: a new run -/
theorem runs_new {h : Nat → Bool} {n : Nat} (hn : h n = true) (hl : n = 0 ∨ h (n - 1) = false) : runsTo h (n + 1) = runsTo h n ++ [(n, n)] := by
  rw [runsTo_succ]
  have e : isStart h n = true := by
    unfold isStart
    rw [hn, Bool.true_and]
    rcases hl with rfl | hl
    · rfl
    · rw [hl, Bool.and_false]; rfl
  rw [e, if_pos rfl]
  congr 1
  conv => rhs; rw [← List.map_id (runsTo h n)]
  apply List.map_congr_left
  intro q hq
  obtain ⟨h1, h2, h3, _⟩ := runs_ok h n q hq
  unfold ext
  rw [if_neg]
  · rfl
  rintro ⟨z, _⟩
  rcases hl with rfl | hl
  · omega
  · have := h3 q.2 h1 (Nat.le_refl _)
    have e2 : n - 1 = q.2 := by omega
    rw [e2, this] at hl
    cases hl
/-- the last run, where the cell to the left is chosen -/
theorem runs_last {h : Nat → Bool} : ∀ {n : Nat}, 0 < n → h (n - 1) = true → ∃ L x, runsTo h n = L ++ [(x, n - 1)] ∧ ∀ q ∈ L, q.2 + 1 < n := by
  intro n
  induction n with
  | zero => intro h0; exact absurd h0 (Nat.lt_irrefl _)
  | succ n ih =>
    intro _ hn
    rw [Nat.add_sub_cancel] at hn
    by_cases hl : n = 0 ∨ h (n - 1) = false
    · refine ⟨runsTo h n, n, ?_, fun q hq => ?_⟩
      · rw [runs_new hn hl, Nat.add_sub_cancel]
      · have := (runs_ok h n q hq).lt
        omega
    · have hn0 : 0 < n := by
        rcases Nat.eq_zero_or_pos n with z | z
        · exact absurd (.inl z) hl
        · exact z
      have hl1 : h (n - 1) = true := by
        cases z : h (n - 1)
        · exact absurd (.inr z) hl
        · rfl
      obtain ⟨L, x, e, hL⟩ := ih hn0 hl1
      refine ⟨L, x, ?_, fun q hq => Nat.lt_succ_of_lt (hL q hq)⟩
      have es : isStart h n = false := by
        unfold isStart
        rw [hn, hl1, decide_eq_true hn0]
        rfl
      rw [runsTo_succ, es, if_neg Bool.false_ne_true, List.append_nil, e, List.map_append, Nat.add_sub_cancel]
      congr 1
      · conv => rhs; rw [← List.map_id L]
        apply List.map_congr_left
        intro q hq
        have := hL q hq
        unfold ext
        rw [if_neg (fun z => by omega)]
        rfl
      · show [(x, ext h (n - 1) n)] = [(x, n)]
        unfold ext
        rw [if_pos ⟨by omega, hn⟩]
/-- a chosen cell, its left one too: the last run grows -/
theorem runs_more {h : Nat → Bool} {n : Nat} (hn : h n = true) (h0 : 0 < n) (hl : h (n - 1) = true) : ∃ L x, runsTo h n = L ++ [(x, n - 1)] ∧ runsTo h (n + 1) = L ++ [(x, n)] := by
  obtain ⟨L, x, e, hL⟩ := runs_last h0 hl
  refine ⟨L, x, e, ?_⟩
  have es : isStart h n = false := by
    unfold isStart
    rw [hn, hl, decide_eq_true h0]
    rfl
  rw [runsTo_succ, es, if_neg Bool.false_ne_true, List.append_nil, e, List.map_append]
  congr 1
  · conv => rhs; rw [← List.map_id L]
    apply List.map_congr_left
    intro q hq
    have := hL q hq
    unfold ext
    rw [if_neg (fun z => by omega)]
    rfl
  · show [(x, ext h (n - 1) n)] = [(x, n)]
    unfold ext
    rw [if_pos ⟨by omega, hn⟩]
/-! ### beside by sides alone -/
theorem beside_sides (a b : Cell) : beside false a b = true ↔ ∃ s ∈ sides4, (a.1 : Int) = (b.1 : Int) + s.1 ∧ (a.2 : Int) = (b.2 : Int) + s.2 := by
  show decide (gap a.1 b.1 + gap a.2 b.2 = 1) = true ↔ _
  rw [decide_eq_true_eq]
  obtain ⟨a1, a2⟩ := a
  obtain ⟨b1, b2⟩ := b
  unfold gap sides4
  simp only [List.mem_cons, List.not_mem_nil, or_false]
  constructor
  · intro h
    have hk : ((a1 : Int) - b1 = -1 ∧ (a2 : Int) - b2 = 0) ∨ ((a1 : Int) - b1 = 1 ∧ (a2 : Int) - b2 = 0) ∨ ((a1 : Int) - b1 = 0 ∧ (a2 : Int) - b2 = -1) ∨ ((a1 : Int) - b1 = 0 ∧ (a2 : Int) - b2 = 1) := by omega
    rcases hk with ⟨h1, h2⟩ | ⟨h1, h2⟩ | ⟨h1, h2⟩ | ⟨h1, h2⟩
    · exact ⟨(-1, 0), .inl rfl, by simp only; omega, by simp only; omega⟩
    · exact ⟨(1, 0), .inr (.inl rfl), by simp only; omega, by simp only; omega⟩
    · exact ⟨(0, -1), .inr (.inr (.inl rfl)), by simp only; omega, by simp only; omega⟩
    · exact ⟨(0, 1), .inr (.inr (.inr rfl)), by simp only; omega, by simp only; omega⟩
  · rintro ⟨s, hs, h1, h2⟩
    rcases hs with rfl | rfl | rfl | rfl <;> simp only at h1 h2 <;> omega
end SE
namespace SE
open Ie01
/-! ### from which cells a step leads to none of them -/
def lacks (cs : List Cell) (s : IC) (c : Cell) : Bool := !(cs.any fun d => decide ((d.1 : Int) = (c.1 : Int) + s.1) && decide ((d.2 : Int) = (c.2 : Int) + s.2))
def without (cs : List Cell) (s : IC) : List Cell := cs.filter (lacks cs s)
theorem mem_chosen {p : Page} {c : Cell} : c ∈ p.chosen ↔ p.has c = true := by
  unfold Page.chosen
  rw [List.mem_filter]
  exact ⟨fun h => h.2, fun h => ⟨has_in h, h⟩⟩
theorem lacks_chosen (p : Page) (s : IC) (c : Cell) : lacks p.chosen s c = !hasI p ((c.1 : Int) + s.1) ((c.2 : Int) + s.2) := by
  unfold lacks
  congr 1
  rw [Bool.eq_iff_iff, List.any_eq_true]
  unfold hasI
  simp only [Bool.and_eq_true, decide_eq_true_eq]
  constructor
  · rintro ⟨⟨d1, d2⟩, hd, h1, h2⟩
    have hd' := mem_chosen.mp hd
    simp only at h1 h2
    refine ⟨by omega, by omega, ?_⟩
    have e1 : ((c.1 : Int) + s.1).toNat = d1 := by omega
    have e2 : ((c.2 : Int) + s.2).toNat = d2 := by omega
    rw [e1, e2]
    exact hd'
  · rintro ⟨h1, h2, h3⟩
    refine ⟨_, mem_chosen.mpr h3, ?_, ?_⟩ <;> simp only <;> omega
/-! ### the last cells of a row's runs -/
def isEnd (h : Nat → Bool) (n x : Nat) : Bool := h x && !(decide (x + 1 < n) && h (x + 1))
theorem ends_are (h : Nat → Bool) : ∀ n, (List.range n).filter (isEnd h n) = (runsTo h n).map (·.2) := by
  intro n
  induction n with
  | zero => rfl
  | succ n ih =>
    rw [List.range_succ, List.filter_append]
    have last : ([n] : List Nat).filter (isEnd h (n + 1)) = if h n = true then [n] else [] := by
      rw [List.filter_cons]
      have : isEnd h (n + 1) n = h n := by
        unfold isEnd
        rw [decide_eq_false (show ¬ n + 1 < n + 1 by omega)]
        simp
      rw [this]
      rfl
    rw [last]
    cases hn : h n with
    | false =>
      rw [if_neg (by simp), List.append_nil, runs_no hn, ← ih]
      apply List.filter_congr
      intro x hx
      have hx' : x < n := List.mem_range.mp hx
      unfold isEnd
      congr 2
      by_cases hxn : x + 1 < n
      · rw [decide_eq_true hxn, decide_eq_true (show x + 1 < n + 1 by omega)]
      · have e : x + 1 = n := by omega
        rw [e, hn]
        simp
    | true =>
      rw [if_pos rfl]
      by_cases hl : n = 0 ∨ h (n - 1) = false
      · rw [runs_new hn hl, List.map_append, ← ih]
        congr 1
        apply List.filter_congr
        intro x hx
        have hx' : x < n := List.mem_range.mp hx
        unfold isEnd
        by_cases hxn : x + 1 < n
        · rw [decide_eq_true hxn, decide_eq_true (show x + 1 < n + 1 by omega)]
        · rcases hl with hl | hl
          · omega
          · have e : x = n - 1 := by omega
            rw [e, hl]
            simp
      · have hn0 : 0 < n := by
          rcases Nat.eq_zero_or_pos n with z | z
          · exact absurd (.inl z) hl
          · exact z
        have hl1 : h (n - 1) = true := by
          cases z : h (n - 1)
          · exact absurd (.inr z) hl
          · rfl
        obtain ⟨L, x0, e1, e2⟩ := runs_more hn hn0 hl1
        rw [e2, List.map_append]
        congr 1
        rw [e1, List.map_append] at ih
        obtain ⟨m, rfl⟩ : ∃ m, n = m + 1 := ⟨n - 1, by omega⟩
        rw [Nat.add_sub_cancel] at hl1 e1 ih
        rw [List.range_succ, List.filter_append] at ih ⊢
        have t1 : ([m] : List Nat).filter (isEnd h (m + 1)) = [m] := by
          rw [List.filter_cons]
          have : isEnd h (m + 1) m = true := by
            unfold isEnd
            rw [hl1, decide_eq_false (show ¬ m + 1 < m + 1 by omega)]
            rfl
          rw [this]
          rfl
        have t2 : ([m] : List Nat).filter (isEnd h (m + 1 + 1)) = [] := by
          rw [List.filter_cons]
          have : isEnd h (m + 1 + 1) m = false := by
            unfold isEnd
            rw [hl1, hn, decide_eq_true (show m + 1 < m + 1 + 1 by omega)]
            rfl
          rw [this]
          rfl
        rw [t1] at ih
        have ih' := (List.append_inj' ih rfl).1
        rw [t2, List.append_nil, ← ih']
        apply List.filter_congr
        intro x hx
        have hx' : x < m := List.mem_range.mp hx
        unfold isEnd
        rw [decide_eq_true (show x + 1 < m + 1 by omega), decide_eq_true (show x + 1 < m + 1 + 1 by omega)]
theorem starts_are (h : Nat → Bool) (n : Nat) : (List.range n).filter (isStart h) = (runsTo h n).map (·.1) := by
  unfold runsTo
  rw [List.map_map]
  show _ = ((List.range n).filter (isStart h)).map (fun x => x)
  simp
theorem chosen_rows (p : Page) (f : Cell → Bool) : p.chosen.filter f = (List.range p.h).flatMap fun y => ((List.range p.w).filter fun x => p.has (x, y) && f (x, y)).map fun x => (x, y) := by
  unfold Page.chosen
  rw [List.filter_filter, all_eq]
  unfold cellsOf
  rw [List.filter_flatMap]
  congr 1
  funext y
  rw [List.filter_map]
  congr 1
  apply List.filter_congr
  intro x _
  show (f (x, y) && p.has (x, y)) = _
  rw [Bool.and_comm]
theorem has_beyond {p : Page} {x y : Nat} (h : ¬ x < p.w) : p.has (x, y) = false := by
  unfold Page.has
  simp only [decide_eq_false h, Bool.false_and]
theorem firsts_are (p : Page) : without p.chosen (-1, 0) = p.runs.map fun r => (r.2.1, r.1) := by
  unfold without
  rw [chosen_rows]
  unfold Page.runs
  rw [List.map_flatMap]
  congr 1
  funext y
  rw [runsIn_is, List.map_map]
  have e : ((List.range p.w).filter fun x => p.has (x, y) && lacks p.chosen (-1, 0) (x, y)) = (List.range p.w).filter (isStart fun x => p.has (x, y)) := by
    apply List.filter_congr
    intro x _
    unfold isStart
    congr 1
    rw [lacks_chosen]
    congr 1
    unfold hasI
    by_cases hx : 0 < x
    · rw [decide_eq_true hx, Bool.true_and, decide_eq_true (show (0 : Int) ≤ ((x : Nat) : Int) + -1 by omega), decide_eq_true (show (0 : Int) ≤ ((y : Nat) : Int) + 0 by omega), Bool.true_and, Bool.true_and]
      have a : (((x : Nat) : Int) + -1).toNat = x - 1 := by omega
      have b : (((y : Nat) : Int) + 0).toNat = y := by omega
      rw [a, b]
    · rw [decide_eq_false hx, Bool.false_and, decide_eq_false (show ¬ (0 : Int) ≤ ((x : Nat) : Int) + -1 by omega), Bool.false_and]
  rw [e, starts_are, List.map_map]
  rfl
theorem lasts_are (p : Page) : without p.chosen (1, 0) = p.runs.map fun r => (r.2.2, r.1) := by
  unfold without
  rw [chosen_rows]
  unfold Page.runs
  rw [List.map_flatMap]
  congr 1
  funext y
  rw [runsIn_is, List.map_map]
  have e : ((List.range p.w).filter fun x => p.has (x, y) && lacks p.chosen (1, 0) (x, y)) = (List.range p.w).filter (isEnd (fun x => p.has (x, y)) p.w) := by
    apply List.filter_congr
    intro x _
    unfold isEnd
    congr 1
    rw [lacks_chosen]
    congr 1
    unfold hasI
    rw [decide_eq_true (show (0 : Int) ≤ ((x : Nat) : Int) + 1 by omega), decide_eq_true (show (0 : Int) ≤ ((y : Nat) : Int) + 0 by omega), Bool.true_and, Bool.true_and]
    have a : (((x : Nat) : Int) + 1).toNat = x + 1 := by omega
    have b : (((y : Nat) : Int) + 0).toNat = y := by omega
    rw [a, b]
    by_cases hx : x + 1 < p.w
    · rw [decide_eq_true hx, Bool.true_and]
    · rw [decide_eq_false hx, Bool.false_and, has_beyond hx]
  rw [e, ends_are, List.map_map]
  rfl
def runNums (l : List (Nat × Nat × Nat)) : List Nat := l.flatMap fun r => [r.1, r.2.1, r.2.2]
theorem runNums_snoc {l : List (Nat × Nat × Nat)} {i : Nat} {r : Nat × Nat × Nat} (h : l[i]? = some r) : runNums (l.take (i + 1)) = runNums (l.take i) ++ [r.1, r.2.1, r.2.2] := by
  unfold runNums
  rw [List.take_add_one, h, List.flatMap_append]
  rfl
theorem runNums_len (l : List (Nat × Nat × Nat)) : (runNums l).length = 3 * l.length := by
  unfold runNums
  induction l with
  | nil => rfl
  | cons a l ih =>
    rw [List.flatMap_cons, List.length_append, ih]
    simp only [List.length_cons, List.length_nil]
    omega
theorem chosen_len {p : Page} (o : Ok p) : p.chosen.length ≤ 256 := by
  have h : p.chosen.length ≤ p.all.length := List.length_filter_le _ _
  rw [all_eq, cellsOf_length] at h
  have := o.small
  omega
theorem runs_len {p : Page} (o : Ok p) : p.runs.length ≤ 256 := by
  have h : (without p.chosen (-1, 0)).length ≤ p.chosen.length := List.length_filter_le _ _
  rw [firsts_are, List.length_map] at h
  have := chosen_len o
  omega
/-! ### sides, step by step -/
def sidesIn : List IC := [(0, -1), (-1, 0), (1, 0), (0, 1)]
theorem sum_countP {α : Type} (l : List α) (a b c d : α → Bool) : (l.map fun x => ((if a x = true then 1 else 0) + (if b x = true then 1 else 0) + (if c x = true then 1 else 0) + (if d x = true then 1 else 0))).sum = l.countP a + l.countP b + l.countP c + l.countP d := by
  induction l with
  | nil => rfl
  | cons x l ih =>
    rw [List.map_cons, List.sum_cons, ih, List.countP_cons, List.countP_cons, List.countP_cons, List.countP_cons]
    omega
theorem sides_steps (p : Page) : p.sides = (sidesIn.map fun s => (without p.chosen s).length).sum := by
  rw [sides_is]
  have e : p.chosen.map (openSides p) = p.chosen.map fun x => ((if lacks p.chosen (-1, 0) x = true then 1 else 0) + (if lacks p.chosen (1, 0) x = true then 1 else 0) + (if lacks p.chosen (0, -1) x = true then 1 else 0) + (if lacks p.chosen (0, 1) x = true then 1 else 0)) := by
    apply List.map_congr_left
    intro c _
    unfold openSides sides4
    simp only [List.countP_cons, List.countP_nil, lacks_chosen]
    omega
  rw [e, sum_countP]
  unfold sidesIn without
  simp only [List.map_cons, List.map_nil, List.sum_cons, List.sum_nil, List.countP_eq_length_filter]
  omega
theorem mem_sidesIn {s : IC} : s ∈ sidesIn ↔ s ∈ sides4 := by
  obtain ⟨x, y⟩ := s
  simp only [sidesIn, sides4, List.mem_cons, Prod.mk.injEq, List.not_mem_nil, or_false]
  omega
/-! ### the nearest, from the first on -/
theorem nearest_twice (x : Cell) (l : List Cell) (c : Cell) : nearest (x :: x :: l) c = nearest (x :: l) c := by
  unfold nearest
  rw [List.foldl_cons, List.foldl_cons, List.foldl_cons]
  simp only [Nat.lt_irrefl, if_false]
theorem nearest_one (x c : Cell) : nearest [x] c = some (far c x, x) := rfl
theorem nearest_step {x0 : Cell} {cs : List Cell} {i : Nat} {d x c : Cell} (h : cs[i]? = some d) (hn : nearest (x0 :: cs.take i) c = some (far c x, x)) :
    nearest (x0 :: cs.take (i + 1)) c = if far c d < far c x then some (far c d, d) else some (far c x, x) := by
  rw [List.take_add_one, h]
  show nearest ((x0 :: cs.take i) ++ [d]) c = _
  rw [nearest_snoc, hn]
/-! ### the root, part by part -/
def rootParts : List Nat := [128, 64, 32, 16, 8, 4, 2, 1]
def rootLeft (i : Nat) : Nat := [256, 128, 64, 32, 16, 8, 4, 2, 1].getD i 1
structure RInv (n i s : Nat) : Prop where
  le : s * s ≤ n
  most : s + rootLeft i ≤ 256
  lt : s + rootLeft i = 256 ∨ n < (s + rootLeft i) * (s + rootLeft i)
theorem RInv.start (n : Nat) : RInv n 0 0 := ⟨Nat.zero_le _, by decide, .inl rfl⟩
theorem parts_at {i p : Nat} (h : rootParts[i]? = some p) : rootLeft i = 2 * p ∧ rootLeft (i + 1) = p ∧ p ≤ 128 := by
  have hi : i < 8 := by
    rcases Nat.lt_or_ge i 8 with z | z
    · exact z
    · rw [List.getElem?_eq_none (by exact z)] at h; cases h
  have hk : i = 0 ∨ i = 1 ∨ i = 2 ∨ i = 3 ∨ i = 4 ∨ i = 5 ∨ i = 6 ∨ i = 7 := by omega
  rcases hk with rfl | rfl | rfl | rfl | rfl | rfl | rfl | rfl <;> cases h <;> exact ⟨rfl, rfl, by decide⟩
theorem RInv.yes {n i s p : Nat} (r : RInv n i s) (h : rootParts[i]? = some p) (hp : (s + p) * (s + p) ≤ n) : RInv n (i + 1) (s + p) := by
  obtain ⟨h1, h2, _⟩ := parts_at h
  obtain ⟨r1, r2, r3⟩ := r
  rw [h1] at r2 r3
  have e : s + 2 * p = s + p + p := by omega
  rw [e] at r2 r3
  exact ⟨hp, by rw [h2]; exact r2, by rw [h2]; exact r3⟩
theorem RInv.no {n i s p : Nat} (r : RInv n i s) (h : rootParts[i]? = some p) (hp : ¬ (s + p) * (s + p) ≤ n) : RInv n (i + 1) s := by
  obtain ⟨h1, h2, _⟩ := parts_at h
  obtain ⟨r1, r2, r3⟩ := r
  rw [h1] at r2
  exact ⟨r1, by rw [h2]; omega, by rw [h2]; right; omega⟩
theorem RInv.ends {k d s : Nat} (r : RInv (d * 16384 / (k * k)) 8 s) : steps k d = s := by
  obtain ⟨r1, r2, r3⟩ := r
  have e : rootLeft 8 = 1 := rfl
  rw [e] at r2 r3
  refine steps_is (by omega) r1 ?_
  rcases r3 with r3 | r3
  · left; omega
  · right; exact r3
theorem steps_le (k d : Nat) : steps k d ≤ 255 := (rootTo_le 255 _).1
/-! ### degrees -/
def chosenDeg (outs : List Cell) (k : Nat) (c : Cell) : Nat := match nearest outs c with
  | none => 255
  | some q => min 255 (127 + steps k q.1)
def unchosenDeg (ins : List Cell) (k : Nat) (c : Cell) : Nat := match nearest ins c with
  | none => 0
  | some q => 128 - steps k q.1
theorem degree_is (ins outs : List Cell) (k : Nat) (b : Bool) (c : Cell) : degree ins outs k b c = if b = true then chosenDeg outs k c else unchosenDeg ins k c := rfl
theorem soft_is {p : Page} (o : Ok p) (k : Nat) : p.soft k = (p.all.zip p.cells).map fun q => if q.2 = true then chosenDeg p.over.chosen k q.1 else unchosenDeg p.chosen k q.1 := by
  rw [zip_marks o, List.map_map]
  rfl
/-! ### bounds -/
def boundsM (l : List Cell) : List Nat := if l.isEmpty then [] else [least (l.map fun c => c.1), greatest (l.map fun c => c.1), least (l.map fun c => c.2), greatest (l.map fun c => c.2)]
theorem counts_is (p : Page) : p.counts = [p.chosen.length] ++ boundsM p.chosen ++ [p.sides, p.pieces.length, p.holes.length] := rfl
/-! ### what is told of pieces, piece by piece -/
def toldM (Ps : List (List Cell)) : List Nat := Ps.flatMap fun R => match R.head? with
    | some c => [c.1, c.2, R.length]
    | none => []
theorem toldM_snoc {Ps : List (List Cell)} {i : Nat} {R : List Cell} {c : Cell} (h : Ps[i]? = some R) (hc : R.head? = some c) : toldM (Ps.take (i + 1)) = toldM (Ps.take i) ++ [c.1, c.2, R.length] := by
  unfold toldM
  rw [List.take_add_one, h, List.flatMap_append]
  congr 1
  show ([R] : List (List Cell)).flatMap _ = _
  rw [List.flatMap_cons, hc]
  rfl
theorem toldM_len (Ps : List (List Cell)) : (toldM Ps).length ≤ 3 * Ps.length := by
  unfold toldM
  induction Ps with
  | nil => exact Nat.le_refl _
  | cons a l ih =>
    rw [List.flatMap_cons, List.length_append, List.length_cons]
    have : (match a.head? with
      | some c => [c.1, c.2, a.length]
      | none => []).length ≤ 3 := by
      cases a.head?
      · exact Nat.zero_le _
      · exact Nat.le_refl _
    omega
theorem told_toldM {Ps : List (List Cell)} {qs : List (Cell × List Cell)} (h : Rel2 Tells Ps qs) : told qs = Ps.length :: toldM Ps := told_is h
end SE
set_option maxRecDepth 100000
set_option maxHeartbeats 2000000
namespace SE
open PySem PySem.Spec PyProof.Rows L2
/-! ### heaps -/
theorem same_upd {H : Hp} {p : Addr} {o : HO} (h : H p = none) : Same H (upd H p o) := fun b x e => by
  rw [upd_ne (ne_of_none e h)]
  exact e
/-- a change at an address that H does not track -/
theorem same_upd' {H H' : Hp} {p : Addr} {o : HO} (s : Same H H') (h : H p = none) : Same H (upd H' p o) := fun b x e => by
  rw [upd_ne (ne_of_none e h)]
  exact s b x e
def cellV (c : Ie01.Cell) : List V := [.int (c.1 : Int), .int (c.2 : Int)]
def CellAt (H : Hp) (v : V) (c : Ie01.Cell) : Prop := ∃ a, v = .ref a ∧ H a = some (.tup (cellV c))
theorem CellAt.same {H H' : Hp} {v : V} {c : Ie01.Cell} (h : CellAt H v c) (s : Same H H') : CellAt H' v c := by
  obtain ⟨a, e, h⟩ := h
  exact ⟨a, e, s _ _ h⟩
/-- values that are cells, one by one -/
def CellsV (H : Hp) (vs : List V) (cs : List Ie01.Cell) : Prop := vs.length = cs.length ∧ ∀ (i : Nat) (c : Ie01.Cell), cs[i]? = some c → ∃ v, vs[i]? = some v ∧ CellAt H v c
theorem CellsV.same {H H' : Hp} {vs : List V} {cs : List Ie01.Cell} (h : CellsV H vs cs) (s : Same H H') : CellsV H' vs cs :=
  ⟨h.1, fun i c e => let ⟨v, e1, e2⟩ := h.2 i c e; ⟨v, e1, e2.same s⟩⟩
def CellsAt (H : Hp) (l : Addr) (cs : List Ie01.Cell) : Prop := ∃ vs, H l = some (.lst vs) ∧ CellsV H vs cs
theorem CellsAt.same {H H' : Hp} {l : Addr} {cs : List Ie01.Cell} (h : CellsAt H l cs) (s : Same H H') : CellsAt H' l cs := by
  obtain ⟨vs, e, h⟩ := h
  exact ⟨vs, s _ _ e, h.same s⟩
theorem CellsV.get {H : Hp} {vs : List V} {cs : List Ie01.Cell} (h : CellsV H vs cs) {i : Nat} {v : V} (hv : vs[i]? = some v) : ∃ c, cs[i]? = some c ∧ CellAt H v c := by
  have hi : i < cs.length := by
    rw [← h.1]
    rcases Nat.lt_or_ge i vs.length with q | q
    · exact q
    · rw [List.getElem?_eq_none q] at hv; cases hv
  obtain ⟨w, e1, e2⟩ := h.2 i cs[i] (List.getElem?_eq_getElem hi)
  rw [hv] at e1
  cases e1
  exact ⟨_, List.getElem?_eq_getElem hi, e2⟩
def MarksAt (H : Hp) (l : Addr) (ms : List Bool) : Prop := H l = some (.lst (ms.map V.bl))
theorem marks_get {ms : List Bool} {i : Nat} {v : V} (h : (ms.map V.bl)[i]? = some v) : ∃ m, ms[i]? = some m ∧ v = .bl m := by
  rw [List.getElem?_map] at h
  cases e : ms[i]? with
  | none => rw [e] at h; cases h
  | some m => rw [e] at h; exact ⟨m, rfl, (Option.some.inj h).symm⟩
/-! ### a comprehension whose turns leave all as it was -/
def outs (out : Nat → Option V) (n : Nat) : List V := (List.range n).filterMap out
theorem outs_succ (out : Nat → Option V) (n : Nat) : outs out (n + 1) = outs out n ++ (out n).toList := by
  unfold outs
  rw [List.range_succ, List.filterMap_append]
  congr 1
theorem outs_len (out : Nat → Option V) (n : Nat) : (outs out n).length ≤ n := by
  have := List.length_filterMap_le out (List.range n)
  rw [List.length_range] at this
  exact this
theorem lc_same {J : It} {n : Nat} {G : Hp → Prop} {Y : Nat → Hp → V → Hp → Prop} (w : Walk J n G Y) {g : TG} {tt : TT} {te : TE} {vs : List Nat} {σ : L2.St} {H1 : Hp} {D : Addr} {Qd : Hp → Prop}
    (out : Nat → Option V) (hn : n < 1000000) (hD : H1 D = none) (hG : ∀ H, Same H1 H → G H) (hY : ∀ i H x H', Y i H x H' → Same H H')
    (hs : ∀ (i : Nat) (x : V) (H H' : Hp) (N : Option V → Hp → Prop), i < n → Same H1 H → Y i H x H' → (∀ H'', Same H' H'' → N (out i) H'') →
      g x (wipe σ vs) H' fun σ2 H2 => wipe σ2 vs = wipe σ vs ∧ tt σ2 H2 fun b H3 => if b = true then te σ2 H3 fun y H4 => N (some y) H4 else N none H3)
    (hd : ∀ H, Same H1 H → H D = some (.lst (outs out n)) → Qd H) :
    ∃ W : Nat → Nat → Hp → Prop, (∃ m, W 0 m (upd H1 D (.lst []))) ∧ ∀ i m H, W i m H →
      (J.stop i H ∧ Qd H) ∨ (J.go i H ∧ ∃ Nx : Hp → Prop, (∀ H', Nx H' → ∃ m', m' < m ∧ W (i + 1) m' H') ∧ ∀ x H', J.yld i H x H' → g x (wipe σ vs) H' fun σ2 H2 => wipe σ2 vs = wipe σ vs ∧ tt σ2 H2 fun b H3 =>
        if b = true then te σ2 H3 fun y H4 => ∃ acc, H4 D = some (.lst acc) ∧ acc.length < sizeLine ∧ Nx (upd H4 D (.lst (acc ++ [y]))) else Nx H3) := by
  refine lc_it w (fun i H => Same H1 H ∧ H D = some (.lst (outs out i))) ⟨same_upd hD, upd_same⟩ (fun i H _ p => hG H p.1) ?_ (fun H p => hd H p.1 p.2)
  rintro i x H H' hi ⟨p1, p2⟩ hy
  have sHH' := hY i H x H' hy
  refine hs i x H H' (fun o H4 => match o with
    | some y => ∃ acc, H4 D = some (.lst acc) ∧ acc.length < sizeLine ∧ (Same H1 (upd H4 D (.lst (acc ++ [y]))) ∧ (upd H4 D (.lst (acc ++ [y]))) D = some (.lst (outs out (i + 1))))
    | none => Same H1 H4 ∧ H4 D = some (.lst (outs out (i + 1)))) hi p1 hy ?_
  intro H'' s2
  have eD : H'' D = some (.lst (outs out i)) := s2 _ _ (sHH' _ _ p2)
  have sA : Same H1 H'' := (p1.trans sHH').trans s2
  cases ho : out i with
  | none =>
    refine ⟨sA, ?_⟩
    rw [outs_succ, ho, eD]
    simp
  | some y =>
    refine ⟨_, eD, Nat.lt_of_le_of_lt (outs_len out i) (Nat.lt_trans (Nat.lt_trans hi hn) (by decide)), same_upd' sA hD, ?_⟩
    rw [upd_same, outs_succ, ho]
    rfl
theorem outs_map {α : Type} (xs : List α) (f : α → V) : outs (fun i => (xs[i]?).map f) xs.length = xs.map f := by
  unfold outs
  induction xs with
  | nil => rfl
  | cons a l ih =>
    rw [List.length_cons, List.range_succ_eq_map, List.filterMap_cons, List.filterMap_map]
    simp only [List.getElem?_cons_zero, Option.map_some, List.map_cons]
    congr 1
theorem outs_filter {α : Type} (xs : List α) (p : α → Bool) (f : α → V) : outs (fun i => (xs[i]?).bind fun a => if p a = true then some (f a) else none) xs.length = (xs.filter p).map f := by
  unfold outs
  induction xs with
  | nil => rfl
  | cons a l ih =>
    rw [List.length_cons, List.range_succ_eq_map, List.filterMap_cons, List.filterMap_map]
    simp only [List.getElem?_cons_zero, Option.bind_some]
    have e : List.filterMap ((fun i => ((a :: l)[i]?).bind fun a => if p a = true then some (f a) else none) ∘ Nat.succ) (List.range l.length) = (l.filter p).map f := ih
    rw [e, List.filter_cons]
    cases p a <;> rfl
/-- the top's statements -/
def top (i : Nat) : Stmt := PySem.Challenge.pw_softedges_s01_answers.main.body.getD i (.Pass ⟨0, 0, 0, 0⟩)
end SE
set_option maxRecDepth 100000
set_option maxHeartbeats 2000000
namespace SE
open PySem PySem.Spec PyProof.Rows L2
section
variable {P : Program} {w : World} {K : PySem.W.Frag} {mg : Str → Option Value} {base : Heap}
/-! ### apart -/
abbrev sApart : Stmt := top 3
theorem scApart : FnScope ["one", "other", "across", "down"] ["one", "other"] (defScope sApart) := ⟨rfl, rfl, rfl, by decide +kernel, rfl, by decide +kernel, by decide +kernel⟩
def Mid (c : IC) : Prop := -(2 ^ 40) < c.1 ∧ c.1 < 2 ^ 40 ∧ -(2 ^ 40) < c.2 ∧ c.2 < 2 ^ 40
def icV (c : IC) : List V := [.int c.1, .int c.2]
def spApart : Sp := fun vs H Q _ => ∃ (a b : Addr) (c d : IC), vs = [.ref a, .ref b] ∧ H a = some (.tup (icV c)) ∧ H b = some (.tup (icV d)) ∧ Mid c ∧ Mid d ∧ Q (.int (apartI c d)) H
theorem ok_apart {f : Addr} {fd : FuncData} (F : Fun K "apart" "apart" sApart f fd) : FnOk P w K mg base CX0 1 f fd ["one", "other"] spApart := by
  refine F.ok scApart (fun vs H Q E h => ?_) (fun cdv A outer s H vs Q E hr h => ?_)
  · obtain ⟨a, b, c, d, rfl, _⟩ := h
    rfl
  · obtain ⟨a, b, c, d, rfl, ha, hb, mc, md, q⟩ := h
    refine ⟨_, pss_cons (ps_set (i := 2) scApart.nd rfl (.inl rfl) (pe_op op_sub (pe_ix ix_tup (pv 0) pe_int (fun _ _ => rfl)) (pe_ix ix_tup (pv 1) pe_int (fun _ _ => rfl))))
      (pss_cons (ps_set (i := 3) scApart.nd rfl (.inl rfl) (pe_op op_sub (pe_ix ix_tup (pv 0) pe_int (fun _ _ => rfl)) (pe_ix ix_tup (pv 1) pe_int (fun _ _ => rfl))))
      (pss_one (ps_ret (pe_op op_add (pe_op op_mul (pv 2) (pv 2)) (pe_op op_mul (pv 3) (pv 3)))))), ?_⟩
    obtain ⟨m1, m2, m3, m4⟩ := mc
    obtain ⟨n1, n2, n3, n4⟩ := md
    refine ⟨_, rfl, a, _, _, _, rfl, rfl, SqT.of ha, atI_nat (j := 0) rfl, _, rfl, b, _, _, _, rfl, rfl, SqT.of hb, atI_nat (j := 0) rfl, _, _, rfl, rfl, ?_⟩
    refine ⟨_, rfl, a, _, _, _, rfl, rfl, SqT.of ha, atI_nat (j := 1) rfl, _, rfl, b, _, _, _, rfl, rfl, SqT.of hb, atI_nat (j := 1) rfl, _, _, rfl, rfl, ?_⟩
    refine ⟨_, rfl, _, rfl, _, _, rfl, rfl, .inl ⟨?_, ?_⟩, _, rfl, _, rfl, _, _, rfl, rfl, .inl ⟨?_, ?_⟩, _, _, rfl, rfl, q⟩
    all_goals omega
end
end SE
set_option maxRecDepth 100000
set_option maxHeartbeats 2000000
namespace SE
open PySem PySem.Spec PyProof.Rows L2
/-- what a pair of a zip is: the items, a new tuple -/
theorem ypair_same {xs ys : Nat → Option V} (i : Nat) (H : Hp) (x : V) (H' : Hp) (h : YPair xs ys i H x H') : Same H H' := by
  obtain ⟨T, x1, y1, rfl, nT, rfl, _, _⟩ := h
  exact same_upd nT
theorem yat_same {xs : List V} (i : Nat) (H : Hp) (x : V) (H' : Hp) (h : YAt xs i H x H') : Same H H' := by
  obtain ⟨rfl, _⟩ := h
  exact Same.refl _
/-- what is marked, as values -/
theorem marked_vals {H : Hp} {vs : List V} {cs : List Ie01.Cell} {ms : List Bool} (h : CellsV H vs cs) (hl : cs.length = ms.length) :
    CellsV H (((vs.zip ms).filter (·.2)).map (·.1)) (marked cs ms) := by
  obtain ⟨h1, h2⟩ := h
  induction vs generalizing cs ms with
  | nil =>
    cases cs with
    | nil => exact ⟨rfl, fun i c e => by simp [marked] at e⟩
    | cons _ _ => simp at h1
  | cons v vs ih =>
    cases cs with
    | nil => simp at h1
    | cons c cs =>
      cases ms with
      | nil => simp at hl
      | cons m ms =>
        have ih' := ih (cs := cs) (ms := ms) (by simpa using hl) (by simpa using h1) (fun i c e => h2 (i + 1) c e)
        have h0 := h2 0 c rfl
        unfold marked at ih' ⊢
        rw [List.zip_cons_cons, List.zip_cons_cons, List.filter_cons, List.filter_cons]
        cases m
        · exact ih'
        · simp only [if_true, List.map_cons]
          refine ⟨by simpa using ih'.1, fun i c' e => ?_⟩
          cases i with
          | zero =>
            cases e
            obtain ⟨v', e1, e2⟩ := h0
            cases e1
            exact ⟨v, rfl, e2⟩
          | succ i => exact ih'.2 i c' e
section
variable {P : Program} {w : World} {K : PySem.W.Frag} {mg : Str → Option Value} {base : Heap}
/-! ### marked_cells -/
abbrev sMarked : Stmt := top 6
theorem scMarked : FnScope ["cells", "marks", "cell", "mark"] ["cells", "marks"] (defScope sMarked) := ⟨rfl, rfl, rfl, by decide +kernel, rfl, by decide +kernel, by decide +kernel⟩
def spMarked : Sp := fun vs H Q _ => ∃ (a b : Addr) (cs : List Ie01.Cell) (ms : List Bool), vs = [.ref a, .ref b] ∧ CellsAt H a cs ∧ MarksAt H b ms ∧ cs.length = ms.length ∧ cs.length ≤ 300 ∧
  ∀ H' p, Same H H' → H p = none → CellsAt H' p (marked cs ms) → Q (.ref p) H'
theorem ok_marked {f : Addr} {fd : FuncData} (F : Fun K "marked_cells" "marked_cells" sMarked f fd) (mz : mg "zip" = none) : FnOk P w K mg base CX0 1 f fd ["cells", "marks"] spMarked := by
  refine F.ok scMarked (fun vs H Q E h => ?_) (fun cdv A outer s H vs Q E hr h => ?_)
  · obtain ⟨a, b, cs, ms, rfl, _⟩ := h
    rfl
  · obtain ⟨a, b, cs, ms, rfl, ⟨xs, hx, hc⟩, hm, hl, h300, q⟩ := h
    refine ⟨_, pss_one (ps_ret (pe_lc (own := [("cell", 2), ("mark", 3)]) (g := gTup K 2 (gCons (gName 2) (gCons (gName 3) gNil))) rfl scMarked.nd (pi_zip (by rfl) mz (pa_cons (pv 0) (pa_cons (pv 1) pa_nil)))
      (blkOk_by (own := [("cell", 2), ("mark", 3)]) (N := ["cells", "marks", "cell", "mark"]) (sc := defScope sMarked) (by decide +kernel))
      (fun _ _ _ _ _ => pg_tup rfl (pgs_cons (pg_name (i := 2) scMarked.nd rfl (.inl rfl)) (pgs_cons (pg_name (i := 3) scMarked.nd rfl (.inl rfl)) pgs_nil)))
      (fun _ _ _ _ _ => pts_one (pt_val (pv 3))) (fun _ _ _ _ _ => pv 2))), ?_⟩
    refine ⟨_, rfl, _, rfl, a, b, xs, ms.map V.bl, rfl, SqL.of hx, SqL.of hm, fun D hD => ?_⟩
    have hlen : xs.length = (ms.map V.bl).length := by rw [List.length_map, hc.1, hl]
    have hxl : (xs.zip ms).length = xs.length := by
      rw [List.length_zip]
      rw [List.length_map] at hlen
      omega
    refine lc_same (walk_zip (K := K) (xs := xs) (ys := ms.map V.bl) (n := (xs.zip ms).length) (by rw [hxl]; omega)) (fun i => ((xs.zip ms)[i]?).bind fun q => if q.2 = true then some q.1 else none) (by rw [hxl, hc.1]; omega) hD (fun H s => ⟨s.seq (SqL.of hx), s.seq (SqL.of hm)⟩) ypair_same ?_ ?_
    · rintro i x H1 H2 N hi s1 ⟨T, x1, y1, rfl, nT, rfl, e1, e2⟩ hN
      obtain ⟨m, em, rfl⟩ := marks_get e2
      refine ⟨T, _, rfl, SqT.of upd_same, rfl, x1, _, rfl, .bl m, _, rfl, rfl, rfl, _, rfl, m, rfl, ?_⟩
      have ez : (xs.zip ms)[i]? = some (x1, m) := by
        rw [List.getElem?_zip_eq_some]
        exact ⟨e1, em⟩
      simp only [ez, Option.bind_some] at hN
      refine ite2 (fun hb => ?_) (fun hb => ?_)
      · rw [if_pos hb] at hN
        exact ⟨_, rfl, hN _ (Same.refl _)⟩
      · rw [if_neg hb] at hN
        exact hN _ (Same.refl _)
    · intro H1 s1 eD
      refine q _ _ s1 hD ⟨_, eD, ?_⟩
      rw [outs_filter (xs.zip ms) (·.2) (·.1)]
      exact (marked_vals hc hl).same s1
/-! ### turned_over -/
abbrev sOver : Stmt := top 7
theorem scOver : FnScope ["marks", "mark"] ["marks"] (defScope sOver) := ⟨rfl, rfl, rfl, by decide +kernel, rfl, by decide +kernel, by decide +kernel⟩
def spOver : Sp := fun vs H Q _ => ∃ (b : Addr) (ms : List Bool), vs = [.ref b] ∧ MarksAt H b ms ∧ ms.length ≤ 300 ∧
  ∀ H' p, Same H H' → H p = none → MarksAt H' p (overM ms) → Q (.ref p) H'
theorem ok_over {f : Addr} {fd : FuncData} (F : Fun K "turned_over" "turned_over" sOver f fd) : FnOk P w K mg base CX0 1 f fd ["marks"] spOver := by
  refine F.ok scOver (fun vs H Q E h => ?_) (fun cdv A outer s H vs Q E hr h => ?_)
  · obtain ⟨b, ms, rfl, _⟩ := h
    rfl
  · obtain ⟨b, ms, rfl, hm, h300, q⟩ := h
    refine ⟨_, pss_one (ps_ret (pe_lc (own := [("mark", 1)]) (g := gName 1) rfl scOver.nd (pi_list (pv 0))
      (blkOk_by (own := [("mark", 1)]) (N := ["marks", "mark"]) (sc := defScope sOver) (by decide +kernel))
      (fun _ _ _ _ _ => pg_name (i := 1) scOver.nd rfl (.inl rfl)) (fun _ _ _ _ _ => pts_nil) (fun _ _ _ _ _ => pe_not (pv 1)))), ?_⟩
    refine ⟨_, rfl, b, rfl, ⟨_, SqL.of hm⟩, fun D hD => ?_⟩
    refine lc_same (walk_list (K := K) (xs := ms.map V.bl)) (fun i => (ms[i]?).map fun m => V.bl (!m)) (by rw [List.length_map]; omega) hD (fun H s => s.seq (SqL.of hm)) yat_same ?_ ?_
    · rintro i x H1 H2 N hi s1 ⟨rfl, e2⟩ hN
      obtain ⟨m, em, rfl⟩ := marks_get e2
      simp only [em, Option.map_some] at hN
      exact ⟨rfl, _, rfl, m, rfl, hN _ (Same.refl _)⟩
    · intro H1 s1 eD
      refine q _ _ s1 hD ?_
      rw [List.length_map, outs_map] at eD
      unfold MarksAt overM
      rw [eD, List.map_map]
      rfl
end
end SE
set_option maxRecDepth 100000
set_option maxHeartbeats 2000000
namespace SE
open PySem PySem.Spec PyProof.Rows L2
theorem cal_of {P : Program} {w : World} {K : PySem.W.Frag} {mg : Str → Option Value} {base : Heap} {k : Nat} {x : Str} {st : Stmt} {f : Addr} {fd : FuncData} {ps : List Str} {sp : Sp} (F : Fun K x x st f fd) (G : FnOk P w K mg base CX0 k f fd ps sp) (m : mg x = some (.ref f)) (b : Binds K fd ps []) : C8.Cal P w K mg base k x sp [] :=
  ⟨f, fd, ps, [], G, m, F.kp, b, .nil⟩
/-- cells that are no farther than a call's numbers go -/
def Small (c : Ie01.Cell) : Prop := c.1 < 2 ^ 33 ∧ c.2 < 2 ^ 33
theorem Small.mid {c : Ie01.Cell} (h : Small c) : Mid (ic c) := by
  obtain ⟨h1, h2⟩ := h
  unfold Mid ic
  refine ⟨?_, ?_, ?_, ?_⟩ <;> simp only <;> omega
theorem take_any_succ {α : Type} {l : List α} {p : α → Bool} {i : Nat} {x : α} (h : l[i]? = some x) : (l.take (i + 1)).any p = ((l.take i).any p || p x) := by
  rw [List.take_add_one, h, List.any_append]
  simp
section
variable {P : Program} {w : World} {K : PySem.W.Frag} {mg : Str → Option Value} {base : Heap}
/-! ### is_near -/
abbrev sNear : Stmt := top 13
theorem scNear : FnScope ["cell", "others", "r", "other"] ["cell", "others", "r"] (defScope sNear) := ⟨rfl, rfl, rfl, by decide +kernel, rfl, by decide +kernel, by decide +kernel⟩
def spNear : Sp := fun vs H Q _ => ∃ (v : V) (b : Addr) (c : Ie01.Cell) (cs : List Ie01.Cell) (r : Nat), vs = [v, .ref b, .int (r : Int)] ∧ CellAt H v c ∧ CellsAt H b cs ∧ Small c ∧ (∀ d ∈ cs, Small d) ∧ Q (.bl (nearM c cs r)) H
theorem ok_near {f : Addr} {fd : FuncData} (F : Fun K "is_near" "is_near" sNear f fd) (cA : C8.Cal P w K mg base 1 "apart" spApart []) : FnOk P w K mg base CX0 2 f fd ["cell", "others", "r"] spNear := by
  refine F.ok scNear (fun vs H Q E h => ?_) (fun cdv A outer s H vs Q E hr h => ?_)
  · obtain ⟨v, b, c, cs, r, rfl, _⟩ := h
    rfl
  · obtain ⟨v, b, c, cs, r, rfl, ⟨a, rfl, ha⟩, ⟨xs, hx, hc⟩, sc, scs, q⟩ := h
    refine ⟨_, pss_cons (ps_for PassesOwn.never rfl (pi_list (pv 1)) (pg_name (i := 3) scNear.nd rfl (.inl rfl))
        (pss_one (ps_if (pt_cmpR op_le (C8.pe_c cA hr (by decide) (by rfl) (pa_cons (pv 0) (pa_cons (pv 3) pa_nil))) (pv 2) (nomark _)) (pss_one (ps_ret pe_bl)) pss_nil)))
      (pss_one (ps_ret pe_bl)), ?_⟩
    refine ⟨_, rfl, b, rfl, ⟨_, SqL.of hx⟩, for_list (K := K) (a := b) (xs := xs) (fun i σ H' => ∃ u, σ = [some (.ref a), some (.ref b), some (.int (r : Int)), u] ∧ H' = H ∧ nearM c (cs.take i) r = false) ⟨none, rfl, rfl, rfl⟩ (fun i σ H' _ ⟨_, _, e, _⟩ => e ▸ SqL.of hx) ?_ ?_⟩
    · rintro i y σ H' hi ⟨u, rfl, rfl, hn⟩
      obtain ⟨d, ed, e, rfl, he⟩ := hc.get hi
      refine ⟨_, rfl, _, rfl, a, e, ic c, ic d, rfl, ha, he, sc.mid, (scs d (List.mem_of_getElem? ed)).mid, ?_⟩
      rw [far_apart]
      refine ⟨_, rfl, _, _, rfl, rfl, _, rfl, ite2 (fun hb => ?_) (fun hb => ?_)⟩
      · have hb' : ((Ie01.far c d : Nat) : Int) ≤ (r : Int) := of_decide_eq_true hb
        have e1 : nearM c cs r = true := by
          unfold nearM
          rw [List.any_eq_true]
          exact ⟨d, List.mem_of_getElem? ed, decide_eq_true (by omega)⟩
        rw [e1] at q
        exact q
      · refine ⟨_, rfl, rfl, ?_⟩
        have hb' : ¬ ((Ie01.far c d : Nat) : Int) ≤ (r : Int) := fun z => hb (decide_eq_true z)
        unfold nearM at hn ⊢
        rw [take_any_succ ed, hn, Bool.false_or]
        exact decide_eq_false (by omega)
    · rintro σ H' ⟨u, rfl, rfl, hn⟩
      rw [List.take_of_length_le (by rw [hc.1]; exact Nat.le_refl _)] at hn
      rw [hn] at q
      exact q
/-! ### grown -/
abbrev sGrown : Stmt := top 14
theorem scGrown : FnScope ["cells", "marks", "r", "sources", "cell", "mark"] ["cells", "marks", "r"] (defScope sGrown) := ⟨rfl, rfl, rfl, by decide +kernel, rfl, by decide +kernel, by decide +kernel⟩
def spGrown : Sp := fun vs H Q _ => ∃ (a b : Addr) (cs : List Ie01.Cell) (ms : List Bool) (r : Nat), vs = [.ref a, .ref b, .int (r : Int)] ∧ CellsAt H a cs ∧ MarksAt H b ms ∧ cs.length = ms.length ∧ cs.length ≤ 300 ∧ (∀ d ∈ cs, Small d) ∧
  ∀ H' p, Same H H' → H p = none → MarksAt H' p (grownM cs ms r) → Q (.ref p) H'
theorem marked_sub {cs : List Ie01.Cell} {ms : List Bool} {c : Ie01.Cell} (h : c ∈ marked cs ms) : c ∈ cs := by
  unfold marked at h
  obtain ⟨q, hq, rfl⟩ := List.mem_map.mp h
  exact (List.of_mem_zip (List.mem_filter.mp hq).1).1
theorem ok_grown {f : Addr} {fd : FuncData} (F : Fun K "grown" "grown" sGrown f fd) (mz : mg "zip" = none) (cM : C8.Cal P w K mg base 1 "marked_cells" spMarked []) (cN : C8.Cal P w K mg base 2 "is_near" spNear []) : FnOk P w K mg base CX0 3 f fd ["cells", "marks", "r"] spGrown := by
  refine F.ok scGrown (fun vs H Q E h => ?_) (fun cdv A outer s H vs Q E hr h => ?_)
  · obtain ⟨a, b, cs, ms, r, rfl, _⟩ := h
    rfl
  · obtain ⟨a, b, cs, ms, r, rfl, hA, hm, hl, h300, hsm, q⟩ := h
    refine ⟨_, pss_cons (ps_set (i := 3) scGrown.nd rfl (.inr rfl) (C8.pe_c cM hr (by decide) (by rfl) (pa_cons (pv 0) (pa_cons (pv 1) pa_nil))))
      (pss_one (ps_ret (pe_lc (own := [("cell", 4), ("mark", 5)]) (g := gTup K 2 (gCons (gName 4) (gCons (gName 5) gNil))) rfl scGrown.nd (pi_zip (by rfl) mz (pa_cons (pv 0) (pa_cons (pv 1) pa_nil)))
      (blkOk_by (own := [("cell", 4), ("mark", 5)]) (N := ["cells", "marks", "r", "sources", "cell", "mark"]) (sc := defScope sGrown) (by decide +kernel))
      (fun _ _ _ _ _ => pg_tup rfl (pgs_cons (pg_name (i := 4) scGrown.nd rfl (.inl rfl)) (pgs_cons (pg_name (i := 5) scGrown.nd rfl (.inl rfl)) pgs_nil)))
      (fun _ _ _ _ _ => pts_nil) (fun _ _ _ _ _ => pe_or (pv 5) (pe_one (C8.pe_c cN hr (by decide) (by rfl) (pa_cons (pv 4) (pa_cons (pv 3) (pa_cons (pv 2) pa_nil))))))))), ?_⟩
    refine ⟨_, rfl, _, rfl, a, b, cs, ms, rfl, hA, hm, hl, h300, fun H1 p s1 np hp => ?_⟩
    obtain ⟨xs, hx, hc⟩ := hA.same s1
    have hm1 : H1 b = some (.lst (ms.map V.bl)) := s1 _ _ hm
    refine ⟨_, rfl, _, rfl, a, b, xs, ms.map V.bl, rfl, SqL.of hx, SqL.of hm1, fun D hD => ?_⟩
    have hxl : (cs.zip ms).length = cs.length := by
      rw [List.length_zip]
      omega
    refine lc_same (walk_zip (K := K) (xs := xs) (ys := ms.map V.bl) (n := (cs.zip ms).length) (by rw [hxl, List.length_map, hc.1]; omega)) (fun i => ((cs.zip ms)[i]?).map fun q => V.bl (q.2 || nearM q.1 (marked cs ms) r)) (by rw [hxl]; omega) hD (fun H s => ⟨s.seq (SqL.of hx), s.seq (SqL.of hm1)⟩) ypair_same ?_ ?_
    · rintro i x H2 H3 N hi s2 ⟨T, x1, y1, rfl, nT, rfl, e1, e2⟩ hN
      obtain ⟨m, em, rfl⟩ := marks_get e2
      obtain ⟨c, ec, hcell⟩ := hc.get e1
      have ez : (cs.zip ms)[i]? = some (c, m) := by
        rw [List.getElem?_zip_eq_some]
        exact ⟨ec, em⟩
      simp only [ez, Option.map_some] at hN
      refine ⟨T, _, rfl, SqT.of upd_same, rfl, x1, _, rfl, .bl m, _, rfl, rfl, rfl, ?_⟩
      refine ⟨_, rfl, m, rfl, ?_⟩
      have s3 : Same H1 (upd H2 T (.tup [x1, .bl m])) := s2.trans (same_upd nT)
      cases m
      · refine iteF ?_
        refine ⟨_, rfl, _, rfl, _, rfl, x1, p, c, marked cs ms, r, rfl, hcell.same s3, hp.same s3, hsm c (List.mem_of_getElem? ec), fun d hd => hsm d (marked_sub hd), ?_⟩
        exact hN _ (Same.refl _)
      · exact iteT (hN _ (Same.refl _))
    · intro H2 s2 eD
      refine q _ _ (s1.trans s2) (s1.free hD) ?_
      rw [outs_map] at eD
      unfold MarksAt grownM
      rw [eD, List.map_map]
      rfl
end
end SE
set_option maxRecDepth 100000
set_option maxHeartbeats 2000000
namespace SE
open PySem PySem.Spec PyProof.Rows L2
/-! ### min of four numbers -/
theorem least_four {a b c d m : Int} (hm : m = a ∨ m = b ∨ m = c ∨ m = d) (h1 : m ≤ a) (h2 : m ≤ b) (h3 : m ≤ c) (h4 : m ≤ d) : m = min (min a b) (min c d) := by
  omega
theorem args_four (p q r t : Value) : argsOk "min" ⟨[p, q, r, t], []⟩ := by
  unfold argsOk
  kernel_rfl
section
variable {prog : Program} {w : World} {A : Around} {E : Value → Shared → Prop} {s : Shared}
theorem min_four {a b c d : Int} {ta tb tc td : Tok} {Q : Value → Shared → Prop} (hh : A.handled = none)
    (h : ∀ h' tk t, (∀ x o, s.heap.get? x = some o → h'.get? x = some o) → Q (.int (min (min a b) (min c d)) t) { s with heap := h', toks := tk }) :
    wpAny (model prog w) A (call (.builtin "min") [.int a ta, .int b tb, .int c tc, .int d td]) Q E s := by
  let ys : Array (Int × Tok) := #[(a, ta), (b, tb), (c, tc), (d, td)]
  let S1 : Heap := s.heap.push { cls := .type "tuple", data := .seq #[.int a ta, .int b tb, .int c tc, .int d td] }
  have n1 : S1.objs.size = s.heap.objs.size + 1 := Heap.size_push ..
  have tup : S1.IsTuple s.heap.objs.size (intItems ys) := ⟨_, Heap.get?_push_size _ rfl, rfl, 0, by simp [intItems, ys]⟩
  have nm : (toString "min" ++ toString ".loop" : String) = "min.loop" := by decide
  refine call_function_tree F.kind_min F.plain_min F.entry_min (args_four _ _ _ _) ?_
  change wpAny _ A.in1 (Builtin.Builtins.bindParams "min" ["key", "default"] 0 ⟨[], []⟩ >>= _) _ _ _
  refine wpAny_bind (wpAny_of_eq (a := [none, none]) rfl ?_)
  change wpAny _ A.in1 (newTuple [.int a ta, .int b tb, .int c tc, .int d td] >>= _) _ _ _
  refine wpAny_bind (wpAny_newObj_type (wpAny_bind (wpAny_pyIter_tuple (prog := prog) (w := w) (A := A.in1) tup ?_)))
  have hne : s.heap.objs.size ≠ S1.objs.size := by rw [n1]; exact (Nat.succ_ne_self _).symm
  have W := Walks.tuple (prog := prog) (w := w) (A := A.in1) hh S1.objs.size s.heap.objs.size hne (intItems ys)
  refine wpAny_bind (wpAny_newObj_type ?_)
  rw [nm]
  let S2 : Heap := S1.push { cls := .type "tuple_iterator", data := .fields #[.ref s.heap.objs.size, .int 0 0] }
  have n2 : S2.objs.size = S1.objs.size + 1 := Heap.size_push ..
  have lt4 : 0 < (intItems ys).size := by simp [intItems, ys]
  have fresh : S2.objs.size ∉ [S1.objs.size, s.heap.objs.size] := by
    intro z
    rw [n2, n1] at z
    rcases List.mem_cons.mp z with z | z
    · exact absurd z (Nat.succ_ne_self _)
    · rcases List.mem_cons.mp z with z | z
      · exact absurd z (Nat.ne_of_gt (Nat.lt_succ_of_lt (Nat.lt_succ_self _)))
      · cases z
  refine wpAny_pure ⟨plainId_quiet F.plain_min_loop _, codeAny_min_loop_first W _ (CmpOf.ints_lt (numAt ys) fun _ _ => intItems_at) S2.objs.size fresh lt4 ?_ (Heap.get?_push_size _ rfl) fun v h' tk hP hk => ?_⟩
  · exact W.frame _ S2 _ ⟨⟨_, Heap.get?_push_size _ rfl, rfl, rfl⟩, tup.push _⟩ fun x _ o e => Heap.get?_push_of_some _ e
  · obtain ⟨t, rfl⟩ := intItems_at hP
    have size3 : (intItems ys).size - 1 = 3 := by simp [intItems, ys]
    rw [size3]
    have best := argBest_lt (numAt ys) 3
    generalize hk0 : argBest (fun i j => decide (numAt ys i < numAt ys j)) 3 = k at best ⊢
    have v0 : numAt ys 0 = a := rfl
    have v1 : numAt ys 1 = b := rfl
    have v2 : numAt ys 2 = c := rfl
    have v3 : numAt ys 3 = d := rfl
    have b0 := best.2 0 (by omega)
    have b1 := best.2 1 (by omega)
    have b2 := best.2 2 (by omega)
    have b3 := best.2 3 (by omega)
    rw [v0] at b0
    rw [v1] at b1
    rw [v2] at b2
    rw [v3] at b3
    have pick : numAt ys k = a ∨ numAt ys k = b ∨ numAt ys k = c ∨ numAt ys k = d := by
      have h3 : k = 0 ∨ k = 1 ∨ k = 2 ∨ k = 3 := by have := best.1; omega
      rcases h3 with rfl | rfl | rfl | rfl
      · exact .inl v0
      · exact .inr (.inl v1)
      · exact .inr (.inr (.inl v2))
      · exact .inr (.inr (.inr v3))
    rw [least_four pick b0 b1 b2 b3]
    refine h h' tk t fun x o e => hk x o ?_ (Nat.ne_of_lt ?_) (Heap.get?_push_of_some _ (Heap.get?_push_of_some _ (Heap.get?_push_of_some _ e)))
    · intro z
      have lt := Heap.lt_size e
      rcases List.mem_cons.mp z with z | z
      · rw [z, n1] at lt
        exact absurd lt (Nat.not_lt_of_gt (Nat.lt_succ_self _))
      · cases z
    · have lt := Heap.lt_size e
      rw [n2, n1]
      exact Nat.lt_succ_of_lt (Nat.lt_succ_of_lt lt)
end
section
variable {X : Cx}
theorem call_min4 (hc : X.calm = true) : CallR X (.builtin "min") (fun xs H Q => ∃ a b c d, xs = [.int a, .int b, .int c, .int d] ∧ Q (.int (min (min a b) (min c d))) H) := by
  intro pins s σ H xs us Q I r h
  obtain ⟨a, b, c, d, rfl, q⟩ := h
  cases r with
  | cons r1 r =>
    cases r with
    | cons r2 r =>
      obtain ⟨u, w', rfl, ⟨t3, rfl⟩, ⟨t4, rfl⟩⟩ := vals2 r
      obtain ⟨t1, rfl⟩ := r1
      obtain ⟨t2, rfl⟩ := r2
      exact min_four (I.ok.hd hc) fun h' tk t k => ⟨.int (min (min a b) (min c d)), H, I.kept k, ⟨t, rfl⟩, q⟩
end
end SE
set_option maxRecDepth 100000
set_option maxHeartbeats 2000000
namespace SE
open PySem PySem.Spec PyProof.Rows L2
/-! ### the page as an object -/
theorem lk_here {k : Str} {v : V} {r : List (Str × V)} : List.lookup k ((k, v) :: r) = some v := by
  have e : (k == k) = true := beq_self_eq_true k
  simp only [List.lookup, e]
theorem lk_past {k g : Str} {v : V} {r : List (Str × V)} (h : (k == g) = false) : List.lookup k ((g, v) :: r) = List.lookup k r := by
  simp only [List.lookup, h]
theorem put_here {f : Str} {v x : V} {r : List (Str × V)} : putF f v ((f, x) :: r) = (f, v) :: r := if_pos rfl
theorem put_past {f g : Str} {v x : V} {r : List (Str × V)} (h : ¬ g = f) : putF f v ((g, x) :: r) = (g, x) :: putF f v r := if_neg h
def pF (x y u v : V) : List (Str × V) := [("columns", x), ("rows", y), ("cells", u), ("chosen", v)]
section
variable (x y u v : V)
theorem pF_columns : (pF x y u v).lookup ("columns" : Str) = some x := lk_here
theorem pF_rows : (pF x y u v).lookup ("rows" : Str) = some y := (lk_past (by decide +kernel)).trans lk_here
theorem pF_cells : (pF x y u v).lookup ("cells" : Str) = some u := (lk_past (by decide +kernel)).trans ((lk_past (by decide +kernel)).trans lk_here)
theorem pF_chosen : (pF x y u v).lookup ("chosen" : Str) = some v := (lk_past (by decide +kernel)).trans ((lk_past (by decide +kernel)).trans ((lk_past (by decide +kernel)).trans lk_here))
theorem pF_lay : (pF x y u v).lookup ("lay" : Str) = none := (lk_past (by decide +kernel)).trans ((lk_past (by decide +kernel)).trans ((lk_past (by decide +kernel)).trans ((lk_past (by decide +kernel)).trans rfl)))
theorem pF_put_columns (z : V) : putF "columns" z (pF x y u v) = pF z y u v := put_here
theorem pF_put_rows (z : V) : putF "rows" z (pF x y u v) = pF x z u v := (put_past (by decide +kernel)).trans (congrArg _ put_here)
theorem pF_put_cells (z : V) : putF "cells" z (pF x y u v) = pF x y z v := (put_past (by decide +kernel)).trans (congrArg _ ((put_past (by decide +kernel)).trans (congrArg _ put_here)))
theorem pF_put_chosen (z : V) : putF "chosen" z (pF x y u v) = pF x y u z := (put_past (by decide +kernel)).trans (congrArg _ ((put_past (by decide +kernel)).trans (congrArg _ ((put_past (by decide +kernel)).trans (congrArg _ put_here)))))
theorem pF_new : putF "chosen" v (putF "cells" u (putF "rows" y (putF "columns" x []))) = pF x y u v := by
  have e1 : putF "columns" x [] = ([("columns", x)] : List (Str × V)) := rfl
  have e2 : putF "rows" y ([("columns", x)] : List (Str × V)) = ([("columns", x), ("rows", y)] : List (Str × V)) := (put_past (by decide +kernel)).trans rfl
  have e3 : putF "cells" u ([("columns", x), ("rows", y)] : List (Str × V)) = ([("columns", x), ("rows", y), ("cells", u)] : List (Str × V)) := (put_past (by decide +kernel)).trans (congrArg _ ((put_past (by decide +kernel)).trans rfl))
  have e4 : putF "chosen" v ([("columns", x), ("rows", y), ("cells", u)] : List (Str × V)) = pF x y u v := (put_past (by decide +kernel)).trans (congrArg _ ((put_past (by decide +kernel)).trans (congrArg _ ((put_past (by decide +kernel)).trans rfl))))
  rw [e1, e2, e3, e4]
end
/-- fields that a page may have when it is laid: none yet, or all four -/
def Fs (fs : List (Str × V)) : Prop := fs = [] ∨ ∃ x y u v, fs = pF x y u v
theorem Fs.all {fs : List (Str × V)} (h : Fs fs) (x y u v : V) : putF "chosen" v (putF "cells" u (putF "rows" y (putF "columns" x fs))) = pF x y u v := by
  rcases h with rfl | ⟨x0, y0, u0, v0, rfl⟩
  · exact pF_new x y u v
  · rw [pF_put_columns, pF_put_rows, pF_put_cells, pF_put_chosen]
theorem putF_len (f : Str) (v : V) : ∀ fs : List (Str × V), (putF f v fs).length ≤ fs.length + 1
  | [] => Nat.le_refl _
  | (g, x) :: r => by
    unfold putF
    split
    · simp
    · have := putF_len f v r
      simp only [List.length_cons]
      omega
theorem Fs.len {fs : List (Str × V)} (h : Fs fs) : fs.length ≤ 4 := by
  rcases h with rfl | ⟨_, _, _, _, rfl⟩
  · decide
  · exact Nat.le_refl _
def PageAt (C : Addr) (H : Hp) (a : Addr) (p : Ie01.Page) : Prop := ∃ dx lc lm, H a = some (.ins C dx (pF (.int (p.w : Int)) (.int (p.h : Int)) (.ref lc) (.ref lm))) ∧ CellsAt H lc p.all ∧ MarksAt H lm p.cells
theorem PageAt.same {C : Addr} {H H' : Hp} {a : Addr} {p : Ie01.Page} (h : PageAt C H a p) (s : Same H H') : PageAt C H' a p := by
  obtain ⟨dx, lc, lm, h1, h2, h3⟩ := h
  exact ⟨dx, lc, lm, s _ _ h1, h2.same s, s _ _ h3⟩
/-- all but the object at a stays -/
def But (a : Addr) (H H' : Hp) : Prop := ∀ b o, H b = some o → b ≠ a → H' b = some o
theorem But.trans {a : Addr} {H H1 H2 : Hp} (s : But a H H1) (t : But a H1 H2) : But a H H2 := fun b o e n => t b o (s b o e n) n
theorem Same.but {a : Addr} {H H' : Hp} (s : Same H H') : But a H H' := fun b o e _ => s b o e
theorem but_upd {a : Addr} {H : Hp} {o : HO} : But a H (upd H a o) := fun b x e n => by
  rw [upd_ne n]
  exact e
/-- what a class's text tells -/
structure Txt (K : PySem.W.Frag) (mg : Str → Option Value) (C : Addr) : Prop where
  cl : Cls K C
  nC : NoAttr K C "columns"
  nR : NoAttr K C "rows"
  nE : NoAttr K C "cells"
  nH : NoAttr K C "chosen"
  gC : mg "Page" = some (.ref C)
theorem CellsV.snoc {H : Hp} {vs : List V} {cs : List Ie01.Cell} {v : V} {c : Ie01.Cell} (h : CellsV H vs cs) (hc : CellAt H v c) : CellsV H (vs ++ [v]) (cs ++ [c]) := by
  refine ⟨by simp [h.1], fun i d e => ?_⟩
  rcases Nat.lt_trichotomy i cs.length with g | g | g
  · rw [List.getElem?_append_left g] at e
    obtain ⟨u, e1, e2⟩ := h.2 i d e
    exact ⟨u, by rw [List.getElem?_append_left (by rw [h.1]; exact g)]; exact e1, e2⟩
  · subst g
    rw [List.getElem?_append_right (Nat.le_refl _), Nat.sub_self] at e
    cases e
    refine ⟨v, ?_, hc⟩
    rw [List.getElem?_append_right (by rw [h.1]; exact Nat.le_refl _), h.1, Nat.sub_self]
    rfl
  · rw [List.getElem?_eq_none (by simp; omega)] at e
    cases e
section
variable {P : Program} {w : World} {K : PySem.W.Frag} {mg : Str → Option Value} {base : Heap} {C : Addr}
abbrev sInit : Stmt := inClass (top 2) 0
abbrev sLay : Stmt := inClass (top 2) 1
theorem scLay : FnScope ["self", "columns", "rows", "place"] ["self", "columns", "rows"] (defScope sLay) := ⟨rfl, rfl, rfl, by decide +kernel, rfl, by decide +kernel, by decide +kernel⟩
def blank (w h : Nat) : Ie01.Page := Ie01.Page.of w h fun _ => false
def spLay (C : Addr) : Sp := fun vs H Q _ => ∃ (a dx : Addr) (fs : List (Str × V)) (w h : Nat), vs = [.ref a, .int (w : Int), .int (h : Int)] ∧ H a = some (.ins C dx fs) ∧ Fs fs ∧ 1 ≤ w ∧ w ≤ 16 ∧ 1 ≤ h ∧ h ≤ 16 ∧
  ∀ H', PageAt C H' a (blank w h) → But a H H' → Q .non H'
theorem blank_all (w h : Nat) : (blank w h).all = cellsOf w h := rfl
theorem blank_cells (w h : Nat) : (blank w h).cells = List.replicate (w * h) false := by
  unfold blank
  rw [cells_of, List.eq_replicate_iff]
  constructor
  · rw [List.length_map, cellsOf_length]
  · intro b hb
    obtain ⟨c, _, rfl⟩ := List.mem_map.mp hb
    rfl
theorem ok_lay {f : Addr} {fd : FuncData} (F : Fun K "lay" "Page.lay" sLay f fd) (T : Txt K mg C) (mr : mg "range" = none) : FnOk P w K mg base CX0 1 f fd ["self", "columns", "rows"] (spLay C) := by
  refine F.ok scLay (fun vs H Q E h => ?_) (fun cdv A outer s H vs Q E hr h => ?_)
  · obtain ⟨a, dx, fs, w, h, rfl, _⟩ := h
    rfl
  · obtain ⟨a, dx, fs, w, h, rfl, ha, hfs, w1, w2, h1, h2, q⟩ := h
    refine ⟨_, pss_cons (ps_fld (pv 0) (pv 1) rfl) (pss_cons (ps_fld (pv 0) (pv 2) rfl)
      (pss_cons (ps_fld (pv 0) (pe_lc (own := [("place", 3)]) (g := gName 3) rfl scLay.nd (pi_range1 (by rfl) mr (pa_cons (pe_op op_mul (pv 1) (pv 2)) pa_nil))
          (blkOk_by (own := [("place", 3)]) (N := ["self", "columns", "rows", "place"]) (sc := defScope sLay) (by decide +kernel))
          (fun _ _ _ _ _ => pg_name (i := 3) scLay.nd rfl (.inl rfl)) (fun _ _ _ _ _ => pts_nil)
          (fun _ _ _ _ _ => pe_tup (pa_cons (pe_op op_mod (pv 3) (pv 1)) (pa_cons (pe_op op_fdiv (pv 3) (pv 1)) pa_nil)))) rfl)
      (pss_one (ps_fld (pv 0) (pe_op op_rep (pe_lst (pa_cons pe_bl pa_nil)) (pe_op op_mul (pv 1) (pv 2))) rfl)))), ?_⟩
    have hl4 := hfs.len
    have l1 := putF_len "columns" (.int (w : Int)) fs
    have l2 := putF_len "rows" (.int (h : Int)) (putF "columns" (.int (w : Int)) fs)
    have hwh : w * h ≤ 256 := by
      have := Nat.mul_le_mul w2 h2
      omega
    refine ⟨_, rfl, _, rfl, a, C, dx, fs, rfl, ha, T.cl, T.nC, by omega, ?_⟩
    refine ⟨_, rfl, _, rfl, a, C, dx, _, rfl, upd_same, T.cl, T.nR, by omega, ?_⟩
    refine ⟨_, rfl, _, rfl, _, _, rfl, rfl, .inl ⟨by omega, by omega⟩, _, rfl, ?_, ?_, fun D hD => ?_⟩
    · have : (0 : Int) ≤ (w : Int) * (h : Int) := by rw [← Int.natCast_mul]; omega
      omega
    · rw [← Int.natCast_mul]; omega
    have en : ((w : Int) * (h : Int)).toNat = w * h := by rw [← Int.natCast_mul]; rfl
    rw [en]
    generalize hH2 : upd (upd H a (.ins C dx (putF "columns" (.int (w : Int)) fs))) a (.ins C dx (putF "rows" (.int (h : Int)) (putF "columns" (.int (w : Int)) fs))) = H2 at hD ⊢
    have a2 : H2 a = some (.ins C dx (putF "rows" (.int (h : Int)) (putF "columns" (.int (w : Int)) fs))) := by rw [← hH2]; exact upd_same
    have b2 : But a H H2 := by rw [← hH2]; exact but_upd.trans but_upd
    refine lc_range (lo := 0) (n := w * h) (fun i H3 => Same H2 H3 ∧ ∃ vs, H3 D = some (.lst vs) ∧ CellsV H3 vs ((cellsOf w h).take i)) ⟨same_upd hD, [], upd_same, rfl, fun i c e => by simp at e⟩ ?_ ?_
    · rintro i H3 hi ⟨s3, vs, e3, c3⟩
      refine ⟨rfl, ?_⟩
      refine ⟨_, rfl, _, rfl, _, _, rfl, rfl, by show (0 : Int) < (w : Int); omega, _, rfl, _, rfl, _, _, rfl, rfl, ⟨by omega, by omega⟩, by show 2 ≤ sizeLine; decide, fun p hp => ?_⟩
      have hDp : D ≠ p := ne_of_none e3 hp
      have ei : ((0 : Int) + (i : Int)) = (i : Int) := by omega
      refine ⟨vs, by rw [upd_ne hDp]; exact e3, ?_, same_upd' (s3.trans (same_upd hp)) hD, _, upd_same, ?_⟩
      · rw [c3.1, List.length_take, cellsOf_length]
        have : min i (w * h) ≤ 256 := by omega
        exact Nat.lt_of_le_of_lt this (by decide)
      · have hg := cellsOf_get (w := w) (h := h) (i := i) (by omega) hi
        rw [List.take_add_one, hg]
        have sD : Same H3 (upd (upd H3 p (.tup [.int ((0 + (i : Int)) % (w : Int)), .int ((0 + (i : Int)) / (w : Int))])) D (.lst (vs ++ [.ref p]))) → True := fun _ => trivial
        have keep : ∀ v c, CellAt H3 v c → CellAt (upd (upd H3 p (.tup [.int ((0 + (i : Int)) % (w : Int)), .int ((0 + (i : Int)) / (w : Int))])) D (.lst (vs ++ [.ref p]))) v c := by
          rintro v c ⟨b, rfl, hb⟩
          refine ⟨b, rfl, ?_⟩
          have nb : b ≠ D := fun z => by
            rw [z, e3] at hb
            cases hb
          rw [upd_ne nb]
          exact same_upd hp _ _ hb
        have c4 : CellsV (upd (upd H3 p (.tup [.int ((0 + (i : Int)) % (w : Int)), .int ((0 + (i : Int)) / (w : Int))])) D (.lst (vs ++ [.ref p]))) vs ((cellsOf w h).take i) :=
          ⟨c3.1, fun j c e => let ⟨v, e1, e2⟩ := c3.2 j c e; ⟨v, e1, keep v c e2⟩⟩
        refine c4.snoc ⟨p, rfl, ?_⟩
        rw [upd_ne hDp.symm, upd_same, ei]
        unfold cellV
        rw [Int.natCast_emod, Int.natCast_ediv]
    · rintro H3 ⟨s3, vs, e3, c3⟩
      rw [List.take_of_length_le (by rw [cellsOf_length]; exact Nat.le_refl _)] at c3
      have l3 := putF_len "cells" (.ref D) (putF "rows" (.int (h : Int)) (putF "columns" (.int (w : Int)) fs))
      refine ⟨_, rfl, a, C, dx, _, rfl, s3 _ _ a2, T.cl, T.nE, by omega, ?_⟩
      have aD : D ≠ a := (ne_of_none a2 hD).symm
      refine ⟨by show 1 ≤ sizeLine; decide, fun l nl => ?_⟩
      refine ⟨_, rfl, _, rfl, _, _, rfl, rfl, .inl ⟨by omega, by omega⟩, l, _, [.bl false], rfl, rfl, upd_same, ?_, ?_, ?_, fun m nm => ?_⟩
      · rw [← Int.natCast_mul]; omega
      · rw [← Int.natCast_mul]; omega
      · rw [en]
        have : [V.bl false].length * (w * h) ≤ 256 := by simpa using hwh
        exact Nat.le_trans this (by decide)
      refine ⟨_, rfl, a, C, dx, putF "cells" (.ref D) (putF "rows" (.int (h : Int)) (putF "columns" (.int (w : Int)) fs)), rfl, ?_, T.cl, T.nH, by omega, ?_⟩
      · have e1 : a ≠ m := fun z => by
          rw [← z] at nm
          by_cases zl : a = l
          · rw [← zl, upd_same] at nl; cases nl
          · rw [upd_ne zl, upd_same] at nm; cases nm
        have e2 : a ≠ l := fun z => by rw [← z, upd_same] at nl; cases nl
        rw [upd_ne e1, upd_ne e2]
        exact upd_same
      · rw [hfs.all, en]
        have nla : l ≠ a := fun z => by rw [z, upd_same] at nl; cases nl
        have nl3 : H3 l = none := by rw [upd_ne nla] at nl; exact nl
        have nma : m ≠ a := fun z => by
          rw [z, upd_ne nla.symm, upd_same] at nm; cases nm
        have nml : m ≠ l := fun z => by rw [z, upd_same] at nm; cases nm
        have nm3 : H3 m = none := by rw [upd_ne nml, upd_ne nma] at nm; exact nm
        have keep : ∀ b o, H3 b = some o → b ≠ a → (upd (upd (upd (upd H3 a (.ins C dx (putF "cells" (.ref D) (putF "rows" (.int (h : Int)) (putF "columns" (.int (w : Int)) fs))))) l (.lst [.bl false])) m (.lst (List.replicate (w * h) [V.bl false]).flatten)) a (.ins C dx (pF (.int (w : Int)) (.int (h : Int)) (.ref D) (.ref m)))) b = some o := by
          intro b o e n
          rw [upd_ne n, upd_ne (ne_of_none e nm3), upd_ne (ne_of_none e nl3), upd_ne n]
          exact e
        refine q _ ⟨dx, D, m, upd_same, ⟨vs, keep _ _ e3 aD, c3.1, fun j c e => ?_⟩, ?_⟩ ?_
        · obtain ⟨v, e1, b, rfl, hb⟩ := c3.2 j c e
          refine ⟨_, e1, b, rfl, keep _ _ hb fun z => ?_⟩
          rw [z, s3 _ _ a2] at hb
          cases hb
        · unfold MarksAt
          rw [upd_ne nma, upd_same, blank_cells, List.map_replicate]
          congr 2
          generalize w * h = n
          induction n with
          | zero => rfl
          | succ n ih => rw [List.replicate_succ, List.flatten_cons, ih]; rfl
        · intro b o e n
          exact keep b o (s3 b o (b2 b o e n)) n
theorem scInit : FnScope ["self"] ["self"] (defScope sInit) := ⟨rfl, rfl, rfl, by decide +kernel, rfl, by decide +kernel, by decide +kernel⟩
def spInit (C : Addr) : Sp := fun vs H Q _ => ∃ (a dx : Addr), vs = [.ref a] ∧ H a = some (.ins C dx []) ∧ ∀ H', PageAt C H' a Ie01.init → But a H H' → Q .non H'
theorem blank1 : blank 1 1 = Ie01.init := rfl
theorem ok_init {f : Addr} {fd : FuncData} (F : Fun K "__init__" "Page.__init__" sInit f fd) (cL : C8.Met P w K mg base 1 C "lay" (spLay C) []) : FnOk P w K mg base CX0 2 f fd ["self"] (spInit C) := by
  refine F.ok scInit (fun vs H Q E h => ?_) (fun cdv A outer s H vs Q E hr h => ?_)
  · obtain ⟨a, dx, rfl, _⟩ := h
    rfl
  · obtain ⟨a, dx, rfl, ha, q⟩ := h
    refine ⟨_, pss_one (ps_expr (C8.pe_mt cL hr (by decide) (pv 0) (pa_cons pe_int (pa_cons pe_int pa_nil)))), ?_⟩
    refine ⟨_, rfl, a, dx, [], rfl, ha, rfl, a, dx, [], 1, 1, rfl, ha, .inl rfl, by decide, by decide, by decide, by decide, fun H' hp hb => ?_⟩
    rw [blank1] at hp
    exact q H' hp hb
end
end SE
set_option maxRecDepth 100000
set_option maxHeartbeats 2000000
namespace SE
open PySem PySem.Spec PyProof.Rows L2
theorem overM_len (ms : List Bool) : (overM ms).length = ms.length := List.length_map _
theorem grownM_len {cs : List Ie01.Cell} {ms : List Bool} {r : Nat} (h : cs.length = ms.length) : (grownM cs ms r).length = cs.length := by
  unfold grownM
  rw [List.length_map, List.length_zip]
  omega
theorem shrunkM_len {cs : List Ie01.Cell} {ms : List Bool} {r : Nat} (h : cs.length = ms.length) : (shrunkM cs ms r).length = cs.length := by
  unfold shrunkM
  rw [overM_len, grownM_len (by rw [overM_len]; exact h)]
section
variable {P : Program} {w : World} {K : PySem.W.Frag} {mg : Str → Option Value} {base : Heap} {C : Addr}
/-! ### shrunk -/
abbrev sShrunk : Stmt := top 15
theorem scShrunk : FnScope ["cells", "marks", "r"] ["cells", "marks", "r"] (defScope sShrunk) := ⟨rfl, rfl, rfl, by decide +kernel, rfl, by decide +kernel, by decide +kernel⟩
def spShrunk : Sp := fun vs H Q _ => ∃ (a b : Addr) (cs : List Ie01.Cell) (ms : List Bool) (r : Nat), vs = [.ref a, .ref b, .int (r : Int)] ∧ CellsAt H a cs ∧ MarksAt H b ms ∧ cs.length = ms.length ∧ cs.length ≤ 300 ∧ (∀ d ∈ cs, Small d) ∧
  ∀ H' p, Same H H' → H p = none → MarksAt H' p (shrunkM cs ms r) → Q (.ref p) H'
theorem ok_shrunk {f : Addr} {fd : FuncData} (F : Fun K "shrunk" "shrunk" sShrunk f fd) (cO : C8.Cal P w K mg base 1 "turned_over" spOver []) (cG : C8.Cal P w K mg base 3 "grown" spGrown []) : FnOk P w K mg base CX0 4 f fd ["cells", "marks", "r"] spShrunk := by
  refine F.ok scShrunk (fun vs H Q E h => ?_) (fun cdv A outer s H vs Q E hr h => ?_)
  · obtain ⟨a, b, cs, ms, r, rfl, _⟩ := h
    rfl
  · obtain ⟨a, b, cs, ms, r, rfl, hA, hm, hl, h300, hsm, q⟩ := h
    refine ⟨_, pss_one (ps_ret (C8.pe_c cO hr (by decide) (by rfl) (pa_cons (C8.pe_c cG hr (by decide) (by rfl) (pa_cons (pv 0) (pa_cons (C8.pe_c cO hr (by decide) (by rfl) (pa_cons (pv 1) pa_nil)) (pa_cons (pv 2) pa_nil)))) pa_nil))), ?_⟩
    refine ⟨_, rfl, _, rfl, b, ms, rfl, hm, by omega, fun H1 p1 s1 n1 e1 => ?_⟩
    refine ⟨_, rfl, a, p1, cs, overM ms, r, rfl, hA.same s1, e1, by rw [overM_len]; exact hl, h300, hsm, fun H2 p2 s2 n2 e2 => ?_⟩
    refine ⟨p2, _, rfl, e2, by rw [grownM_len (by rw [overM_len]; exact hl)]; exact h300, fun H3 p3 s3 n3 e3 => ?_⟩
    exact q _ _ ((s1.trans s2).trans s3) ((s1.trans s2).free n3) e3
/-! ### outside_apart -/
abbrev sOut : Stmt := top 16
theorem scOut : FnScope ["page", "cell", "steps"] ["page", "cell"] (defScope sOut) := ⟨rfl, rfl, rfl, by decide +kernel, rfl, by decide +kernel, by decide +kernel⟩
def spOut (C : Addr) : Sp := fun vs H Q _ => ∃ (a dx : Addr) (w h : Nat) (u v : V) (cv : V) (c : Ie01.Cell), vs = [.ref a, cv] ∧ H a = some (.ins C dx (pF (.int (w : Int)) (.int (h : Int)) u v)) ∧ CellAt H cv c ∧ c.1 < w ∧ c.2 < h ∧ w ≤ 16 ∧ h ≤ 16 ∧
  Q (.int ((outM w h c * outM w h c : Nat) : Int)) H
theorem ok_out {f : Addr} {fd : FuncData} (F : Fun K "outside_apart" "outside_apart" sOut f fd) (T : Txt K mg C) (mm : mg "min" = none) : FnOk P w K mg base CX0 1 f fd ["page", "cell"] (spOut C) := by
  refine F.ok scOut (fun vs H Q E h => ?_) (fun cdv A outer s H vs Q E hr h => ?_)
  · obtain ⟨a, dx, w, h, u, v, cv, c, rfl, _⟩ := h
    rfl
  · obtain ⟨a, dx, w, h, u, v, cv, c, rfl, ha, ⟨b, rfl, hb⟩, h1, h2, w16, h16, q⟩ := h
    refine ⟨_, pss_cons (ps_set (i := 2) scOut.nd rfl (.inl rfl) (pe_callB (call_min4 rfl) (by rfl) mm (by decide +kernel)
        (pa_cons (pe_op op_add (pe_ix ix_tup (pv 1) pe_int (fun _ _ => rfl)) pe_int) (pa_cons (pe_op op_sub (pe_fld (pv 0) rfl) (pe_ix ix_tup (pv 1) pe_int (fun _ _ => rfl)))
        (pa_cons (pe_op op_add (pe_ix ix_tup (pv 1) pe_int (fun _ _ => rfl)) pe_int) (pa_cons (pe_op op_sub (pe_fld (pv 0) rfl) (pe_ix ix_tup (pv 1) pe_int (fun _ _ => rfl))) pa_nil))))))
      (pss_one (ps_ret (pe_op op_mul (pv 2) (pv 2)))), ?_⟩
    refine ⟨_, rfl, b, _, _, _, rfl, rfl, SqT.of hb, atI_nat (j := 0) rfl, _, _, rfl, rfl, ?_⟩
    refine ⟨_, rfl, a, C, dx, _, _, rfl, ha, T.cl, T.nC, pF_columns _ _ _ _, _, rfl, b, _, _, _, rfl, rfl, SqT.of hb, atI_nat (j := 0) rfl, _, _, rfl, rfl, ?_⟩
    refine ⟨_, rfl, b, _, _, _, rfl, rfl, SqT.of hb, atI_nat (j := 1) rfl, _, _, rfl, rfl, ?_⟩
    refine ⟨_, rfl, a, C, dx, _, _, rfl, ha, T.cl, T.nR, pF_rows _ _ _ _, _, rfl, b, _, _, _, rfl, rfl, SqT.of hb, atI_nat (j := 1) rfl, _, _, rfl, rfl, ?_⟩
    have e : min (min ((c.1 : Int) + 1) ((w : Int) - (c.1 : Int))) (min ((c.2 : Int) + 1) ((h : Int) - (c.2 : Int))) = ((outM w h c : Nat) : Int) := by
      unfold outM
      omega
    have hle : outM w h c ≤ 17 := by
      unfold outM
      omega
    refine ⟨_, _, _, _, rfl, ?_⟩
    rw [e]
    refine ⟨_, rfl, _, rfl, _, _, rfl, rfl, .inl ⟨by omega, by omega⟩, ?_⟩
    dsimp only
    rw [← Int.natCast_mul]
    exact q
/-! ### shrunk_from_outside -/
abbrev sSfo : Stmt := top 17
theorem scSfo : FnScope ["page", "marks", "r", "cell", "mark"] ["page", "marks", "r"] (defScope sSfo) := ⟨rfl, rfl, rfl, by decide +kernel, rfl, by decide +kernel, by decide +kernel⟩
def spSfo (C : Addr) : Sp := fun vs H Q _ => ∃ (a b : Addr) (p : Ie01.Page) (ms : List Bool) (r : Nat), vs = [.ref a, .ref b, .int (r : Int)] ∧ PageAt C H a p ∧ Ok p ∧ MarksAt H b ms ∧ p.all.length = ms.length ∧
  ∀ H' l, Same H H' → H l = none → MarksAt H' l (shrunkOutM p.w p.h p.all ms r) → Q (.ref l) H'
theorem Ok.len_all {p : Ie01.Page} (o : Ok p) : p.all.length = p.cells.length := by rw [all_eq, cellsOf_length, o.len]
theorem Ok.all_le {p : Ie01.Page} (o : Ok p) : p.all.length ≤ 256 := by rw [o.len_all, o.len]; exact o.small
theorem Ok.all_small {p : Ie01.Page} (o : Ok p) : ∀ d ∈ p.all, Small d := by
  intro d hd
  obtain ⟨h1, h2⟩ := mem_all.mp hd
  have := o.w2
  have := o.h2
  exact ⟨by omega, by omega⟩
theorem ok_sfo {f : Addr} {fd : FuncData} (F : Fun K "shrunk_from_outside" "shrunk_from_outside" sSfo f fd) (T : Txt K mg C) (mz : mg "zip" = none) (cO : C8.Cal P w K mg base 1 "outside_apart" (spOut C) []) : FnOk P w K mg base CX0 2 f fd ["page", "marks", "r"] (spSfo C) := by
  refine F.ok scSfo (fun vs H Q E h => ?_) (fun cdv A outer s H vs Q E hr h => ?_)
  · obtain ⟨a, b, p, ms, r, rfl, _⟩ := h
    rfl
  · obtain ⟨a, b, p, ms, r, rfl, ⟨dx, lc, lm, ha, ⟨xs, hx, hc⟩, _⟩, o, hm, hl, q⟩ := h
    refine ⟨_, pss_one (ps_ret (pe_lc (own := [("cell", 3), ("mark", 4)]) (g := gTup K 2 (gCons (gName 3) (gCons (gName 4) gNil))) rfl scSfo.nd (pi_zip (by rfl) mz (pa_cons (pe_fld (pv 0) rfl) (pa_cons (pv 1) pa_nil)))
      (blkOk_by (own := [("cell", 3), ("mark", 4)]) (N := ["page", "marks", "r", "cell", "mark"]) (sc := defScope sSfo) (by decide +kernel))
      (fun _ _ _ _ _ => pg_tup rfl (pgs_cons (pg_name (i := 3) scSfo.nd rfl (.inl rfl)) (pgs_cons (pg_name (i := 4) scSfo.nd rfl (.inl rfl)) pgs_nil)))
      (fun _ _ _ _ _ => pts_nil) (fun _ _ _ _ _ => pe_and (pv 4) (pe_one (pe_cmpR op_gt (C8.pe_c cO hr (by decide) (by rfl) (pa_cons (pv 0) (pa_cons (pv 3) pa_nil))) (pv 2) (nomark _)))))), ?_⟩
    refine ⟨_, rfl, a, C, dx, _, _, rfl, ha, T.cl, T.nE, pF_cells _ _ _ _, _, rfl, lc, b, xs, ms.map V.bl, rfl, SqL.of hx, SqL.of hm, fun D hD => ?_⟩
    have hall := o.all_le
    have hxl : (p.all.zip ms).length = p.all.length := by
      rw [List.length_zip]
      omega
    refine lc_same (walk_zip (K := K) (xs := xs) (ys := ms.map V.bl) (n := (p.all.zip ms).length) (by rw [hxl, List.length_map, hc.1]; omega)) (fun i => ((p.all.zip ms)[i]?).map fun q => V.bl (q.2 && decide (r < outM p.w p.h q.1 * outM p.w p.h q.1))) (by rw [hxl]; omega) hD (fun H s => ⟨s.seq (SqL.of hx), s.seq (SqL.of hm)⟩) ypair_same ?_ ?_
    · rintro i x H2 H3 N hi s2 ⟨T', x1, y1, rfl, nT, rfl, e1, e2⟩ hN
      obtain ⟨m, em, rfl⟩ := marks_get e2
      obtain ⟨c, ec, hcell⟩ := hc.get e1
      have ez : (p.all.zip ms)[i]? = some (c, m) := by
        rw [List.getElem?_zip_eq_some]
        exact ⟨ec, em⟩
      simp only [ez, Option.map_some] at hN
      have s3 : Same H (upd H2 T' (.tup [x1, .bl m])) := s2.trans (same_upd nT)
      refine ⟨T', _, rfl, SqT.of upd_same, rfl, x1, _, rfl, .bl m, _, rfl, rfl, rfl, ?_⟩
      refine ⟨_, rfl, m, rfl, ?_⟩
      cases m
      · exact iteF (hN _ (Same.refl _))
      · obtain ⟨c1, c2⟩ := mem_all.mp (List.mem_of_getElem? ec)
        refine iteT ?_
        refine ⟨_, rfl, _, rfl, a, dx, p.w, p.h, _, _, x1, c, rfl, s3 _ _ ha, hcell.same s3, c1, c2, o.w2, o.h2, ?_⟩
        refine ⟨_, rfl, _, _, rfl, rfl, ?_⟩
        have e : decide ((r : Int) < ((outM p.w p.h c * outM p.w p.h c : Nat) : Int)) = decide (r < outM p.w p.h c * outM p.w p.h c) := by
          rw [decide_eq_decide]
          omega
        dsimp only
        rw [e]
        exact hN _ (Same.refl _)
    · intro H2 s2 eD
      refine q _ _ s2 hD ?_
      rw [outs_map] at eD
      unfold MarksAt shrunkOutM
      rw [eD, List.map_map]
      rfl
/-! ### ring_marks -/
abbrev sRing : Stmt := top 18
theorem scRing : FnScope ["cells", "marks", "r", "was", "now"] ["cells", "marks", "r"] (defScope sRing) := ⟨rfl, rfl, rfl, by decide +kernel, rfl, by decide +kernel, by decide +kernel⟩
def spRing : Sp := fun vs H Q _ => ∃ (a b : Addr) (cs : List Ie01.Cell) (ms : List Bool) (r : Nat), vs = [.ref a, .ref b, .int (r : Int)] ∧ CellsAt H a cs ∧ MarksAt H b ms ∧ cs.length = ms.length ∧ cs.length ≤ 300 ∧ (∀ d ∈ cs, Small d) ∧
  ∀ H' p, Same H H' → H p = none → MarksAt H' p (ringM cs ms r) → Q (.ref p) H'
theorem ok_ring {f : Addr} {fd : FuncData} (F : Fun K "ring_marks" "ring_marks" sRing f fd) (mz : mg "zip" = none) (cG : C8.Cal P w K mg base 3 "grown" spGrown []) : FnOk P w K mg base CX0 4 f fd ["cells", "marks", "r"] spRing := by
  refine F.ok scRing (fun vs H Q E h => ?_) (fun cdv A outer s H vs Q E hr h => ?_)
  · obtain ⟨a, b, cs, ms, r, rfl, _⟩ := h
    rfl
  · obtain ⟨a, b, cs, ms, r, rfl, hA, hm, hl, h300, hsm, q⟩ := h
    refine ⟨_, pss_one (ps_ret (pe_lc (own := [("was", 3), ("now", 4)]) (g := gTup K 2 (gCons (gName 3) (gCons (gName 4) gNil))) rfl scRing.nd (pi_zip (by rfl) mz (pa_cons (pv 1) (pa_cons (C8.pe_c cG hr (by decide) (by rfl) (pa_cons (pv 0) (pa_cons (pv 1) (pa_cons (pv 2) pa_nil)))) pa_nil)))
      (blkOk_by (own := [("was", 3), ("now", 4)]) (N := ["cells", "marks", "r", "was", "now"]) (sc := defScope sRing) (by decide +kernel))
      (fun _ _ _ _ _ => pg_tup rfl (pgs_cons (pg_name (i := 3) scRing.nd rfl (.inl rfl)) (pgs_cons (pg_name (i := 4) scRing.nd rfl (.inl rfl)) pgs_nil)))
      (fun _ _ _ _ _ => pts_nil) (fun _ _ _ _ _ => pe_and (pv 4) (pe_one (pe_not (pv 3)))))), ?_⟩
    refine ⟨_, rfl, _, rfl, _, rfl, _, rfl, a, b, cs, ms, r, rfl, hA, hm, hl, h300, hsm, fun H1 p1 s1 n1 e1 => ?_⟩
    have hm1 : H1 b = some (.lst (ms.map V.bl)) := s1 _ _ hm
    refine ⟨b, p1, ms.map V.bl, (grownM cs ms r).map V.bl, rfl, SqL.of hm1, SqL.of e1, fun D hD => ?_⟩
    have hgl := grownM_len (r := r) hl
    have hxl : (ms.zip (grownM cs ms r)).length = ms.length := by
      rw [List.length_zip]
      omega
    refine lc_same (walk_zip (K := K) (xs := ms.map V.bl) (ys := (grownM cs ms r).map V.bl) (n := (ms.zip (grownM cs ms r)).length) (by rw [hxl, List.length_map, List.length_map]; omega)) (fun i => ((ms.zip (grownM cs ms r))[i]?).map fun q => V.bl (q.2 && !q.1)) (by rw [hxl]; omega) hD (fun H s => ⟨s.seq (SqL.of hm1), s.seq (SqL.of e1)⟩) ypair_same ?_ ?_
    · rintro i x H2 H3 N hi s2 ⟨T', x1, y1, rfl, nT, rfl, f1, f2⟩ hN
      obtain ⟨m, em, rfl⟩ := marks_get f1
      obtain ⟨n, eg, rfl⟩ := marks_get f2
      have ez : (ms.zip (grownM cs ms r))[i]? = some (m, n) := by
        rw [List.getElem?_zip_eq_some]
        exact ⟨em, eg⟩
      simp only [ez, Option.map_some] at hN
      refine ⟨T', _, rfl, SqT.of upd_same, rfl, _, _, rfl, _, _, rfl, rfl, rfl, ?_⟩
      refine ⟨_, rfl, n, rfl, ?_⟩
      cases n
      · exact iteF (hN _ (Same.refl _))
      · exact iteT ⟨_, rfl, m, rfl, hN _ (Same.refl _)⟩
    · intro H2 s2 eD
      refine q _ _ (s1.trans s2) (s1.free hD) ?_
      rw [outs_map] at eD
      unfold MarksAt ringM
      rw [eD, List.map_map]
      rfl
end
end SE
set_option maxRecDepth 100000
set_option maxHeartbeats 2000000
namespace SE
open PySem PySem.Spec PyProof.Rows L2
section
variable {P : Program} {w : World} {K : PySem.W.Frag} {mg : Str → Option Value} {base : Heap} {C : Addr}
/-! ### box_marks -/
abbrev sBox : Stmt := top 37
theorem scBox : FnScope ["cells", "x", "y", "u", "v", "cell"] ["cells", "x", "y", "u", "v"] (defScope sBox) := ⟨rfl, rfl, rfl, by decide +kernel, rfl, by decide +kernel, by decide +kernel⟩
def boxM (x y u v : Nat) (c : Ie01.Cell) : Bool := decide (x ≤ c.1) && (decide (c.1 < x + u) && (decide (y ≤ c.2) && decide (c.2 < y + v)))
def spBox : Sp := fun vs H Q _ => ∃ (a : Addr) (cs : List Ie01.Cell) (x y u v : Nat), vs = [.ref a, .int (x : Int), .int (y : Int), .int (u : Int), .int (v : Int)] ∧ CellsAt H a cs ∧ cs.length ≤ 300 ∧
  ∀ H' p, Same H H' → H p = none → MarksAt H' p (cs.map (boxM x y u v)) → Q (.ref p) H'
theorem ok_box {f : Addr} {fd : FuncData} (F : Fun K "box_marks" "box_marks" sBox f fd) : FnOk P w K mg base CX0 1 f fd ["cells", "x", "y", "u", "v"] spBox := by
  refine F.ok scBox (fun vs H Q E h => ?_) (fun cdv A outer s H vs Q E hr h => ?_)
  · obtain ⟨a, cs, x, y, u, v, rfl, _⟩ := h
    rfl
  · obtain ⟨a, cs, x, y, u, v, rfl, ⟨xs, hx, hc⟩, h300, q⟩ := h
    refine ⟨_, pss_one (ps_ret (pe_lc (own := [("cell", 5)]) (g := gName 5) rfl scBox.nd (pi_list (pv 0))
      (blkOk_by (own := [("cell", 5)]) (N := ["cells", "x", "y", "u", "v", "cell"]) (sc := defScope sBox) (by decide +kernel))
      (fun _ _ _ _ _ => pg_name (i := 5) scBox.nd rfl (.inl rfl)) (fun _ _ _ _ _ => pts_nil)
      (fun _ _ _ _ _ => pe_and (pe_chain op_le op_lt (pv 1) (pe_ix (r := rIxT K) ix_tup (pv 5) pe_int (fun _ _ => rfl)) (pe_op op_add (pv 1) (pv 3)))
        (pe_one (pe_chain op_le op_lt (pv 2) (pe_ix (r := rIxT K) ix_tup (pv 5) pe_int (fun _ _ => rfl)) (pe_op op_add (pv 2) (pv 4))))))), ?_⟩
    refine ⟨_, rfl, a, rfl, ⟨_, SqL.of hx⟩, fun D hD => ?_⟩
    rw [← hc.1] at h300
    refine lc_same (walk_list (K := K) (xs := xs)) (fun i => (cs[i]?).map fun c => V.bl (boxM x y u v c)) (by omega) hD (fun H s => s.seq (SqL.of hx)) yat_same ?_ ?_
    · rintro i z H1 H2 N hi s1 ⟨rfl, e2⟩ hN
      obtain ⟨c, ec, b, rfl, hb⟩ := hc.get e2
      simp only [ec, Option.map_some] at hN
      have hb1 := s1 _ _ hb
      unfold boxM at hN
      refine ⟨rfl, _, rfl, _, rfl, b, _, _, _, rfl, rfl, SqT.of hb1, atI_nat (j := 0) rfl, _, _, rfl, rfl, _, rfl, ?_⟩
      refine ite2 (fun g1 => ?_) (fun g1 => ?_)
      · have g1' : x ≤ c.1 := by have := of_decide_eq_true g1; omega
        refine ⟨_, rfl, _, rfl, _, _, rfl, rfl, _, _, rfl, rfl, _, rfl, ?_⟩
        refine ite2 (fun g2 => ?_) (fun g2 => ?_)
        · have g2' : c.1 < x + u := by have := of_decide_eq_true g2; omega
          refine ⟨_, rfl, _, rfl, b, _, _, _, rfl, rfl, SqT.of hb1, atI_nat (j := 1) rfl, _, _, rfl, rfl, _, rfl, ?_⟩
          refine ite2 (fun g3 => ?_) (fun g3 => ?_)
          · have g3' : y ≤ c.2 := by have := of_decide_eq_true g3; omega
            refine ⟨_, rfl, _, rfl, _, _, rfl, rfl, _, _, rfl, rfl, ?_⟩
            have e4 : decide ((c.2 : Int) < (y : Int) + (v : Int)) = decide (c.2 < y + v) := by
              rw [decide_eq_decide]; omega
            dsimp only
            rw [e4]
            rw [decide_eq_true g1', decide_eq_true g2', decide_eq_true g3'] at hN
            exact hN _ (Same.refl _)
          · have g3' : ¬ y ≤ c.2 := fun z => g3 (decide_eq_true (by omega))
            rw [decide_eq_true g1', decide_eq_true g2', decide_eq_false g3'] at hN
            exact hN _ (Same.refl _)
        · have g2' : ¬ c.1 < x + u := fun z => g2 (decide_eq_true (by omega))
          rw [decide_eq_true g1', decide_eq_false g2'] at hN
          exact hN _ (Same.refl _)
      · have g1' : ¬ x ≤ c.1 := fun z => g1 (decide_eq_true (by omega))
        rw [decide_eq_false g1'] at hN
        exact ⟨_, rfl, iteF (hN _ (Same.refl _))⟩
    · intro H1 s1 eD
      refine q _ _ s1 hD ?_
      rw [hc.1, outs_map] at eD
      unfold MarksAt
      rw [eD, List.map_map]
      rfl
/-! ### disk_marks -/
abbrev sDisk : Stmt := top 38
theorem scDisk : FnScope ["cells", "x", "y", "r", "middle", "cell"] ["cells", "x", "y", "r"] (defScope sDisk) := ⟨rfl, rfl, rfl, by decide +kernel, rfl, by decide +kernel, by decide +kernel⟩
def spDisk : Sp := fun vs H Q _ => ∃ (a : Addr) (cs : List Ie01.Cell) (x y r : Nat), vs = [.ref a, .int (x : Int), .int (y : Int), .int (r : Int)] ∧ CellsAt H a cs ∧ cs.length ≤ 300 ∧ (∀ c ∈ cs, Small c) ∧ x < 2 ^ 32 ∧ y < 2 ^ 32 ∧
  ∀ H' p, Same H H' → H p = none → MarksAt H' p (cs.map fun c => decide (Ie01.far c (x, y) ≤ r)) → Q (.ref p) H'
theorem ok_disk {f : Addr} {fd : FuncData} (F : Fun K "disk_marks" "disk_marks" sDisk f fd) (cA : C8.Cal P w K mg base 1 "apart" spApart []) : FnOk P w K mg base CX0 2 f fd ["cells", "x", "y", "r"] spDisk := by
  refine F.ok scDisk (fun vs H Q E h => ?_) (fun cdv A outer s H vs Q E hr h => ?_)
  · obtain ⟨a, cs, x, y, r, rfl, _⟩ := h
    rfl
  · obtain ⟨a, cs, x, y, r, rfl, ⟨xs, hx, hc⟩, h300, hsm, x32, y32, q⟩ := h
    refine ⟨_, pss_cons (ps_set (i := 4) scDisk.nd rfl (.inr rfl) (pe_tup (pa_cons (pv 1) (pa_cons (pv 2) pa_nil))))
      (pss_one (ps_ret (pe_lc (own := [("cell", 5)]) (g := gName 5) rfl scDisk.nd (pi_list (pv 0))
      (blkOk_by (own := [("cell", 5)]) (N := ["cells", "x", "y", "r", "middle", "cell"]) (sc := defScope sDisk) (by decide +kernel))
      (fun _ _ _ _ _ => pg_name (i := 5) scDisk.nd rfl (.inl rfl)) (fun _ _ _ _ _ => pts_nil)
      (fun _ _ _ _ _ => pe_cmpR op_le (C8.pe_c cA hr (by decide) (by rfl) (pa_cons (pv 5) (pa_cons (pv 4) pa_nil))) (pv 3) (nomark _))))), ?_⟩
    refine ⟨_, rfl, _, rfl, by show 2 ≤ sizeLine; decide, fun t ht => ?_⟩
    have st : Same H (upd H t (.tup [.int (x : Int), .int (y : Int)])) := same_upd ht
    have hx1 := st _ _ hx
    refine ⟨_, rfl, a, rfl, ⟨_, SqL.of hx1⟩, fun D hD => ?_⟩
    rw [← hc.1] at h300
    refine lc_same (walk_list (K := K) (xs := xs)) (fun i => (cs[i]?).map fun c => V.bl (decide (Ie01.far c (x, y) ≤ r))) (by omega) hD (fun H s => s.seq (SqL.of hx1)) yat_same ?_ ?_
    · rintro i z H1 H2 N hi s1 ⟨rfl, e2⟩ hN
      obtain ⟨c, ec, b, rfl, hb⟩ := hc.get e2
      simp only [ec, Option.map_some] at hN
      refine ⟨rfl, _, rfl, _, rfl, b, t, ic c, ic (x, y), rfl, s1 _ _ (st _ _ hb), s1 _ _ upd_same, (hsm c (List.mem_of_getElem? ec)).mid, Small.mid ⟨by show x < _; omega, by show y < _; omega⟩, ?_⟩
      rw [far_apart]
      refine ⟨_, rfl, _, _, rfl, rfl, ?_⟩
      have e : decide (((Ie01.far c (x, y) : Nat) : Int) ≤ (r : Int)) = decide (Ie01.far c (x, y) ≤ r) := by
        rw [decide_eq_decide]; omega
      dsimp only
      rw [e]
      exact hN _ (Same.refl _)
    · intro H1 s1 eD
      refine q _ _ (st.trans s1) (st.free hD) ?_
      rw [hc.1, outs_map] at eD
      unfold MarksAt
      rw [eD, List.map_map]
      rfl
/-! ### is_chosen_then -/
abbrev sThen : Stmt := top 39
theorem scThen : FnScope ["was", "covered", "how"] ["was", "covered", "how"] (defScope sThen) := ⟨rfl, rfl, rfl, by decide +kernel, rfl, by decide +kernel, by decide +kernel⟩
def spThen : Sp := fun vs H Q _ => ∃ (m n : Bool) (how : Nat), vs = [.bl m, .bl n, .int (how : Int)] ∧ how ≤ 4 ∧ Q (.bl (Ie01.mix how m n)) H
theorem ok_then {f : Addr} {fd : FuncData} (F : Fun K "is_chosen_then" "is_chosen_then" sThen f fd) : FnOk P w K mg base CX0 1 f fd ["was", "covered", "how"] spThen := by
  refine F.ok scThen (fun vs H Q E h => ?_) (fun cdv A outer s H vs Q E hr h => ?_)
  · obtain ⟨m, n, how, rfl, _⟩ := h
    rfl
  · obtain ⟨m, n, how, rfl, h4, q⟩ := h
    refine ⟨_, pss_cons (ps_if (pt_cmpR op_eq (pv 2) pe_int (nomark _)) (pss_one (ps_ret (pv 1))) pss_nil)
      (pss_cons (ps_if (pt_cmpR op_eq (pv 2) pe_int (nomark _)) (pss_one (ps_ret (pe_or (pv 0) (pe_one (pv 1))))) pss_nil)
      (pss_cons (ps_if (pt_cmpR op_eq (pv 2) pe_int (nomark _)) (pss_one (ps_ret (pe_and (pv 0) (pe_one (pe_not (pv 1)))))) pss_nil)
      (pss_cons (ps_if (pt_cmpR op_eq (pv 2) pe_int (nomark _)) (pss_one (ps_ret (pe_and (pv 0) (pe_one (pv 1))))) pss_nil)
      (pss_one (ps_ret (pe_cmpR op_ne (pv 0) (pv 1) (nomark _))))))), ?_⟩
    refine ⟨_, rfl, rfl, _, rfl, ite2 (fun z0 => ?_) (fun z0 => ?_)⟩
    · have e : how = 0 := by
        have := V.int.inj (of_decide_eq_true z0)
        omega
      subst e
      exact ⟨_, rfl, q⟩
    have n0 : how ≠ 0 := fun e => z0 (decide_eq_true (by rw [e]; rfl))
    refine ⟨_, rfl, rfl, _, rfl, ite2 (fun z1 => ?_) (fun z1 => ?_)⟩
    · have e : how = 1 := by
        have := V.int.inj (of_decide_eq_true z1)
        omega
      subst e
      refine ⟨_, rfl, m, rfl, ?_⟩
      cases m
      · exact iteF ⟨_, rfl, q⟩
      · exact iteT q
    have n1 : how ≠ 1 := fun e => z1 (decide_eq_true (by rw [e]; rfl))
    refine ⟨_, rfl, rfl, _, rfl, ite2 (fun z2 => ?_) (fun z2 => ?_)⟩
    · have e : how = 2 := by
        have := V.int.inj (of_decide_eq_true z2)
        omega
      subst e
      refine ⟨_, rfl, m, rfl, ?_⟩
      cases m
      · exact iteF q
      · exact iteT ⟨_, rfl, n, rfl, q⟩
    have n2 : how ≠ 2 := fun e => z2 (decide_eq_true (by rw [e]; rfl))
    refine ⟨_, rfl, rfl, _, rfl, ite2 (fun z3 => ?_) (fun z3 => ?_)⟩
    · have e : how = 3 := by
        have := V.int.inj (of_decide_eq_true z3)
        omega
      subst e
      refine ⟨_, rfl, m, rfl, ?_⟩
      cases m
      · exact iteF q
      · exact iteT ⟨_, rfl, q⟩
    have n3 : how ≠ 3 := fun e => z3 (decide_eq_true (by rw [e]; rfl))
    have e : how = 4 := by omega
    subst e
    refine ⟨_, rfl, _, rfl, rfl, ?_⟩
    cases m <;> cases n <;> exact q
/-! ### joined -/
abbrev sJoined : Stmt := top 40
theorem scJoined : FnScope ["chosen", "new", "how", "was", "covered"] ["chosen", "new", "how"] (defScope sJoined) := ⟨rfl, rfl, rfl, by decide +kernel, rfl, by decide +kernel, by decide +kernel⟩
def spJoined : Sp := fun vs H Q _ => ∃ (a b : Addr) (ms ns : List Bool) (how : Nat), vs = [.ref a, .ref b, .int (how : Int)] ∧ MarksAt H a ms ∧ MarksAt H b ns ∧ ms.length = ns.length ∧ ms.length ≤ 300 ∧ how ≤ 4 ∧
  ∀ H' p, Same H H' → H p = none → MarksAt H' p (joinedM ms ns how) → Q (.ref p) H'
theorem ok_joined {f : Addr} {fd : FuncData} (F : Fun K "joined" "joined" sJoined f fd) (mz : mg "zip" = none) (cT : C8.Cal P w K mg base 1 "is_chosen_then" spThen []) : FnOk P w K mg base CX0 2 f fd ["chosen", "new", "how"] spJoined := by
  refine F.ok scJoined (fun vs H Q E h => ?_) (fun cdv A outer s H vs Q E hr h => ?_)
  · obtain ⟨a, b, ms, ns, how, rfl, _⟩ := h
    rfl
  · obtain ⟨a, b, ms, ns, how, rfl, hm, hn, hl, h300, h4, q⟩ := h
    refine ⟨_, pss_one (ps_ret (pe_lc (own := [("was", 3), ("covered", 4)]) (g := gTup K 2 (gCons (gName 3) (gCons (gName 4) gNil))) rfl scJoined.nd (pi_zip (by rfl) mz (pa_cons (pv 0) (pa_cons (pv 1) pa_nil)))
      (blkOk_by (own := [("was", 3), ("covered", 4)]) (N := ["chosen", "new", "how", "was", "covered"]) (sc := defScope sJoined) (by decide +kernel))
      (fun _ _ _ _ _ => pg_tup rfl (pgs_cons (pg_name (i := 3) scJoined.nd rfl (.inl rfl)) (pgs_cons (pg_name (i := 4) scJoined.nd rfl (.inl rfl)) pgs_nil)))
      (fun _ _ _ _ _ => pts_nil) (fun _ _ _ _ _ => C8.pe_c cT hr (by decide) (by rfl) (pa_cons (pv 3) (pa_cons (pv 4) (pa_cons (pv 2) pa_nil)))))), ?_⟩
    refine ⟨_, rfl, _, rfl, a, b, ms.map V.bl, ns.map V.bl, rfl, SqL.of hm, SqL.of hn, fun D hD => ?_⟩
    have hxl : (ms.zip ns).length = ms.length := by
      rw [List.length_zip]
      omega
    refine lc_same (walk_zip (K := K) (xs := ms.map V.bl) (ys := ns.map V.bl) (n := (ms.zip ns).length) (by rw [hxl, List.length_map, List.length_map]; omega)) (fun i => ((ms.zip ns)[i]?).map fun q => V.bl (Ie01.mix how q.1 q.2)) (by rw [hxl]; omega) hD (fun H s => ⟨s.seq (SqL.of hm), s.seq (SqL.of hn)⟩) ypair_same ?_ ?_
    · rintro i x H2 H3 N hi s2 ⟨T', x1, y1, rfl, nT, rfl, f1, f2⟩ hN
      obtain ⟨m, em, rfl⟩ := marks_get f1
      obtain ⟨n, eg, rfl⟩ := marks_get f2
      have ez : (ms.zip ns)[i]? = some (m, n) := by
        rw [List.getElem?_zip_eq_some]
        exact ⟨em, eg⟩
      simp only [ez, Option.map_some] at hN
      exact ⟨T', _, rfl, SqT.of upd_same, rfl, _, _, rfl, _, _, rfl, rfl, rfl, _, rfl, _, rfl, _, rfl, m, n, how, rfl, h4, hN _ (Same.refl _)⟩
    · intro H2 s2 eD
      refine q _ _ s2 hD ?_
      rw [outs_map] at eD
      unfold MarksAt joinedM
      rw [eD, List.map_map]
      rfl
end
end SE
set_option maxRecDepth 100000
set_option maxHeartbeats 2000000
namespace SE
open PySem PySem.Spec PyProof.Rows L2
/-! ### {k: v}, k a tuple -/
def tDispT (tk tv : TE) : TE := fun σ H Q => ∀ p, H p = none → tk σ (upd H p (.dT [])) fun x H1 => tv σ H1 fun y H2 => H2 p = some (.dT []) ∧ ∃ k b, x = .ref b ∧ H2 b = some (.tup (k.map kV)) ∧ Q (.ref p) (upd H2 p (.dT [(k, y)]))
theorem pe_dispT {X : Cx} {pos : Pos} {ke ve : Expr} {tk tv : TE} (hu : X.A.units < cLine) (hk : PE X ke tk) (hv : PE X ve tv) : PE X (.Dict [some ke] [ve] pos) (tDispT tk tv) := by
  refine ⟨fun pins s σ H Q I q => ?_⟩
  have free := I.hok.fresh (Nat.le_refl s.heap.objs.size)
  have I1 := I.laid (a := s.heap.objs.size) (o := .dT []) (t' := s.toks) (fun _ _ z => Heap.get?_push_of_some _ z) (Nat.le_refl _) (dt_empty s.heap I.big)
  have one : pairTrees [some ke] [ve] X.env pos ≠ [] := by intro z; cases z
  rw [arm_eval_Dict, zip_pairTrees [some ke] [ve] X.env pos rfl rfl, dictDisplay_pairs _ one (by show 1 < 17; decide)]
  refine wpAny_bind (wpAny_standAt (wpAny_bind (wpAny_subDictH (knd := tupleKind (mixKind X.prog X.w)) hu (by show 1 ≤ 15; decide) ?_)))
  refine thn ((pps_cons hk hv pps_nil).run pins _ σ _ (fun ps H2 => match ps with
    | [(x, y)] => H2 s.heap.objs.size = some (.dT []) ∧ ∃ k b, x = .ref b ∧ H2 b = some (.tup (k.map kV)) ∧ Q (.ref s.heap.objs.size) (upd H2 s.heap.objs.size (.dT [(k, y)]))
    | _ => False) I1 (q _ free)) fun ws s2 hws => ?_
  obtain ⟨ps, H2, I2, rel, hps⟩ := hws
  cases rel with
  | nil => exact hps.elim
  | cons r1 r2 =>
    cases r2 with
    | cons _ _ => exact hps.elim
    | nil =>
      rename_i pv kv
      obtain ⟨x, y⟩ := pv
      obtain ⟨ku, vu⟩ := kv
      obtain ⟨e, k, b, rfl, eb, q2⟩ := hps
      obtain ⟨r1, r3⟩ := r1
      have eku : ku = Value.ref b := r1
      subst eku
      obtain ⟨z, hd, xs, rl, dd⟩ := dt_of I2.hok e
      cases rl
      refine ⟨[(k, b, vu)], ⟨rfl, rfl, key_of I2.hok eb, trivial⟩, dd, fun h' tok dd' hs => wpAny_pure ⟨.ref s.heap.objs.size, _, ?_, rfl, q2⟩⟩
      obtain ⟨ob, es, epp, hq, g2, g3, g4, _, g5⟩ := dd'
      refine d_write I2 (by rw [e]; exact True.intro) hs ⟨ob, hq⟩ ⟨by show 1 ≤ sizeLine; decide, hd, [(k, b, vu)], .cons ⟨rfl, ?_, r3⟩ .nil, ob, es, epp, hq, g2, g3, g4, g5⟩
      show upd H2 s.heap.objs.size (.dT [(k, y)]) b = some (.tup (k.map kV))
      rw [upd_ne (ne_of eb e (fun z => nomatch z))]
      exact eb
end SE
set_option maxRecDepth 100000
set_option maxHeartbeats 2000000
namespace SE
open PySem PySem.Spec PyProof.Rows L2
/-! ### dicts of cells -/
def ck (c : Ie01.Cell) : List Key := [.inl (c.1 : Int), .inl (c.2 : Int)]
theorem ck_vals (c : Ie01.Cell) : (ck c).map kV = cellV c := rfl
theorem ck_inj {c d : Ie01.Cell} (h : ck c = ck d) : c = d := by
  unfold ck at h
  have h1 := (List.cons.inj h).1
  have h2 := (List.cons.inj (List.cons.inj h).2).1
  have e1 : (c.1 : Int) = (d.1 : Int) := Sum.inl.inj h1
  have e2 : (c.2 : Int) = (d.2 : Int) := Sum.inl.inj h2
  obtain ⟨c1, c2⟩ := c
  obtain ⟨d1, d2⟩ := d
  simp only at e1 e2
  have e3 : c1 = d1 := by omega
  have e4 : c2 = d2 := by omega
  rw [e3, e4]
def kvsOf (ks : List Ie01.Cell) : List (List Key × V) := ks.map fun c => (ck c, V.bl true)
def DictAt (H : Hp) (d : Addr) (ks : List Ie01.Cell) : Prop := H d = some (.dT (kvsOf ks))
theorem val_some {ks : List Ie01.Cell} {k : List Key} : (valV (kvsOf ks) k).isSome = true ↔ ∃ c ∈ ks, ck c = k := by
  rw [← valV_any, List.any_eq_true]
  unfold kvsOf
  constructor
  · rintro ⟨p, hp, e⟩
    obtain ⟨c, hc, rfl⟩ := List.mem_map.mp hp
    exact ⟨c, hc, of_decide_eq_true e⟩
  · rintro ⟨c, hc, e⟩
    exact ⟨_, List.mem_map.mpr ⟨c, hc, rfl⟩, decide_eq_true e⟩
theorem val_cell {ks : List Ie01.Cell} {c : Ie01.Cell} : (valV (kvsOf ks) (ck c)).isSome = ks.contains c := by
  rw [Bool.eq_iff_iff, val_some]
  simp only [List.contains_eq_mem, decide_eq_true_eq]
  constructor
  · rintro ⟨d, hd, e⟩
    rw [← ck_inj e]
    exact hd
  · intro h
    exact ⟨c, h, rfl⟩
def addC (ks : List Ie01.Cell) (c : Ie01.Cell) : List Ie01.Cell := if c ∈ ks then ks else ks ++ [c]
theorem put_cell (ks : List Ie01.Cell) (c : Ie01.Cell) : putK (kvsOf ks) (ck c) (.bl true) = kvsOf (addC ks c) := by
  unfold putK addC
  rw [valV_any, val_cell]
  by_cases h : c ∈ ks
  · rw [if_pos (by simpa using h), if_pos h]
    unfold kvsOf
    rw [List.map_map]
    apply List.map_congr_left
    intro d _
    show (if ck d = ck c then (ck d, V.bl true) else (ck d, V.bl true)) = _
    split <;> rfl
  · rw [if_neg (by simpa using h), if_neg h]
    unfold kvsOf
    rw [List.map_append]
    rfl
theorem kvsOf_len (ks : List Ie01.Cell) : (kvsOf ks).length = ks.length := List.length_map _
theorem addC_len (ks : List Ie01.Cell) (c : Ie01.Cell) : (addC ks c).length ≤ ks.length + 1 := by
  unfold addC
  split
  · omega
  · simp
theorem mem_addC {ks : List Ie01.Cell} {c x : Ie01.Cell} : x ∈ addC ks c ↔ x ∈ ks ∨ x = c := by
  unfold addC
  split
  · rename_i h
    constructor
    · exact fun z => .inl z
    · rintro (z | rfl)
      · exact z
      · exact h
  · simp
theorem nodup_addC {ks : List Ie01.Cell} {c : Ie01.Cell} (h : ks.Nodup) : (addC ks c).Nodup := by
  unfold addC
  split
  · exact h
  · rename_i hc
    exact nd_snoc h hc
def addAll (ks cs : List Ie01.Cell) : List Ie01.Cell := cs.foldl addC ks
theorem mem_addAll {cs : List Ie01.Cell} : ∀ {ks : List Ie01.Cell} {x : Ie01.Cell}, x ∈ addAll ks cs ↔ x ∈ ks ∨ x ∈ cs := by
  induction cs with
  | nil => intro ks x; simp [addAll]
  | cons c cs ih =>
    intro ks x
    show x ∈ addAll (addC ks c) cs ↔ _
    rw [ih, mem_addC, List.mem_cons]
    constructor
    · rintro ((h | h) | h)
      · exact .inl h
      · exact .inr (.inl h)
      · exact .inr (.inr h)
    · rintro (h | h | h)
      · exact .inl (.inl h)
      · exact .inl (.inr h)
      · exact .inr h
theorem nodup_addAll {cs : List Ie01.Cell} : ∀ {ks : List Ie01.Cell}, ks.Nodup → (addAll ks cs).Nodup := by
  induction cs with
  | nil => intro ks h; exact h
  | cons c cs ih => intro ks h; exact ih (nodup_addC h)
theorem len_addAll {cs : List Ie01.Cell} : ∀ {ks : List Ie01.Cell}, (addAll ks cs).length ≤ ks.length + cs.length := by
  induction cs with
  | nil => intro ks; exact Nat.le_refl _
  | cons c cs ih =>
    intro ks
    have h1 := ih (ks := addC ks c)
    have h2 := addC_len ks c
    show (addAll (addC ks c) cs).length ≤ _
    rw [List.length_cons]
    omega
theorem addAll_take {ks cs : List Ie01.Cell} {i : Nat} {c : Ie01.Cell} (h : cs[i]? = some c) : addAll ks (cs.take (i + 1)) = addC (addAll ks (cs.take i)) c := by
  unfold addAll
  rw [List.take_add_one, h, List.foldl_append]
  rfl
/-- put into an empty dict, cells that differ stand as they come -/
theorem addAll_nil {cs : List Ie01.Cell} (h : cs.Nodup) : addAll [] cs = cs := by
  have key : ∀ (l ks : List Ie01.Cell), (ks ++ l).Nodup → addAll ks l = ks ++ l := by
    intro l
    induction l with
    | nil => intro ks _; simp [addAll]
    | cons c l ih =>
      intro ks hn
      show addAll (addC ks c) l = _
      have hc : c ∉ ks := by
        rw [List.nodup_append] at hn
        intro z
        exact hn.2.2 c z c (by simp) rfl
      have e : addC ks c = ks ++ [c] := if_neg hc
      rw [e, ih (ks ++ [c]) (by rw [List.append_assoc]; exact hn), List.append_assoc]
      rfl
  exact key cs [] h
section
variable {P : Program} {w : World} {K : PySem.W.Frag} {mg : Str → Option Value} {base : Heap} {C : Addr}
/-! ### put_all -/
abbrev sPut : Stmt := top 10
theorem scPut : FnScope ["members", "cells", "cell"] ["members", "cells"] (defScope sPut) := ⟨rfl, rfl, rfl, by decide +kernel, rfl, by decide +kernel, by decide +kernel⟩
def spPutL : Sp := fun vs H Q _ => ∃ (d l : Addr) (ks cs : List Ie01.Cell), vs = [.ref d, .ref l] ∧ DictAt H d ks ∧ CellsAt H l cs ∧ ks.length + cs.length ≤ 100000 ∧
  ∀ H', But d H H' → DictAt H' d (addAll ks cs) → Q .non H'
def spPutD : Sp := fun vs H Q _ => ∃ (d l : Addr) (ks cs : List Ie01.Cell), vs = [.ref d, .ref l] ∧ DictAt H d ks ∧ DictAt H l cs ∧ d ≠ l ∧ ks.length + cs.length ≤ 100000 ∧
  ∀ H', But d H H' → DictAt H' d (addAll ks cs) → Q .non H'
theorem ok_putL {f : Addr} {fd : FuncData} (F : Fun K "put_all" "put_all" sPut f fd) : FnOk P w K mg base CX0 1 f fd ["members", "cells"] spPutL := by
  refine F.ok scPut (fun vs H Q E h => ?_) (fun cdv A outer s H vs Q E hr h => ?_)
  · obtain ⟨d, l, ks, cs, rfl, _⟩ := h
    rfl
  · obtain ⟨d, l, ks, cs, rfl, hd, ⟨xs, hx, hc⟩, hlen, q⟩ := h
    refine ⟨_, pss_one (ps_for PassesOwn.never rfl (pi_list (pv 1)) (pg_name (i := 2) scPut.nd rfl (.inl rfl)) (pss_one (ps_dput (hu_of hr) (pv 0) (pv 2) pe_bl rfl))), ?_⟩
    have nld : l ≠ d := ne_of hx hd (by intro z; cases z)
    refine ⟨_, rfl, l, rfl, ⟨_, SqL.of hx⟩, for_list (K := K) (a := l) (xs := xs) (fun i σ H' => ∃ u, σ = [some (.ref d), some (.ref l), u] ∧ But d H H' ∧ DictAt H' d (addAll ks (cs.take i))) ⟨none, rfl, fun _ _ e _ => e, hd⟩ (fun i σ H' _ ⟨_, _, b, _⟩ => SqL.of (b _ _ hx nld)) ?_ ?_⟩
    · rintro i y σ H' hi ⟨u, rfl, b, hd'⟩
      obtain ⟨c, ec, a, rfl, ha⟩ := hc.get hi
      have nad : a ≠ d := ne_of ha hd (by intro z; cases z)
      have ha' : H' a = some (.tup ((ck c).map kV)) := b _ _ ha nad
      have hln : (kvsOf (addAll ks (cs.take i))).length < sizeLine := by
        rw [kvsOf_len]
        have h1 := len_addAll (ks := ks) (cs := cs.take i)
        have h2 : (cs.take i).length ≤ cs.length := by rw [List.length_take]; omega
        exact Nat.lt_of_le_of_lt (show _ ≤ 100000 by omega) (by decide)
      refine ⟨_, rfl, _, rfl, d, _, rfl, DPut.t hd' ha' hln, ?_⟩
      refine ⟨_, rfl, b.trans but_upd, ?_⟩
      unfold DictAt
      rw [upd_same, put_cell, addAll_take ec]
    · rintro σ H' ⟨u, rfl, b, hd'⟩
      rw [List.take_of_length_le (by rw [hc.1]; exact Nat.le_refl _)] at hd'
      exact q _ b hd'
theorem kvs_get {cs : List Ie01.Cell} {i : Nat} {k : List Key} {v : V} (h : (kvsOf cs)[i]? = some (k, v)) : ∃ c, cs[i]? = some c ∧ k = ck c := by
  unfold kvsOf at h
  rw [List.getElem?_map] at h
  cases e : cs[i]? with
  | none => rw [e] at h; cases h
  | some c =>
    rw [e] at h
    cases h
    exact ⟨c, rfl, rfl⟩
theorem ok_putD {f : Addr} {fd : FuncData} (F : Fun K "put_all" "put_all" sPut f fd) : FnOk P w K mg base CX0 1 f fd ["members", "cells"] spPutD := by
  refine F.ok scPut (fun vs H Q E h => ?_) (fun cdv A outer s H vs Q E hr h => ?_)
  · obtain ⟨d, l, ks, cs, rfl, _⟩ := h
    rfl
  · obtain ⟨d, l, ks, cs, rfl, hd, hl, hne, hlen, q⟩ := h
    refine ⟨_, pss_one (ps_lock (ps_for PassesOwn.never rfl (pi_keys (pv 1)) (pg_name (i := 2) scPut.nd rfl (.inl rfl)) (pss_one (ps_dput (hu_of hr) (pv 0) (pv 2) pe_bl rfl)))), ?_⟩
    refine ⟨l, _, hl, trivial, fun od => ?_⟩
    have hlk : (upd H l (.frz od (.dT (kvsOf cs)))) l = some (.frz od (.dT (kvsOf cs))) := upd_same
    refine ⟨_, rfl, l, od, rfl, .inr ⟨_, hlk, for_it walk_keysT (fun i σ H' => ∃ u, σ = [some (.ref d), some (.ref l), u] ∧ But d (upd H l (.frz od (.dT (kvsOf cs)))) H' ∧ DictAt H' d (addAll ks (cs.take i))) ⟨none, rfl, fun _ _ e _ => e, ?_⟩ (fun i σ H' _ ⟨_, _, b, _⟩ => b _ _ hlk hne.symm) ?_ ?_⟩⟩
    · unfold DictAt
      rw [upd_ne hne]
      exact hd
    · rintro i y σ H' H'' hi ⟨u, rfl, b, hd'⟩ ⟨rfl, k, v, a, ek, rfl, ha⟩
      obtain ⟨c, ec, rfl⟩ := kvs_get ek
      have hln : (kvsOf (addAll ks (cs.take i))).length < sizeLine := by
        rw [kvsOf_len]
        have h1 := len_addAll (ks := ks) (cs := cs.take i)
        have h2 : (cs.take i).length ≤ cs.length := by rw [List.length_take]; omega
        exact Nat.lt_of_le_of_lt (show _ ≤ 100000 by omega) (by decide)
      refine ⟨_, rfl, _, rfl, d, _, rfl, DPut.t hd' ha hln, ?_⟩
      refine ⟨_, rfl, b.trans but_upd, ?_⟩
      unfold DictAt
      rw [upd_same, put_cell, addAll_take ec]
    · rintro σ H' ⟨u, rfl, b, hd'⟩
      rw [List.take_of_length_le (by rw [kvsOf_len]; exact Nat.le_refl _)] at hd'
      refine ⟨b _ _ hlk hne.symm, q _ (fun x o e n => ?_) ?_⟩
      · by_cases hx : x = l
        · subst hx
          have : some o = some (HO.dT (kvsOf cs)) := e.symm.trans hl
          rw [upd_same]
          exact this.symm
        · rw [upd_ne hx]
          refine b x o ?_ n
          rw [upd_ne hx]
          exact e
      · unfold DictAt
        rw [upd_ne hne]
        exact hd'
end
end SE
set_option maxRecDepth 100000
set_option maxHeartbeats 2000000
namespace SE
open PySem PySem.Spec PyProof.Rows L2
section
variable {P : Program} {w : World} {K : PySem.W.Frag} {mg : Str → Option Value} {base : Heap} {C : Addr}
/-! ### moved -/
abbrev sMoved : Stmt := top 5
theorem scMoved : FnScope ["cell", "step"] ["cell", "step"] (defScope sMoved) := ⟨rfl, rfl, rfl, by decide +kernel, rfl, by decide +kernel, by decide +kernel⟩
def spMoved (K : PySem.W.Frag) : Sp := fun vs H Q _ => ∃ (a b : Addr) (c s : IC), vs = [.ref a, .ref b] ∧ SqT K H a (icV c) ∧ SqT K H b (icV s) ∧
  ∀ p, H p = none → Q (.ref p) (upd H p (.tup [.int (c.1 + s.1), .int (c.2 + s.2)]))
theorem ok_moved {f : Addr} {fd : FuncData} (F : Fun K "moved" "moved" sMoved f fd) : FnOk P w K mg base CX0 1 f fd ["cell", "step"] (spMoved K) := by
  refine F.ok scMoved (fun vs H Q E h => ?_) (fun cdv A outer s H vs Q E hr h => ?_)
  · obtain ⟨a, b, c, d, rfl, _⟩ := h
    rfl
  · obtain ⟨a, b, c, d, rfl, ha, hb, q⟩ := h
    refine ⟨_, pss_one (ps_ret (pe_tup (pa_cons (pe_op op_add (pe_ix ix_tup (pv 0) pe_int (fun _ _ => rfl)) (pe_ix ix_tup (pv 1) pe_int (fun _ _ => rfl)))
      (pa_cons (pe_op op_add (pe_ix ix_tup (pv 0) pe_int (fun _ _ => rfl)) (pe_ix ix_tup (pv 1) pe_int (fun _ _ => rfl))) pa_nil)))), ?_⟩
    refine ⟨_, rfl, a, _, _, _, rfl, rfl, ha, atI_nat (j := 0) rfl, _, rfl, b, _, _, _, rfl, rfl, hb, atI_nat (j := 0) rfl, _, _, rfl, rfl, ?_⟩
    refine ⟨_, rfl, a, _, _, _, rfl, rfl, ha, atI_nat (j := 1) rfl, _, rfl, b, _, _, _, rfl, rfl, hb, atI_nat (j := 1) rfl, _, _, rfl, rfl, ?_⟩
    exact ⟨by show 2 ≤ sizeLine; decide, q⟩
/-! ### members_of -/
abbrev sMembers : Stmt := top 11
theorem scMembers : FnScope ["cells", "members"] ["cells"] (defScope sMembers) := ⟨rfl, rfl, rfl, by decide +kernel, rfl, by decide +kernel, by decide +kernel⟩
def spMembers : Sp := fun vs H Q _ => ∃ (l : Addr) (cs : List Ie01.Cell), vs = [.ref l] ∧ CellsAt H l cs ∧ cs.Nodup ∧ cs.length ≤ 300 ∧
  ∀ H' d, Same H H' → H d = none → DictAt H' d cs → Q (.ref d) H'
theorem ok_members {f : Addr} {fd : FuncData} (F : Fun K "members_of" "members_of" sMembers f fd) (cL : C8.Cal P w K mg base 1 "put_all" spPutL []) : FnOk P w K mg base CX0 2 f fd ["cells"] spMembers := by
  refine F.ok scMembers (fun vs H Q E h => ?_) (fun cdv A outer s H vs Q E hr h => ?_)
  · obtain ⟨l, cs, rfl, _⟩ := h
    rfl
  · obtain ⟨l, cs, rfl, hc, hnd, h300, q⟩ := h
    refine ⟨_, pss_cons (ps_set (i := 1) scMembers.nd rfl (.inl rfl) pe_dnewT)
      (pss_cons (ps_expr (C8.pe_c cL hr (by decide) (by rfl) (pa_cons (pv 1) (pa_cons (pv 0) pa_nil))))
      (pss_one (ps_ret (pv 1)))), ?_⟩
    refine fun m nm => ?_
    have e0 : DictAt (upd H m (.dT [])) m [] := upd_same
    have s0 : Same H (upd H m (.dT [])) := same_upd nm
    refine ⟨_, rfl, _, rfl, m, l, [], cs, rfl, e0, hc.same s0, by simp only [List.length_nil]; omega, fun H1 b1 e1 => ?_⟩
    rw [addAll_nil hnd] at e1
    exact ⟨_, rfl, q _ _ (fun b o e => b1 b o (s0 _ _ e) (ne_of_none e nm)) nm e1⟩
/-! ### chosen_cells, unchosen_cells -/
theorem Ok.chosen_le {p : Ie01.Page} (o : Ok p) : p.chosen.length ≤ 300 := Nat.le_trans (chosen_len o) (by decide)
abbrev sChosen : Stmt := top 8
theorem scChosen : FnScope ["page"] ["page"] (defScope sChosen) := ⟨rfl, rfl, rfl, by decide +kernel, rfl, by decide +kernel, by decide +kernel⟩
def spChosen (C : Addr) : Sp := fun vs H Q _ => ∃ (a : Addr) (p : Ie01.Page), vs = [.ref a] ∧ PageAt C H a p ∧ Ok p ∧
  ∀ H' l, Same H H' → H l = none → CellsAt H' l p.chosen → Q (.ref l) H'
theorem ok_chosen {f : Addr} {fd : FuncData} (F : Fun K "chosen_cells" "chosen_cells" sChosen f fd) (T : Txt K mg C) (cM : C8.Cal P w K mg base 1 "marked_cells" spMarked []) : FnOk P w K mg base CX0 2 f fd ["page"] (spChosen C) := by
  refine F.ok scChosen (fun vs H Q E h => ?_) (fun cdv A outer s H vs Q E hr h => ?_)
  · obtain ⟨a, p, rfl, _⟩ := h
    rfl
  · obtain ⟨a, p, rfl, ⟨dx, lc, lm, ha, hc, hm⟩, ok, q⟩ := h
    refine ⟨_, pss_one (ps_ret (C8.pe_c cM hr (by decide) (by rfl) (pa_cons (pe_fld (pv 0) rfl) (pa_cons (pe_fld (pv 0) rfl) pa_nil)))), ?_⟩
    have hlen := ok.len_all
    have hle := ok.all_le
    refine ⟨_, rfl, a, C, dx, _, _, rfl, ha, T.cl, T.nE, pF_cells _ _ _ _, ?_⟩
    refine ⟨_, rfl, a, C, dx, _, _, rfl, ha, T.cl, T.nH, pF_chosen _ _ _ _, lc, lm, p.all, p.cells, rfl, hc, hm, hlen, by omega, fun H1 l1 s1 n1 e1 => ?_⟩
    rw [marked_page ok] at e1
    exact q _ _ s1 n1 e1
abbrev sUnchosen : Stmt := top 9
theorem scUnchosen : FnScope ["page"] ["page"] (defScope sUnchosen) := ⟨rfl, rfl, rfl, by decide +kernel, rfl, by decide +kernel, by decide +kernel⟩
def spUnchosen (C : Addr) : Sp := fun vs H Q _ => ∃ (a : Addr) (p : Ie01.Page), vs = [.ref a] ∧ PageAt C H a p ∧ Ok p ∧
  ∀ H' l, Same H H' → H l = none → CellsAt H' l p.over.chosen → Q (.ref l) H'
theorem ok_unchosen {f : Addr} {fd : FuncData} (F : Fun K "unchosen_cells" "unchosen_cells" sUnchosen f fd) (T : Txt K mg C) (cM : C8.Cal P w K mg base 1 "marked_cells" spMarked []) (cO : C8.Cal P w K mg base 1 "turned_over" spOver []) : FnOk P w K mg base CX0 2 f fd ["page"] (spUnchosen C) := by
  refine F.ok scUnchosen (fun vs H Q E h => ?_) (fun cdv A outer s H vs Q E hr h => ?_)
  · obtain ⟨a, p, rfl, _⟩ := h
    rfl
  · obtain ⟨a, p, rfl, ⟨dx, lc, lm, ha, hc, hm⟩, ok, q⟩ := h
    refine ⟨_, pss_one (ps_ret (C8.pe_c cM hr (by decide) (by rfl) (pa_cons (pe_fld (pv 0) rfl) (pa_cons (C8.pe_c cO hr (by decide) (by rfl) (pa_cons (pe_fld (pv 0) rfl) pa_nil)) pa_nil)))), ?_⟩
    have hlen := ok.len_all
    have hle := ok.all_le
    refine ⟨_, rfl, a, C, dx, _, _, rfl, ha, T.cl, T.nE, pF_cells _ _ _ _, ?_⟩
    refine ⟨_, rfl, a, C, dx, _, _, rfl, ha, T.cl, T.nH, pF_chosen _ _ _ _, lm, p.cells, rfl, hm, by omega, fun H1 l1 s1 n1 e1 => ?_⟩
    refine ⟨lc, l1, p.all, overM p.cells, rfl, hc.same s1, e1, by rw [overM_len]; exact hlen, by omega, fun H2 l2 s2 n2 e2 => ?_⟩
    have em : marked p.all (overM p.cells) = p.over.chosen := by
      have := marked_page (over_ok ok)
      rw [over_all, over_cells' ok] at this
      exact this
    rw [em] at e2
    exact q _ _ (s1.trans s2) (s1.free n2) e2
end
end SE
set_option maxRecDepth 100000
set_option maxHeartbeats 2000000
namespace SE
open PySem PySem.Spec PyProof.Rows L2
theorem nodup_len {l : List Ie01.Cell} : ∀ {m : List Ie01.Cell}, l.Nodup → (∀ x ∈ l, x ∈ m) → l.length ≤ m.length := by
  induction l with
  | nil => intro m _ _; exact Nat.zero_le _
  | cons a l ih =>
    intro m hn hs
    obtain ⟨h1, h2⟩ := List.nodup_cons.mp hn
    have ha := hs a List.mem_cons_self
    have := ih (m := m.erase a) h2 fun x hx => (List.mem_erase_of_ne (fun (z : x = a) => h1 (z ▸ hx))).mpr (hs x (List.mem_cons_of_mem _ hx))
    rw [List.length_erase_of_mem ha] at this
    have hp : 0 < m.length := List.length_pos_of_mem ha
    rw [List.length_cons]
    omega
/-! ### the steps, and what they lead to -/
def StepsAt (K : PySem.W.Frag) (H : Hp) (t : Addr) (ss : List IC) : Prop := ∃ xs, SqT K H t xs ∧ xs.length = ss.length ∧ ∀ (i : Nat) (s : IC), ss[i]? = some s → ∃ a, xs[i]? = some (.ref a) ∧ SqT K H a (icV s)
def Leads (corners : Bool) (ss : List IC) : Prop := ∀ a b : Ie01.Cell, Ie01.beside corners a b = true ↔ ∃ s ∈ ss, (a.1 : Int) = (b.1 : Int) + s.1 ∧ (a.2 : Int) = (b.2 : Int) + s.2
theorem sqT_same {K : PySem.W.Frag} {H H' : Hp} {a : Addr} {xs : List V} (e : Same H H') (h : SqT K H a xs) : SqT K H' a xs := by
  rcases h with (h | ⟨o, h⟩) | h
  · exact .inl (.inl (e _ _ h))
  · exact .inl (.inr ⟨o, e _ _ h⟩)
  · exact .inr h
theorem StepsAt.same {K : PySem.W.Frag} {H H' : Hp} {t : Addr} {ss : List IC} (h : StepsAt K H t ss) (s : Same H H') : StepsAt K H' t ss := by
  obtain ⟨xs, h1, h2, h3⟩ := h
  exact ⟨xs, sqT_same s h1, h2, fun i q e => let ⟨a, e1, e2⟩ := h3 i q e; ⟨a, e1, sqT_same s e2⟩⟩
/-- a piece on its way: what is reached, what waits, beside which cell all is looked at but what is still to come -/
structure PWay (corners : Bool) (ms : List Ie01.Cell) (c : Ie01.Cell) (R W : List Ie01.Cell) (open_ : Ie01.Cell → Prop) : Prop where
  nd : R.Nodup
  hd : R.head? = some c
  conn : ∀ x ∈ R, Conn ms (Ie01.beside corners) c x
  sub : ∀ x ∈ R, x ∈ ms
  wait : ∀ x ∈ W, x ∈ R
  clos : ∀ d ∈ R, d ∉ W → ¬ open_ d → ∀ x ∈ ms, Ie01.beside corners x d = true → x ∈ R
theorem PWay.ends {corners : Bool} {ms : List Ie01.Cell} {c : Ie01.Cell} {R : List Ie01.Cell} (h : PWay corners ms c R [] fun _ => False) (x : Ie01.Cell) : x ∈ R ↔ Conn ms (Ie01.beside corners) c x := by
  refine ⟨h.conn x, ?_⟩
  have hc : c ∈ R := by
    have := h.hd
    cases R with
    | nil => cases this
    | cons a r => cases this; exact List.mem_cons_self
  exact conn_of_closed (P := fun x => x ∈ R) hc (fun d hd y hy hb => h.clos d hd (by simp) (fun z => z) y hy hb) x
/-- a cell that is beside d comes to what is reached -/
theorem PWay.push {corners : Bool} {ms : List Ie01.Cell} {c d x : Ie01.Cell} {R W : List Ie01.Cell} {o : Ie01.Cell → Prop} (h : PWay corners ms c R W o) (hd : d ∈ R) (hx : x ∈ ms) (hb : Ie01.beside corners x d = true) (hn : x ∉ R) : PWay corners ms c (R ++ [x]) (W ++ [x]) o := by
  refine ⟨nd_snoc h.nd hn, ?_, ?_, ?_, ?_, ?_⟩
  · have := h.hd
    cases R with
    | nil => cases this
    | cons a r => exact this
  · intro y hy
    rcases List.mem_append.mp hy with z | z
    · exact h.conn y z
    · rw [List.mem_singleton.mp z]
      exact .step (h.conn d hd) hx hb
  · intro y hy
    rcases List.mem_append.mp hy with z | z
    · exact h.sub y z
    · rw [List.mem_singleton.mp z]; exact hx
  · intro y hy
    rcases List.mem_append.mp hy with z | z
    · exact List.mem_append_left _ (h.wait y z)
    · exact List.mem_append_right _ z
  · intro e he hw ho y hy hyb
    rcases List.mem_append.mp he with z | z
    · exact List.mem_append_left _ (h.clos e z (fun q => hw (List.mem_append_left _ q)) ho y hy hyb)
    · exact absurd (List.mem_append_right _ z) hw
theorem CellsV.last {H : Hp} {vs : List V} {cs : List Ie01.Cell} (h : CellsV H vs cs) (hne : vs ≠ []) : ∃ v c, vs[vs.length - 1]? = some v ∧ cs = cs.dropLast ++ [c] ∧ CellAt H v c ∧ CellsV H vs.dropLast cs.dropLast := by
  have hl : 0 < vs.length := List.length_pos_iff.mpr hne
  have hcl : 0 < cs.length := by rw [← h.1]; exact hl
  have hcne : cs ≠ [] := List.length_pos_iff.mp hcl
  obtain ⟨v, e1, e2⟩ := h.2 (cs.length - 1) (cs.getLast hcne) (by rw [← List.getLast?_eq_getElem?, List.getLast?_eq_some_getLast hcne])
  refine ⟨v, cs.getLast hcne, by rw [h.1]; exact e1, (List.dropLast_concat_getLast hcne).symm, e2, by simp [h.1], fun i c e => ?_⟩
  rw [List.getElem?_dropLast] at e
  split at e
  · rename_i hi
    obtain ⟨u, f1, f2⟩ := h.2 i c e
    refine ⟨u, ?_, f2⟩
    rw [List.getElem?_dropLast, if_pos (by rw [h.1]; exact hi)]
    exact f1
  · cases e
section
variable {P : Program} {w : World} {K : PySem.W.Frag} {mg : Str → Option Value} {base : Heap} {C : Addr}
/-! ### piece_from -/
abbrev sPiece : Stmt := top 20
theorem scPiece : FnScope ["start", "members", "steps", "reached", "waiting", "cell", "step", "beside"] ["start", "members", "steps"] (defScope sPiece) := ⟨rfl, rfl, rfl, by decide +kernel, rfl, by decide +kernel, by decide +kernel⟩
def spPiece (K : PySem.W.Frag) : Sp := fun vs H Q _ => ∃ (v : V) (d t : Addr) (c : Ie01.Cell) (ms : List Ie01.Cell) (corners : Bool) (ss : List IC), vs = [v, .ref d, .ref t] ∧ CellAt H v c ∧ DictAt H d ms ∧ c ∈ ms ∧ ms.length ≤ 300 ∧ StepsAt K H t ss ∧ Leads corners ss ∧
  ∀ H' p R, Same H H' → H p = none → DictAt H' p R → R.Nodup → R.head? = some c → R.length ≤ 300 → (∀ x, x ∈ R ↔ Conn ms (Ie01.beside corners) c x) → Q (.ref p) H'
theorem ok_piece {f : Addr} {fd : FuncData} (F : Fun K "piece_from" "piece_from" sPiece f fd) (cV : C8.Cal P w K mg base 1 "moved" (spMoved K) []) : FnOk P w K mg base CX0 2 f fd ["start", "members", "steps"] (spPiece K) := by
  refine F.ok scPiece (fun vs H Q E h => ?_) (fun cdv A outer s H vs Q E hr h => ?_)
  · obtain ⟨v, d, t, c, ms, corners, ss, rfl, _⟩ := h
    rfl
  · obtain ⟨v, d, t, c, ms, corners, ss, rfl, hv, hd, hcm, h300, hst, lead, q⟩ := h
    have hu := hu_of hr
    refine ⟨_, pss_cons (ps_set (i := 3) scPiece.nd rfl (.inl rfl) (pe_dispT (Nat.lt_of_succ_lt hu) (pv 0) pe_bl))
      (pss_cons (ps_set (i := 4) scPiece.nd rfl (.inl rfl) (pe_lst (pa_cons (pv 0) pa_nil)))
      (pss_cons (ps_while PassesOwn.never (pt_truth (pv 4) (by intro _; rfl))
        (pss_cons (ps_set (i := 5) scPiece.nd rfl (.inl rfl) (pe_bm0 PySem.F.plainAttrs_list PySem.F.slot_list_pop PySem.F.type_list_pop mt_pop (pv 4)))
        (pss_one (ps_for PassesOwn.never rfl (pi_tup (pv 2)) (pg_name (i := 6) scPiece.nd rfl (.inl rfl))
          (pss_cons (ps_set (i := 7) scPiece.nd rfl (.inl rfl) (C8.pe_c cV hr (by decide) (by rfl) (pa_cons (pv 5) (pa_cons (pv 6) pa_nil))))
          (pss_one (ps_if (PW.pt (pw_and (pt_cmp (pc_din hu (pv 7) (pv 1))) (pw_and1 (pt_cmp (pc_dnotin hu (pv 7) (pv 3))))))
            (pss_cons (ps_dput hu (pv 3) (pv 7) pe_bl rfl)
            (pss_one (ps_expr (pe_bm PySem.F.plainAttrs_list PySem.F.slot_list_append PySem.F.type_list_append mt_append (pv 4) (pa_cons (pv 7) pa_nil))))) pss_nil)))))))
      (pss_one (ps_ret (pv 3))))), ?_⟩
    obtain ⟨a0, rfl, ha0⟩ := hv
    -- reached = {start: True}
    refine fun p np => ?_
    have n1 : p ≠ a0 := (ne_of_none ha0 np).symm
    refine ⟨_, rfl, upd_same, ck c, a0, rfl, by rw [upd_ne n1.symm]; exact ha0, ?_⟩
    -- waiting = [start]
    refine ⟨_, rfl, by show 1 ≤ sizeLine; decide, fun l nl => ?_⟩
    generalize hH1 : upd (upd (upd H p (.dT [])) p (.dT [(ck c, V.bl true)])) l (.lst [.ref a0]) = H1
    have nlp : l ≠ p := fun z => by rw [z, upd_same] at nl; cases nl
    have nlH : H l = none := by rw [upd_ne nlp, upd_ne nlp] at nl; exact nl
    have s1 : Same H H1 := by
      rw [← hH1]
      exact same_upd' (same_upd' (same_upd np) np) nlH
    have e1p : DictAt H1 p [c] := by
      unfold DictAt
      rw [← hH1, upd_ne nlp.symm, upd_same]
      rfl
    have e1l : H1 l = some (.lst [.ref a0]) := by rw [← hH1]; exact upd_same
    dsimp only [gName, tSeq]
    refine while_by (fun σ H' => ∃ u5 u6 u7 R W vs, σ = [some (.ref a0), some (.ref d), some (.ref t), some (.ref p), some (.ref l), u5, u6, u7] ∧ Same H H' ∧ DictAt H' p R ∧ H' l = some (.lst vs) ∧ CellsV H' vs W ∧ PWay corners ms c R W (fun _ => False) ∧ 2 * (ms.length - R.length) + vs.length ≤ 700)
      (fun σ H' => match H' p, H' l with
        | some (.dT kvs), some (.lst vs) => 2 * (ms.length - kvs.length) + vs.length
        | _, _ => 0) ?_ ?_ ?_
    · refine ⟨none, none, none, [c], [c], [.ref a0], rfl, s1, e1p, e1l, ⟨rfl, fun i x e => ?_⟩, ?_, by simp only [List.length_cons, List.length_nil]; omega⟩
      · cases i with
        | zero => cases e; exact ⟨_, rfl, a0, rfl, s1 _ _ ha0⟩
        | succ i => cases e
      · refine ⟨by simp, rfl, ?_, ?_, fun x h => h, ?_⟩
        · intro x hx
          rw [List.mem_singleton.mp hx]
          exact .refl
        · intro x hx
          rw [List.mem_singleton.mp hx]
          exact hcm
        · intro e he hw
          exact absurd he hw
    · rintro σ H' ⟨u5, u6, u7, R, W, vs, rfl, sH, eR, eW, cW, pw, h700⟩
      refine ⟨_, rfl, _, .inl ⟨vs, SqL.of eW, rfl⟩, ?_⟩
      cases vs with
      | nil =>
        have hW : W = [] := List.eq_nil_of_length_eq_zero cW.1.symm
        subst hW
        refine iteF ⟨_, rfl, ?_⟩
        exact q _ _ R sH np eR pw.nd pw.hd (Nat.le_trans (nodup_len pw.nd pw.sub) h300) pw.ends
      | cons v0 vs0 =>
        refine iteT ?_
        obtain ⟨lv, lc, g1, g2, ⟨la, rfl, hla⟩, g4⟩ := cW.last (by intro z; cases z)
        refine ⟨_, rfl, .inl ⟨rfl, _, SqL.of eW⟩, l, _, _, rfl, rfl, eW, g1, ?_⟩
        generalize hvs : (v0 :: vs0) = vs at *
        generalize hW0 : W.dropLast = W0 at *
        have nal : la ≠ l := ne_of hla eW (by intro z; cases z)
        have nap : la ≠ p := ne_of hla eR (by intro z; cases z)
        have npl : p ≠ l := nlp.symm
        have hlaH : lc ∈ R := pw.wait lc (by rw [g2]; simp)
        have hvl : vs.length = W0.length + 1 := by rw [cW.1, g2]; simp
        obtain ⟨xs, hx1, hx2, hx3⟩ := hst
        refine ⟨_, rfl, t, rfl, ⟨xs, sqT_same (same_upd' sH nlH) hx1⟩, for_tup (K := K) (a := t) (xs := xs) (fun i σ H2 => ∃ u6 u7 R2 W2 vs2, σ = [some (.ref a0), some (.ref d), some (.ref t), some (.ref p), some (.ref l), some (.ref la), u6, u7] ∧ Same H H2 ∧ H2 la = some (.tup (cellV lc)) ∧ DictAt H2 p R2 ∧ H2 l = some (.lst vs2) ∧ CellsV H2 vs2 W2 ∧
            PWay corners ms c R2 W2 (fun x => x = lc) ∧ lc ∈ R2 ∧ (∀ s ∈ ss.take i, ∀ x ∈ ms, (x.1 : Int) = (lc.1 : Int) + s.1 → (x.2 : Int) = (lc.2 : Int) + s.2 → x ∈ R2) ∧ R2.length ≤ ms.length ∧ 2 * (ms.length - R2.length) + W2.length + 1 ≤ 2 * (ms.length - R.length) + vs.length) ?_ ?_ ?_ ?_⟩
        · refine ⟨u6, u7, R, W0, vs.dropLast, rfl, same_upd' sH nlH, by rw [upd_ne nal]; exact hla, by unfold DictAt; rw [upd_ne npl]; exact eR, upd_same, ⟨g4.1, fun i x e => ?_⟩, ?_, hlaH, by simp, nodup_len pw.nd pw.sub, by omega⟩
          · obtain ⟨v1, f1, b1, rfl, f2⟩ := g4.2 i x e
            exact ⟨_, f1, b1, rfl, by rw [upd_ne (ne_of f2 eW (by intro z; cases z))]; exact f2⟩
          · refine ⟨pw.nd, pw.hd, pw.conn, pw.sub, fun x hx => pw.wait x (by rw [g2]; exact List.mem_append_left _ hx), ?_⟩
            intro e he hw ho y hy hb
            refine pw.clos e he ?_ (fun z => z) y hy hb
            rw [g2]
            intro z
            rcases List.mem_append.mp z with z | z
            · exact hw z
            · exact ho (List.mem_singleton.mp z)
        · rintro i σ2 H2 _ ⟨_, _, _, _, _, _, sH2, _⟩
          exact sqT_same sH2 hx1
        · rintro i y σ2 H2 hi ⟨u6', u7', R2, W2, vs2, rfl, sH2, hla2, eR2, eW2, cW2, pw2, hlR, hnb, hle, hms⟩
          have hii : i < ss.length := by
            rw [← hx2]
            rcases Nat.lt_or_ge i xs.length with z | z
            · exact z
            · rw [List.getElem?_eq_none z] at hi; cases hi
          obtain ⟨sa, es, hsa⟩ := hx3 i ss[i] (List.getElem?_eq_getElem hii)
          rw [hi] at es
          cases es
          have hsa2 := sqT_same sH2 hsa
          generalize hsv : ss[i] = sv at hsa hsa2
          have hgs : ss[i]? = some sv := by rw [← hsv]; exact List.getElem?_eq_getElem hii
          -- beside = moved(cell, step)
          refine ⟨_, rfl, _, rfl, la, sa, ((lc.1 : Int), (lc.2 : Int)), sv, rfl, SqT.of hla2, hsa2, fun b nb => ?_⟩
          dsimp only
          generalize hB : upd H2 b (.tup [.int ((lc.1 : Int) + sv.1), .int ((lc.2 : Int) + sv.2)]) = H3
          have sB : Same H2 H3 := by rw [← hB]; exact same_upd nb
          have eb : H3 b = some (.tup (([.inl ((lc.1 : Int) + sv.1), .inl ((lc.2 : Int) + sv.2)] : List Key).map kV)) := by rw [← hB]; exact upd_same
          have ed3 : DictAt H3 d ms := sB _ _ (sH2 _ _ hd)
          have ep3 : DictAt H3 p R2 := sB _ _ eR2
          -- beside in members
          refine ⟨_, rfl, _, rfl, d, _, rfl, DGet.t ed3 eb, _, rfl, ?_⟩
          refine ite2 (fun hin => ?_) (fun hin => ?_)
          · obtain ⟨x, hxm, hxk⟩ := val_some.mp hin
            have hx1' : (x.1 : Int) = (lc.1 : Int) + sv.1 := Sum.inl.inj (List.cons.inj hxk).1
            have hx2' : (x.2 : Int) = (lc.2 : Int) + sv.2 := Sum.inl.inj (List.cons.inj (List.cons.inj hxk).2).1
            have hbes : Ie01.beside corners x lc = true := (lead x lc).mpr ⟨sv, List.mem_of_getElem? hgs, hx1', hx2'⟩
            refine ⟨_, rfl, _, rfl, p, _, rfl, DGet.t ep3 eb, _, rfl, ?_⟩
            rw [← hxk, val_cell]
            by_cases hxR : x ∈ R2
            · have e0 : (!R2.contains x) = false := by simpa using hxR
              rw [e0]
              refine iteF ?_
              refine ⟨_, _, R2, W2, vs2, rfl, sH2.trans sB, sB _ _ hla2, ep3, sB _ _ eW2, cW2.same sB, pw2, hlR, ?_, hle, hms⟩
              intro s hs y hy hy1 hy2
              rw [List.take_add_one, hgs] at hs
              rcases List.mem_append.mp hs with z | z
              · exact hnb s z y hy hy1 hy2
              · have : s = sv := by simpa using z
                subst this
                have : y = x := by
                  obtain ⟨y1, y2⟩ := y
                  obtain ⟨x1, x2⟩ := x
                  simp only at hy1 hy2 hx1' hx2'
                  have h1 : y1 = x1 := by omega
                  have h2 : y2 = x2 := by omega
                  rw [h1, h2]
                rw [this]
                exact hxR
            · have e0 : (!R2.contains x) = true := by simpa using hxR
              rw [e0]
              refine iteT ?_
              have eb' : H3 b = some (.tup ((ck x).map kV)) := by rw [eb, hxk]
              have hRl : (kvsOf R2).length < sizeLine := by
                rw [kvsOf_len]
                exact Nat.lt_of_le_of_lt (show _ ≤ 300 by omega) (by decide)
              have eW3 : H3 l = some (.lst vs2) := sB _ _ eW2
              refine ⟨_, rfl, _, rfl, p, _, rfl, DPut.t ep3 eb' hRl, ?_⟩
              rw [put_cell, show addC R2 x = R2 ++ [x] from if_neg hxR]
              have eW4 : (upd H3 p (.dT (kvsOf (R2 ++ [x])))) l = some (.lst vs2) := by rw [upd_ne nlp]; exact eW3
              have pw3 := pw2.push hlR hxm hbes hxR
              have len3 := nodup_len pw3.nd pw3.sub
              have len3' : (R2 ++ [x]).length = R2.length + 1 := by simp
              refine ⟨_, rfl, .inl ⟨rfl, _, SqL.of eW4⟩, _, rfl, l, _, _, rfl, rfl, eW4, ?_, ?_⟩
              · rw [cW2.1]
                have : W2.length ≤ 1000 := by omega
                exact Nat.lt_of_le_of_lt this (by decide)
              have kp : ∀ z o, H3 z = some o → z ≠ p → z ≠ l → (upd (upd H3 p (.dT (kvsOf (R2 ++ [x])))) l (.lst (vs2 ++ [.ref b]))) z = some o := by
                intro z o e z1 z2
                rw [upd_ne z2, upd_ne z1]
                exact e
              have cell3 : ∀ v y, CellAt H3 v y → CellAt (upd (upd H3 p (.dT (kvsOf (R2 ++ [x])))) l (.lst (vs2 ++ [.ref b]))) v y := by
                rintro v y ⟨z, rfl, hz⟩
                exact ⟨z, rfl, kp _ _ hz (ne_of hz ep3 (by intro q; cases q)) (ne_of hz eW3 (by intro q; cases q))⟩
              refine ⟨_, _, R2 ++ [x], W2 ++ [x], vs2 ++ [.ref b], rfl, fun z o e => kp z o (sB _ _ (sH2 _ _ e)) (ne_of_none e np) (ne_of_none e nlH), ?_, ?_, upd_same, ?_, pw3, List.mem_append_left _ hlR, ?_, len3, ?_⟩
              · have := sB _ _ hla2
                exact kp _ _ this (ne_of this ep3 (by intro q; cases q)) (ne_of this eW3 (by intro q; cases q))
              · unfold DictAt
                rw [upd_ne npl, upd_same]
              · refine CellsV.snoc ⟨cW2.1, fun j y e => ?_⟩ (cell3 _ _ ⟨b, rfl, eb'⟩)
                obtain ⟨v1, f1, f2⟩ := cW2.2 j y e
                exact ⟨v1, f1, cell3 _ _ (f2.same sB)⟩
              · intro s hs y hy hy1 hy2
                rw [List.take_add_one, hgs] at hs
                rcases List.mem_append.mp hs with z | z
                · exact List.mem_append_left _ (hnb s z y hy hy1 hy2)
                · have : s = sv := by simpa using z
                  subst this
                  have : y = x := by
                    obtain ⟨y1, y2⟩ := y
                    obtain ⟨x1, x2⟩ := x
                    simp only at hy1 hy2 hx1' hx2'
                    have h1 : y1 = x1 := by omega
                    have h2 : y2 = x2 := by omega
                    rw [h1, h2]
                  rw [this]
                  exact List.mem_append_right _ (by simp)
              · rw [len3', List.length_append]
                rw [len3'] at len3
                simp only [List.length_cons, List.length_nil]
                omega
          · have hno : ∀ x ∈ ms, (x.1 : Int) = (lc.1 : Int) + sv.1 → (x.2 : Int) = (lc.2 : Int) + sv.2 → False := by
              intro x hx h1 h2
              refine hin (val_some.mpr ⟨x, hx, ?_⟩)
              unfold ck
              rw [h1, h2]
            have e0 : (valV (kvsOf ms) [.inl ((lc.1 : Int) + sv.1), .inl ((lc.2 : Int) + sv.2)]).isSome = false := by simpa using hin
            refine iteF ?_
            refine ⟨_, _, R2, W2, vs2, rfl, sH2.trans sB, sB _ _ hla2, ep3, sB _ _ eW2, cW2.same sB, pw2, hlR, ?_, hle, hms⟩
            intro s hs y hy hy1 hy2
            rw [List.take_add_one, hgs] at hs
            rcases List.mem_append.mp hs with z | z
            · exact hnb s z y hy hy1 hy2
            · have : s = sv := by simpa using z
              subst this
              exact (hno y hy hy1 hy2).elim
        · rintro σ2 H2 ⟨u6', u7', R2, W2, vs2, rfl, sH2, hla2, eR2, eW2, cW2, pw2, hlR, hnb, hle, hms⟩
          rw [hx2, List.take_length] at hnb
          refine ⟨⟨_, _, _, R2, W2, vs2, rfl, sH2, eR2, eW2, cW2, ⟨pw2.nd, pw2.hd, pw2.conn, pw2.sub, pw2.wait, ?_⟩, by rw [cW2.1]; omega⟩, ?_⟩
          · intro e he hw _ y hy hb
            by_cases hel : e = lc
            · subst hel
              obtain ⟨s, hs, h1, h2⟩ := (lead y e).mp hb
              exact hnb s hs y hy h1 h2
            · exact pw2.clos e he hw hel y hy hb
          · have m1 : (match H2 p, H2 l with
                | some (.dT kvs), some (.lst vs) => 2 * (ms.length - kvs.length) + vs.length
                | _, _ => 0) = 2 * (ms.length - R2.length) + vs2.length := by
              rw [show H2 p = _ from eR2, eW2, ]
              simp only [kvsOf_len]
            have m2 : (match H' p, H' l with
                | some (.dT kvs), some (.lst vs) => 2 * (ms.length - kvs.length) + vs.length
                | _, _ => 0) = 2 * (ms.length - R.length) + vs.length := by
              rw [show H' p = _ from eR, eW]
              simp only [kvsOf_len]
            rw [m1, m2, cW2.1]
            omega
    · rintro σ H Q1 Q2 hq ⟨v, e, k, hk, z⟩
      exact ⟨v, e, k, hk, hq _ _ z⟩
end
end SE
set_option maxRecDepth 100000
set_option maxHeartbeats 2000000
namespace SE
open PySem PySem.Spec PyProof.Rows L2
/-! ### lists of dicts of cells -/
def DictsV (H : Hp) (vs : List V) (Ps : List (List Ie01.Cell)) : Prop := vs.length = Ps.length ∧ ∀ (i : Nat) (R : List Ie01.Cell), Ps[i]? = some R → ∃ d, vs[i]? = some (.ref d) ∧ DictAt H d R
def PiecesAt (H : Hp) (l : Addr) (Ps : List (List Ie01.Cell)) : Prop := ∃ vs, H l = some (.lst vs) ∧ DictsV H vs Ps
theorem DictsV.same {H H' : Hp} {vs : List V} {Ps : List (List Ie01.Cell)} (h : DictsV H vs Ps) (s : Same H H') : DictsV H' vs Ps :=
  ⟨h.1, fun i R e => let ⟨d, e1, e2⟩ := h.2 i R e; ⟨d, e1, s _ _ e2⟩⟩
theorem PiecesAt.same {H H' : Hp} {l : Addr} {Ps : List (List Ie01.Cell)} (h : PiecesAt H l Ps) (s : Same H H') : PiecesAt H' l Ps := by
  obtain ⟨vs, e, h⟩ := h
  exact ⟨vs, s _ _ e, h.same s⟩
theorem snoc_get {α β : Type} {vs : List α} {Ps : List β} {v : α} {R : β} (hl : vs.length = Ps.length) {i : Nat} {R' : β} (h : (Ps ++ [R])[i]? = some R') : (Ps[i]? = some R' ∧ (∀ u, vs[i]? = some u → (vs ++ [v])[i]? = some u)) ∨ (R' = R ∧ (vs ++ [v])[i]? = some v) := by
  rcases Nat.lt_trichotomy i Ps.length with g | g | g
  · left
    rw [List.getElem?_append_left g] at h
    refine ⟨h, fun u hu => ?_⟩
    rw [List.getElem?_append_left (by omega)]
    exact hu
  · right
    subst g
    rw [List.getElem?_append_right (Nat.le_refl _), Nat.sub_self] at h
    cases h
    refine ⟨rfl, ?_⟩
    rw [List.getElem?_append_right (by omega), hl, Nat.sub_self]
    rfl
  · rw [List.getElem?_eq_none (by simp; omega)] at h
    cases h
theorem DictsV.get {H : Hp} {vs : List V} {Ps : List (List Ie01.Cell)} (h : DictsV H vs Ps) {i : Nat} {v : V} (hv : vs[i]? = some v) : ∃ R d, Ps[i]? = some R ∧ v = .ref d ∧ DictAt H d R := by
  have hi : i < Ps.length := by
    rw [← h.1]
    rcases Nat.lt_or_ge i vs.length with q | q
    · exact q
    · rw [List.getElem?_eq_none q] at hv; cases hv
  obtain ⟨d, e1, e2⟩ := h.2 i Ps[i] (List.getElem?_eq_getElem hi)
  rw [hv] at e1
  cases e1
  exact ⟨_, d, List.getElem?_eq_getElem hi, rfl, e2⟩
section
variable {P : Program} {w : World} {K : PySem.W.Frag} {mg : Str → Option Value} {base : Heap} {C : Addr}
/-! ### pieces_of -/
abbrev sPieces : Stmt := top 21
theorem scPieces : FnScope ["cells", "steps", "members", "seen", "pieces", "cell", "piece"] ["cells", "steps"] (defScope sPieces) := ⟨rfl, rfl, rfl, by decide +kernel, rfl, by decide +kernel, by decide +kernel⟩
def spPieces (K : PySem.W.Frag) : Sp := fun vs H Q _ => ∃ (a t : Addr) (cs : List Ie01.Cell) (corners : Bool) (ss : List IC), vs = [.ref a, .ref t] ∧ CellsAt H a cs ∧ cs.Nodup ∧ cs.length ≤ 300 ∧ StepsAt K H t ss ∧ Leads corners ss ∧
  ∀ H' p Ps, Same H H' → H p = none → PiecesAt H' p Ps → Rel2 Tells Ps (Ie01.piecesOf corners cs.length cs) → (∀ R ∈ Ps, R.length ≤ 300 ∧ R.Nodup ∧ ∀ x ∈ R, x ∈ cs) → Ps.length ≤ 300 → Q (.ref p) H'
theorem ok_pieces {f : Addr} {fd : FuncData} (F : Fun K "pieces_of" "pieces_of" sPieces f fd) (cL : C8.Cal P w K mg base 2 "members_of" spMembers []) (cD : C8.Cal P w K mg base 1 "put_all" spPutD []) (cP : C8.Cal P w K mg base 2 "piece_from" (spPiece K) []) : FnOk P w K mg base CX0 3 f fd ["cells", "steps"] (spPieces K) := by
  refine F.ok scPieces (fun vs H Q E h => ?_) (fun cdv A outer s H vs Q E hr h => ?_)
  · obtain ⟨a, t, cs, corners, ss, rfl, _⟩ := h
    rfl
  · obtain ⟨a, t, cs, corners, ss, rfl, ⟨xs, hx, hc⟩, hnd, h300, hst, lead, q⟩ := h
    have hu := hu_of hr
    refine ⟨_, pss_cons (ps_set (i := 2) scPieces.nd rfl (.inl rfl) (C8.pe_c cL hr (by decide) (by rfl) (pa_cons (pv 0) pa_nil)))
      (pss_cons (ps_set (i := 3) scPieces.nd rfl (.inl rfl) pe_dnewT)
      (pss_cons (ps_set (i := 4) scPieces.nd rfl (.inl rfl) (pe_lst pa_nil))
      (pss_cons (ps_for PassesOwn.never rfl (pi_list (pv 0)) (pg_name (i := 5) scPieces.nd rfl (.inl rfl))
        (pss_one (ps_if (pt_cmp (pc_dnotin hu (pv 5) (pv 3)))
          (pss_cons (ps_set (i := 6) scPieces.nd rfl (.inl rfl) (C8.pe_c cP hr (by decide) (by rfl) (pa_cons (pv 5) (pa_cons (pv 2) (pa_cons (pv 1) pa_nil)))))
          (pss_cons (ps_expr (C8.pe_c cD hr (by decide) (by rfl) (pa_cons (pv 3) (pa_cons (pv 6) pa_nil))))
          (pss_one (ps_expr (pe_bm PySem.F.plainAttrs_list PySem.F.slot_list_append PySem.F.type_list_append mt_append (pv 4) (pa_cons (pv 6) pa_nil)))))) pss_nil)))
      (pss_one (ps_ret (pv 4)))))), ?_⟩
    refine ⟨_, rfl, a, cs, rfl, ⟨xs, hx, hc⟩, hnd, h300, fun H1 m s1 nm e1 => ?_⟩
    refine fun sn nsn => ?_
    have nsm : m ≠ sn := ne_of_none e1 nsn
    refine ⟨Nat.zero_le _, fun l nl => ?_⟩
    have nlsn : l ≠ sn := fun z => by rw [z, upd_same] at nl; cases nl
    have nl1 : H1 l = none := by rw [upd_ne nlsn] at nl; exact nl
    have nml : m ≠ l := ne_of_none e1 nl1
    have snH : H sn = none := s1.free nsn
    have lH : H l = none := s1.free nl1
    generalize hH2 : upd (upd H1 sn (.dT [])) l (.lst []) = H2
    have s2 : Same H1 H2 := by rw [← hH2]; exact same_upd' (same_upd nsn) nl1
    have e2m : DictAt H2 m cs := s2 _ _ e1
    have e2s : DictAt H2 sn [] := by unfold DictAt; rw [← hH2, upd_ne nlsn.symm, upd_same]; rfl
    have e2l : H2 l = some (.lst []) := by rw [← hH2]; exact upd_same
    have sH2 : Same H H2 := s1.trans s2
    refine ⟨_, rfl, a, rfl, ⟨_, SqL.of (sH2 _ _ hx)⟩, for_list (K := K) (a := a) (xs := xs) (fun i σ H3 => ∃ u5 u6 seen Ps vs, σ = [some (.ref a), some (.ref t), some (.ref m), some (.ref sn), some (.ref l), u5, u6] ∧ Same H H3 ∧ DictAt H3 m cs ∧ DictAt H3 sn seen ∧ H3 l = some (.lst vs) ∧ vs.length = Ps.length ∧
        (∀ (j : Nat) (R : List Ie01.Cell), Ps[j]? = some R → ∃ d, vs[j]? = some (.ref d) ∧ d ≠ sn ∧ DictAt H3 d R) ∧ PInv corners cs i seen Ps ∧ seen.Nodup ∧ (∀ R ∈ Ps, R.length ≤ 300 ∧ R.Nodup ∧ ∀ x ∈ R, x ∈ cs) ∧ Ps.length ≤ i) ?_ ?_ ?_ ?_⟩
    · exact ⟨none, none, [], [], [], rfl, sH2, e2m, e2s, e2l, rfl, fun j R e => (by cases e), PInv.start hnd, List.nodup_nil, fun R h => (by cases h), Nat.le_refl _⟩
    · rintro i σ H3 _ ⟨_, _, _, _, _, _, s3, _⟩
      exact SqL.of (s3 _ _ hx)
    · rintro i y σ H3 hi ⟨u5, u6, seen, Ps, vs, rfl, s3, em, es, el, hl, hP, pin, nds, hR, hPi⟩
      obtain ⟨c, ec, b, rfl, hb⟩ := (hc.same s3).get hi
      have hb' : H3 b = some (.tup ((ck c).map kV)) := hb
      have hii : i < cs.length := by
        rcases Nat.lt_or_ge i cs.length with z | z
        · exact z
        · rw [List.getElem?_eq_none z] at ec; cases ec
      refine ⟨_, rfl, _, rfl, sn, _, rfl, DGet.t es hb', _, rfl, ?_⟩
      rw [val_cell]
      by_cases hcs : c ∈ seen
      · have e0 : (!seen.contains c) = false := by simpa using hcs
        rw [e0]
        exact iteF ⟨_, _, seen, Ps, vs, rfl, s3, em, es, el, hl, hP, pin.skip ec hcs, nds, hR, by omega⟩
      · have e0 : (!seen.contains c) = true := by simpa using hcs
        rw [e0]
        refine iteT ?_
        have hst3 := hst.same s3
        refine ⟨_, rfl, _, rfl, _, rfl, _, m, t, c, cs, corners, ss, rfl, ⟨b, rfl, hb⟩, em, List.mem_of_getElem? ec, h300, hst3, lead, fun H4 p R s4 np eR ndR hdR lenR memR => ?_⟩
        have nps : p ≠ sn := (ne_of_none es np).symm
        have seen300 := nodup_len nds pin.sub
        refine ⟨_, rfl, _, rfl, sn, p, seen, R, rfl, s4 _ _ es, eR, nps.symm, by omega, fun H5 b5 e5 => ?_⟩
        have npl : p ≠ l := (ne_of_none el np).symm
        have e5l : H5 l = some (.lst vs) := b5 _ _ (s4 _ _ el) nlsn
        refine ⟨_, rfl, .inl ⟨rfl, _, SqL.of e5l⟩, _, rfl, l, _, _, rfl, rfl, e5l, ?_, ?_⟩
        · rw [hl]
          exact Nat.lt_of_le_of_lt (show _ ≤ 300 by omega) (by decide)
        have kp : ∀ z o, H4 z = some o → z ≠ sn → z ≠ l → (upd H5 l (.lst (vs ++ [.ref p]))) z = some o := by
          intro z o e z1 z2
          rw [upd_ne z2]
          exact b5 _ _ e z1
        refine ⟨_, _, addAll seen R, Ps ++ [R], vs ++ [.ref p], rfl, fun z o e => kp z o (s4 _ _ (s3 _ _ e)) (ne_of_none e snH) (ne_of_none e lH), kp _ _ (s4 _ _ em) nsm nml, ?_, upd_same, by simp [hl], ?_, ?_, nodup_addAll nds, ?_, by simp only [List.length_append, List.length_cons, List.length_nil]; omega⟩
        · unfold DictAt
          rw [upd_ne nlsn.symm]
          exact e5
        · intro j R' e
          rcases snoc_get (v := V.ref p) hl e with ⟨f1, f2⟩ | ⟨rfl, f2⟩
          · obtain ⟨d, g1, g2, g3⟩ := hP j R' f1
            exact ⟨d, f2 _ g1, g2, kp _ _ (s4 _ _ g3) g2 (ne_of g3 el (by intro z; cases z))⟩
          · exact ⟨p, f2, nps, kp _ _ eR nps npl⟩
        · refine pin.take ec hcs ndR hdR memR fun x => ?_
          exact mem_addAll
        · intro R' hR'
          rcases List.mem_append.mp hR' with z | z
          · exact hR R' z
          · rw [List.mem_singleton.mp z]
            exact ⟨lenR, ndR, fun x hx => conn_mem (List.mem_of_getElem? ec) x ((memR x).mp hx)⟩
    · rintro σ H3 ⟨u5, u6, seen, Ps, vs, rfl, s3, em, es, el, hl, hP, pin, nds, hR, hPi⟩
      refine ⟨_, rfl, q _ _ Ps s3 lH ⟨vs, el, hl, fun j R e => ?_⟩ (pin.done (by rw [hc.1]; exact Nat.le_refl _)) hR (by rw [hc.1] at hPi; omega)⟩
      obtain ⟨d, g1, _, g3⟩ := hP j R e
      exact ⟨d, g1, g3⟩
/-! ### is_on_rim -/
abbrev sRim : Stmt := top 27
theorem scRim : FnScope ["page", "cell"] ["page", "cell"] (defScope sRim) := ⟨rfl, rfl, rfl, by decide +kernel, rfl, by decide +kernel, by decide +kernel⟩
def spRim (C : Addr) : Sp := fun vs H Q _ => ∃ (a dx : Addr) (p : Ie01.Page) (u v : V) (cv : V) (c : Ie01.Cell), vs = [.ref a, cv] ∧ H a = some (.ins C dx (pF (.int (p.w : Int)) (.int (p.h : Int)) u v)) ∧ CellAt H cv c ∧
  ∀ H', Same H H' → Q (.bl (p.atRim c)) H'
theorem in_two {x y z : Int} : inV (.int x) [.int y, .int z] = (decide (x = y) || decide (x = z)) := by
  show ((y == x) || ((z == x) || false)) = _
  rw [Bool.or_false, Bool.eq_iff_iff]
  simp only [Bool.or_eq_true, beq_iff_eq, decide_eq_true_eq]
  omega
theorem ok_rim {f : Addr} {fd : FuncData} (F : Fun K "is_on_rim" "is_on_rim" sRim f fd) (T : Txt K mg C) : FnOk P w K mg base CX0 1 f fd ["page", "cell"] (spRim C) := by
  refine F.ok scRim (fun vs H Q E h => ?_) (fun cdv A outer s H vs Q E hr h => ?_)
  · obtain ⟨a, dx, p, u, v, cv, c, rfl, _⟩ := h
    rfl
  · obtain ⟨a, dx, p, u, v, cv, c, rfl, ha, ⟨b, rfl, hb⟩, q⟩ := h
    refine ⟨_, pss_one (ps_ret (pe_or (pe_cmpR op_in_seq (pe_ix ix_tup (pv 1) pe_int (fun _ _ => rfl)) (pe_tup (pa_cons pe_int (pa_cons (pe_op op_sub (pe_fld (pv 0) rfl) pe_int) pa_nil))) (by rfl))
      (pe_one (pe_cmpR op_in_seq (pe_ix ix_tup (pv 1) pe_int (fun _ _ => rfl)) (pe_tup (pa_cons pe_int (pa_cons (pe_op op_sub (pe_fld (pv 0) rfl) pe_int) pa_nil))) (by rfl))))), ?_⟩
    refine ⟨_, rfl, b, _, _, _, rfl, rfl, SqT.of hb, atI_nat (j := 0) rfl, ?_⟩
    refine ⟨_, rfl, a, C, dx, _, _, rfl, ha, T.cl, T.nC, pF_columns _ _ _ _, _, _, rfl, rfl, by show 2 ≤ sizeLine; decide, fun t1 n1 => ?_⟩
    have s1 : Same H (upd H t1 (.tup [.int 0, .int ((p.w : Int) - 1)])) := same_upd n1
    refine ⟨t1, _, rfl, .inr (SqT.of upd_same), rfl, rfl, _, rfl, ?_⟩
    dsimp only [if_false]
    rw [if_neg Bool.false_ne_true, in_two]
    refine ite2 (fun z => ?_) (fun z => ?_)
    · have e : p.atRim c = true := by
        unfold Ie01.Page.atRim
        simp only [Bool.or_eq_true, decide_eq_true_eq, beq_iff_eq] at z ⊢
        omega
      rw [e] at q
      exact q _ s1
    · refine ⟨_, rfl, b, _, _, _, rfl, rfl, SqT.of (s1 _ _ hb), atI_nat (j := 1) rfl, ?_⟩
      refine ⟨_, rfl, a, C, dx, _, _, rfl, s1 _ _ ha, T.cl, T.nR, pF_rows _ _ _ _, _, _, rfl, rfl, by show 2 ≤ sizeLine; decide, fun t2 n2 => ?_⟩
      refine ⟨t2, _, rfl, .inr (SqT.of upd_same), rfl, rfl, ?_⟩
      rw [if_neg Bool.false_ne_true, in_two]
      have e : p.atRim c = (decide ((c.2 : Int) = 0) || decide ((c.2 : Int) = (p.h : Int) - 1)) := by
        unfold Ie01.Page.atRim
        rw [Bool.eq_iff_iff]
        simp only [Bool.or_eq_true, decide_eq_true_eq, beq_iff_eq] at z ⊢
        omega
      rw [e] at q
      exact q _ (s1.trans (same_upd n2))
end
end SE
set_option maxRecDepth 100000
set_option maxHeartbeats 2000000
namespace SE
open PySem PySem.Spec PyProof.Rows L2
theorem rel_get {Ps : List (List Ie01.Cell)} {qs : List (Ie01.Cell × List Ie01.Cell)} (h : Rel2 Tells Ps qs) : ∀ {i : Nat} {R : List Ie01.Cell}, Ps[i]? = some R → ∃ q, qs[i]? = some q ∧ Tells R q := by
  induction h with
  | nil => intro i R e; cases e
  | cons h _ ih =>
    intro i R e
    cases i with
    | zero => cases e; exact ⟨_, rfl, h⟩
    | succ i => exact ih e
section
variable {P : Program} {w : World} {K : PySem.W.Frag} {mg : Str → Option Value} {base : Heap} {C : Addr}
/-! ### reaches_rim -/
abbrev sReach : Stmt := top 28
theorem scReach : FnScope ["page", "piece", "cell"] ["page", "piece"] (defScope sReach) := ⟨rfl, rfl, rfl, by decide +kernel, rfl, by decide +kernel, by decide +kernel⟩
def spReach (C : Addr) : Sp := fun vs H Q _ => ∃ (a d : Addr) (p : Ie01.Page) (R : List Ie01.Cell), vs = [.ref a, .ref d] ∧ PageAt C H a p ∧ DictAt H d R ∧ R.length ≤ 300 ∧
  ∀ H', Same H H' → Q (.bl (R.any p.atRim)) H'
theorem ok_reach {f : Addr} {fd : FuncData} (F : Fun K "reaches_rim" "reaches_rim" sReach f fd) (ma : mg "any" = none) (cR : C8.Cal P w K mg base 1 "is_on_rim" (spRim C) []) : FnOk P w K mg base CX0 2 f fd ["page", "piece"] (spReach C) := by
  refine F.ok scReach (fun vs H Q E h => ?_) (fun cdv A outer s H vs Q E hr h => ?_)
  · obtain ⟨a, d, p, R, rfl, _⟩ := h
    rfl
  · obtain ⟨a, d, p, R, rfl, ⟨dx, lc, lm, ha, hc, hm⟩, hd, h300, q⟩ := h
    refine ⟨_, pss_one (ps_ret (pe_callB (cr_any rfl) (by rfl) ma (by decide +kernel) (pa_cons (pe_lock (pe_lc (own := [("cell", 2)]) (g := gName 2) rfl scReach.nd (pi_keys (pv 1))
      (blkOk_by (own := [("cell", 2)]) (N := ["page", "piece", "cell"]) (sc := defScope sReach) (by decide +kernel))
      (fun _ _ _ _ _ => pg_name (i := 2) scReach.nd rfl (.inl rfl)) (fun _ _ _ _ _ => pts_nil)
      (fun _ _ _ _ _ => C8.pe_c cR hr (by decide) (by rfl) (pa_cons (pv 0) (pa_cons (pv 2) pa_nil))))) pa_nil))), ?_⟩
    refine ⟨d, _, hd, trivial, fun od => ?_⟩
    generalize hH1 : upd H d (.frz od (.dT (kvsOf R))) = H1
    have e1d : H1 d = some (.frz od (.dT (kvsOf R))) := by rw [← hH1]; exact upd_same
    have nad : a ≠ d := ne_of ha hd (by intro z; cases z)
    have e1a : H1 a = some (.ins C dx (pF (.int (p.w : Int)) (.int (p.h : Int)) (.ref lc) (.ref lm))) := by rw [← hH1, upd_ne nad]; exact ha
    refine ⟨_, rfl, d, od, rfl, .inr ⟨_, e1d, fun D hD => ?_⟩⟩
    refine lc_same walk_keysT (fun i => (R[i]?).map fun c => V.bl (p.atRim c)) (by rw [kvsOf_len]; omega) hD (fun H s => s _ _ e1d) (fun i H x H' ⟨e, _⟩ => e ▸ Same.refl _) ?_ ?_
    · rintro i x H2 H3 N hi s2 ⟨rfl, k, v, b, ek, rfl, hb⟩ hN
      obtain ⟨c, ec, rfl⟩ := kvs_get ek
      simp only [ec, Option.map_some] at hN
      exact ⟨rfl, _, rfl, _, rfl, a, dx, p, _, _, _, c, rfl, s2 _ _ e1a, ⟨b, rfl, hb⟩, hN⟩
    · intro H2 s2 eD
      have nDd : D ≠ d := (ne_of_none e1d hD).symm
      rw [kvsOf_len, outs_map] at eD
      refine ⟨s2 _ _ e1d, D, R.map p.atRim, rfl, SqL.of ?_, ?_⟩
      · rw [upd_ne nDd, eD, List.map_map]
        rfl
      · have e : (R.map p.atRim).any id = R.any p.atRim := by
          rw [List.any_map]
          rfl
        rw [e]
        refine q _ fun b o eb => ?_
        by_cases hb : b = d
        · subst hb
          rw [upd_same]
          exact hd.symm.trans eb
        · rw [upd_ne hb]
          refine s2 _ _ ?_
          rw [← hH1, upd_ne hb]
          exact eb
/-! ### holes_of -/
abbrev sHoles : Stmt := top 29
theorem scHoles : FnScope ["page", "piece"] ["page"] (defScope sHoles) := ⟨rfl, rfl, rfl, by decide +kernel, rfl, by decide +kernel, by decide +kernel⟩
def spHoles (C : Addr) : Sp := fun vs H Q _ => ∃ (a : Addr) (p : Ie01.Page), vs = [.ref a] ∧ PageAt C H a p ∧ Ok p ∧
  ∀ H' l Ps, Same H H' → H l = none → PiecesAt H' l Ps → Rel2 Tells Ps p.holes → (∀ R ∈ Ps, R.length ≤ 300 ∧ R.Nodup ∧ ∀ x ∈ R, x ∈ p.all) → Ps.length ≤ 300 → Q (.ref l) H'
theorem ok_holes {f t : Addr} {fd : FuncData} {ss : List IC} (F : Fun K "holes_of" "holes_of" sHoles f fd) (mW : mg "WITH_CORNERS" = some (.ref t)) (hst : ∀ H, StepsAt K H t ss) (lead : Leads true ss)
    (cU : C8.Cal P w K mg base 2 "unchosen_cells" (spUnchosen C) []) (cP : C8.Cal P w K mg base 3 "pieces_of" (spPieces K) []) (cR : C8.Cal P w K mg base 2 "reaches_rim" (spReach C) []) : FnOk P w K mg base CX0 4 f fd ["page"] (spHoles C) := by
  refine F.ok scHoles (fun vs H Q E h => ?_) (fun cdv A outer s H vs Q E hr h => ?_)
  · obtain ⟨a, p, rfl, _⟩ := h
    rfl
  · obtain ⟨a, p, rfl, hp, ok, q⟩ := h
    refine ⟨_, pss_one (ps_ret (pe_lc (own := [("piece", 1)]) (g := gName 1) (tt := tNot (tTest (tCall (spReach C) [] E0 (tCons (tVar 0) (tCons (tVar 1) tNil))))) rfl scHoles.nd (pi_list (C8.pe_c cP hr (by decide) (by rfl) (pa_cons (C8.pe_c cU hr (by decide) (by rfl) (pa_cons (pv 0) pa_nil)) (pa_cons (pe_glob (v := .ref t) (by rfl) mW rfl) pa_nil))))
      (blkOk_by (own := [("piece", 1)]) (N := ["page", "piece"]) (sc := defScope sHoles) (by decide +kernel))
      (fun _ _ _ _ _ => pg_name (i := 1) scHoles.nd rfl (.inl rfl))
      (fun _ _ _ _ _ => pts_one (pt_not (pt_val (C8.pe_c cR hr (by decide) (by rfl) (pa_cons (pv 0) (pa_cons (pv 1) pa_nil)))))) (fun _ _ _ _ _ => pv 1))), ?_⟩
    refine ⟨_, rfl, a, p, rfl, hp, ok, fun H2 l2 s2 n2 e2 => ?_⟩
    obtain ⟨dx, lc, lm, ha, hc, hm⟩ := hp
    have hle := ok.all_le
    have nd : p.over.chosen.Nodup := chosen_nodup _
    have hl2 : p.over.chosen.length ≤ 300 := (over_ok ok).chosen_le
    refine ⟨l2, t, _, true, ss, rfl, e2, nd, hl2, hst _, lead, fun H3 l3 Ps s3 n3 e3 rel hR h3 => ?_⟩
    obtain ⟨vs, ev, hv⟩ := e3
    have sA : Same H H3 := s2.trans s3
    refine ⟨l3, rfl, ⟨_, SqL.of ev⟩, fun D hD => ?_⟩
    refine lc_same (walk_list (K := K) (xs := vs)) (fun i => ((vs.zip Ps)[i]?).bind fun q => if (!q.2.any p.atRim) = true then some q.1 else none) (by rw [hv.1]; omega) hD (fun H s => s.seq (SqL.of ev)) yat_same ?_ ?_
    · rintro i x H4 H5 N hi s4 ⟨rfl, ex⟩ hN
      obtain ⟨R, d, eR, rfl, hd⟩ := hv.get ex
      have ez : (vs.zip Ps)[i]? = some (.ref d, R) := by
        rw [List.getElem?_zip_eq_some]
        exact ⟨ex, eR⟩
      simp only [ez, Option.bind_some] at hN
      refine ⟨rfl, _, rfl, _, rfl, a, d, p, R, rfl, ⟨dx, lc, lm, s4 _ _ (sA _ _ ha), (hc.same sA).same s4, s4 _ _ (sA _ _ hm)⟩, s4 _ _ hd, (hR R (List.mem_of_getElem? eR)).1, fun H6 s6 => ⟨_, rfl, ?_⟩⟩
      by_cases hb : R.any p.atRim = true
      · rw [hb] at hN ⊢
        exact iteF (hN _ s6)
      · have hb' : R.any p.atRim = false := by simpa using hb
        rw [hb'] at hN ⊢
        exact iteT ⟨_, rfl, hN _ s6⟩
    · intro H4 s4 eD
      have hz : (vs.zip Ps).length = vs.length := by rw [List.length_zip, hv.1]; omega
      rw [← hz, outs_filter (vs.zip Ps) (fun q => !q.2.any p.atRim) (·.1)] at eD
      refine q _ _ (Ps.filter fun R => !R.any p.atRim) (sA.trans s4) (sA.free hD) ⟨_, eD, ?_⟩ (holes_rel rel) ?_ ?_
      · refine DictsV.same ?_ s4
        clear eD hD rel hR h3 hz ev
        obtain ⟨g1, g2⟩ := hv
        induction vs generalizing Ps with
        | nil =>
          cases Ps with
          | nil => exact ⟨rfl, fun i R e => by cases e⟩
          | cons _ _ => simp at g1
        | cons v vs ih =>
          cases Ps with
          | nil => simp at g1
          | cons R Ps =>
            have ih' := ih Ps (by simpa using g1) (fun i c e => g2 (i + 1) c e)
            have h0 := g2 0 R rfl
            rw [List.zip_cons_cons, List.filter_cons, List.filter_cons]
            cases R.any p.atRim
            · simp only [Bool.not_false, if_true, List.map_cons]
              refine ⟨by simpa using ih'.1, fun i c' e => ?_⟩
              cases i with
              | zero =>
                cases e
                obtain ⟨v', e1, e2⟩ := h0
                cases e1
                exact ⟨v', rfl, e2⟩
              | succ i => exact ih'.2 i c' e
            · exact ih'
      · intro R hRf
        obtain ⟨r1, r2, r3⟩ := hR R (List.mem_filter.mp hRf).1
        exact ⟨r1, r2, fun x hx => (List.mem_filter.mp (r3 x hx)).1⟩
      · exact Nat.le_trans (List.length_filter_le _ _) h3
/-! ### filled -/
abbrev sFilled : Stmt := top 30
theorem scFilled : FnScope ["page", "inside", "hole", "cell", "was"] ["page"] (defScope sFilled) := ⟨rfl, rfl, rfl, by decide +kernel, rfl, by decide +kernel, by decide +kernel⟩
def spFilled (C : Addr) : Sp := fun vs H Q _ => ∃ (a : Addr) (p : Ie01.Page), vs = [.ref a] ∧ PageAt C H a p ∧ Ok p ∧
  ∀ H' l, Same H H' → H l = none → MarksAt H' l p.filled.cells → Q (.ref l) H'
theorem ok_filled {f : Addr} {fd : FuncData} (F : Fun K "filled" "filled" sFilled f fd) (T : Txt K mg C) (mz : mg "zip" = none) (cH : C8.Cal P w K mg base 4 "holes_of" (spHoles C) []) (cD : C8.Cal P w K mg base 1 "put_all" spPutD []) : FnOk P w K mg base CX0 5 f fd ["page"] (spFilled C) := by
  refine F.ok scFilled (fun vs H Q E h => ?_) (fun cdv A outer s H vs Q E hr h => ?_)
  · obtain ⟨a, p, rfl, _⟩ := h
    rfl
  · obtain ⟨a, p, rfl, hp, ok, q⟩ := h
    have hu := hu_of hr
    refine ⟨_, pss_cons (ps_set (i := 1) scFilled.nd rfl (.inr rfl) pe_dnewT)
      (pss_cons (ps_for PassesOwn.never rfl (pi_list (C8.pe_c cH hr (by decide) (by rfl) (pa_cons (pv 0) pa_nil))) (pg_name (i := 2) scFilled.nd rfl (.inl rfl))
        (pss_one (ps_expr (C8.pe_c cD hr (by decide) (by rfl) (pa_cons (pv 1) (pa_cons (pv 2) pa_nil))))))
      (pss_one (ps_ret (pe_lc (own := [("cell", 3), ("was", 4)]) (g := gTup K 2 (gCons (gName 3) (gCons (gName 4) gNil))) rfl scFilled.nd (pi_zip (by rfl) mz (pa_cons (pe_fld (pv 0) rfl) (pa_cons (pe_fld (pv 0) rfl) pa_nil)))
      (blkOk_by (own := [("cell", 3), ("was", 4)]) (N := ["page", "inside", "hole", "cell", "was"]) (sc := defScope sFilled) (by decide +kernel))
      (fun _ _ _ _ _ => pg_tup rfl (pgs_cons (pg_name (i := 3) scFilled.nd rfl (.inl rfl)) (pgs_cons (pg_name (i := 4) scFilled.nd rfl (.inl rfl)) pgs_nil)))
      (fun _ _ _ _ _ => pts_nil) (fun _ _ _ _ _ => pe_or (pv 4) (pe_one (pe_cmp (pc_din hu (pv 3) (pv 1)) rfl))))))), ?_⟩
    refine fun d nd => ?_
    have s0 : Same H (upd H d (.dT [])) := same_upd nd
    refine ⟨_, rfl, a, p, rfl, hp.same s0, ok, fun H1 l Ps s1 nl eP rel hR h3 => ?_⟩
    obtain ⟨vs, ev, hv⟩ := eP
    have sH1 : Same H H1 := s0.trans s1
    have e1d : DictAt H1 d [] := s1 _ _ upd_same
    refine ⟨l, rfl, ⟨_, SqL.of ev⟩, for_list (K := K) (a := l) (xs := vs) (fun i σ H2 => ∃ u2 ins, σ = [some (.ref a), some (.ref d), u2, none, none] ∧ But d H1 H2 ∧ DictAt H2 d ins ∧ ins.Nodup ∧ (∀ x ∈ ins, x ∈ p.all) ∧ (∀ x, x ∈ ins ↔ ∃ R ∈ Ps.take i, x ∈ R)) ?_ ?_ ?_ ?_⟩
    · exact ⟨none, [], rfl, fun _ _ e _ => e, e1d, List.nodup_nil, fun x h => (by cases h), fun x => by simp⟩
    · rintro i σ H2 _ ⟨_, _, _, b2, _⟩
      exact SqL.of (b2 _ _ ev (ne_of ev e1d (by intro z; cases z)))
    · rintro i y σ H2 hi ⟨u2, ins, rfl, b2, ei, ndi, subi, memi⟩
      obtain ⟨R, e, eR, rfl, he⟩ := hv.get hi
      obtain ⟨r1, r2, r3⟩ := hR R (List.mem_of_getElem? eR)
      have hle := ok.all_le
      have hil := nodup_len ndi subi
      by_cases hed : e = d
      · -- no hole stands at the new dict's place: it was empty and new; a hole has a cell
        subst hed
        have := he.symm.trans e1d
        have hRe : kvsOf R = kvsOf [] := HO.dT.inj (Option.some.inj this)
        have hRn : R = [] := by
          have := congrArg List.length hRe
          rw [kvsOf_len, kvsOf_len] at this
          exact List.eq_nil_of_length_eq_zero this
        exfalso
        obtain ⟨q0, hq0, t1, _⟩ := rel_get rel eR
        rw [hRn] at t1
        cases t1
      · refine ⟨_, rfl, _, rfl, d, e, ins, R, rfl, ei, b2 _ _ he hed, fun z => hed z.symm, by omega, fun H3 b3 e3 => ?_⟩
        refine ⟨_, addAll ins R, rfl, b2.trans b3, e3, nodup_addAll ndi, fun x hx => (mem_addAll.mp hx).elim (subi x) (r3 x), fun x => ?_⟩
        rw [mem_addAll, memi, List.take_add_one, eR]
        constructor
        · rintro (⟨R', h1, h2⟩ | h)
          · exact ⟨R', List.mem_append_left _ h1, h2⟩
          · exact ⟨R, List.mem_append_right _ (by simp), h⟩
        · rintro ⟨R', h1, h2⟩
          rcases List.mem_append.mp h1 with z | z
          · exact .inl ⟨R', z, h2⟩
          · have : R' = R := by simpa using z
            rw [this] at h2
            exact .inr h2
    · rintro σ H2 ⟨u2, ins, rfl, b2, ei, ndi, subi, memi⟩
      rw [hv.1, List.take_length] at memi
      have hfin : ∀ c, c ∈ ins ↔ c ∈ p.holes.flatMap fun q => q.2 := fun c => (memi c).trans (rel_mem rel c)
      have sH2 : Same H H2 := fun b o e => b2 b o (sH1 _ _ e) (ne_of_none e nd)
      obtain ⟨dx, lc, lm, ha, ⟨xs, hx, hc⟩, hm⟩ := hp.same sH2
      have hlen := ok.len_all
      have hle := ok.all_le
      refine ⟨_, rfl, a, C, dx, _, _, rfl, ha, T.cl, T.nE, pF_cells _ _ _ _, _, rfl, a, C, dx, _, _, rfl, ha, T.cl, T.nH, pF_chosen _ _ _ _, lc, lm, xs, p.cells.map V.bl, rfl, SqL.of hx, SqL.of hm, fun D hD => ?_⟩
      have hxl : (p.all.zip p.cells).length = p.all.length := by
        rw [List.length_zip]
        omega
      refine lc_same (walk_zip (K := K) (xs := xs) (ys := p.cells.map V.bl) (n := (p.all.zip p.cells).length) (by rw [hxl, List.length_map, hc.1]; omega)) (fun i => ((p.all.zip p.cells)[i]?).map fun q => V.bl (q.2 || ins.contains q.1)) (by rw [hxl]; omega) hD (fun H s => ⟨s.seq (SqL.of hx), s.seq (SqL.of hm)⟩) ypair_same ?_ ?_
      · rintro i x H4 H5 N hi s4 ⟨T', x1, y1, rfl, nT, rfl, e1, e2⟩ hN
        obtain ⟨m, em, rfl⟩ := marks_get e2
        obtain ⟨c, ec, b, rfl, hb⟩ := hc.get e1
        have ez : (p.all.zip p.cells)[i]? = some (c, m) := by
          rw [List.getElem?_zip_eq_some]
          exact ⟨ec, em⟩
        simp only [ez, Option.map_some] at hN
        have s5 : Same H2 (upd H4 T' (.tup [.ref b, .bl m])) := s4.trans (same_upd nT)
        refine ⟨T', _, rfl, SqT.of upd_same, rfl, _, _, rfl, .bl m, _, rfl, rfl, rfl, ?_⟩
        refine ⟨_, rfl, m, rfl, ?_⟩
        cases m
        · refine iteF ?_
          have hb' : H2 b = some (.tup ((ck c).map kV)) := hb
          refine ⟨_, rfl, _, rfl, d, _, rfl, DGet.t (s5 _ _ ei) (s5 _ _ hb'), ?_⟩
          rw [val_cell]
          exact hN _ (Same.refl _)
        · exact iteT (hN _ (Same.refl _))
      · intro H4 s4 eD
        refine q _ _ (sH2.trans s4) (sH2.free hD) ?_
        rw [outs_map] at eD
        unfold MarksAt
        rw [eD, filled_cells ok hfin]
        unfold filledM
        rw [List.map_map]
        rfl
end
end SE
set_option maxRecDepth 100000
set_option maxHeartbeats 2000000
namespace SE
open PySem PySem.Spec PyProof.Rows L2
/-! ### how often True stands in a list of truth values -/
theorem count_marks : ∀ {ms : List Bool} {us : List Value}, Vals (ms.map V.bl) us → us.countP (eqU (.bl true)) = ms.count true
  | [], _, r => by
    cases r
    rfl
  | m :: ms, _, r => by
    cases r with
    | cons r1 r2 =>
      have ih := count_marks r2
      rw [List.countP_cons, List.count_cons, ih, eqU_of r1 rfl]
      cases m <;> rfl
def rCntB (K : PySem.W.Frag) : V → List V → Hp → VK → Prop := fun x xs H Q => ∃ (l : Addr) (ms : List Bool), x = .ref l ∧ xs = [.bl true] ∧ SqL K H l (ms.map V.bl) ∧ Q (.int (ms.count true : Nat)) H
theorem all_flat (ms : List Bool) : (ms.map V.bl).all flatV = true := by
  rw [List.all_eq_true]
  intro v hv
  obtain ⟨m, _, rfl⟩ := List.mem_map.mp hv
  rfl
theorem mt_countB {X : Cx} : MtR X "list.count" (rCntB X.K) := by
  intro pins s σ H x xs v us Q I rx rxs h
  obtain ⟨l, ms, rfl, rfl, hs, q⟩ := h
  cases rx
  obtain ⟨u, rfl, ru⟩ := rxs.one
  obtain ⟨its, rv, ⟨⟨cls, dd, data, sl⟩, n, ho, hc, hdn, hd⟩, hlen⟩ := I.list hs
  simp only at hc hd
  subst hc hd
  refine call_meets PySem.F.slot_list_count ⟨_, ho, rfl⟩ PySem.F.entry_list_count (PySem.F.args_list_count_2 _ _) (SeqAt.list_countAt l its.toArray n dd sl u (eqU (.bl true))) ⟨ho, fun y hy => ?_, ?_⟩
  · exact mem_eqAt ru rfl rv (all_flat ms) y (by simpa using hy)
  · refine ⟨.int (ms.count true : Nat), H, I.tok _, ⟨s.toks, ?_⟩, q⟩
    have e : its.toArray.toList.countP (eqU (.bl true)) = ms.count true := count_marks rv
    rw [e]
section
variable {P : Program} {w : World} {K : PySem.W.Frag} {mg : Str → Option Value} {base : Heap} {C : Addr}
/-! ### choose -/
abbrev sChoose : Stmt := top 61
theorem scChoose : FnScope ["page", "chosen"] ["page", "chosen"] (defScope sChoose) := ⟨rfl, rfl, rfl, by decide +kernel, rfl, by decide +kernel, by decide +kernel⟩
def spChoose (C : Addr) : Sp := fun vs H Q _ => ∃ (a l : Addr) (p : Ie01.Page) (ms : List Bool), vs = [.ref a, .ref l] ∧ PageAt C H a p ∧ MarksAt H l ms ∧
  ∀ H' r, PageAt C H' a ⟨p.w, p.h, ms⟩ → But a H H' → H r = none → H' r = some (.lst [.int ((ms.count true : Nat) : Int)]) → Q (.ref r) H'
theorem CellsAt.but {H H' : Hp} {a l : Addr} {cs : List Ie01.Cell} {C dx : Addr} {fs : List (Str × V)} (h : CellsAt H l cs) (b : But a H H') (ha : H a = some (.ins C dx fs)) : CellsAt H' l cs := by
  obtain ⟨vs, e, h⟩ := h
  refine ⟨vs, b _ _ e (ne_of e ha (by intro z; cases z)), h.1, fun i c ec => ?_⟩
  obtain ⟨v, e1, z, rfl, hz⟩ := h.2 i c ec
  exact ⟨_, e1, z, rfl, b _ _ hz (ne_of hz ha (by intro z; cases z))⟩
theorem ok_choose {f : Addr} {fd : FuncData} (F : Fun K "choose" "choose" sChoose f fd) (T : Txt K mg C) : FnOk P w K mg base CX0 1 f fd ["page", "chosen"] (spChoose C) := by
  refine F.ok scChoose (fun vs H Q E h => ?_) (fun cdv A outer s H vs Q E hr h => ?_)
  · obtain ⟨a, l, p, ms, rfl, _⟩ := h
    rfl
  · obtain ⟨a, l, p, ms, rfl, ⟨dx, lc, lm, ha, hc, hm⟩, hl, q⟩ := h
    refine ⟨_, pss_cons (ps_fld (pv 0) (pv 1) rfl) (pss_one (ps_ret (pe_lst (pa_cons (pe_bm PySem.F.plainAttrs_list PySem.F.slot_list_count PySem.F.type_list_count mt_countB (pv 1) (pa_cons pe_bl pa_nil)) pa_nil)))), ?_⟩
    refine ⟨_, rfl, _, rfl, a, C, dx, _, rfl, ha, T.cl, T.nH, by show 4 < 1000; decide, ?_⟩
    rw [pF_put_chosen]
    generalize hH1 : upd H a (.ins C dx (pF (.int (p.w : Int)) (.int (p.h : Int)) (.ref lc) (.ref l))) = H1
    have b1 : But a H H1 := by rw [← hH1]; exact but_upd
    have e1 : H1 a = some (.ins C dx (pF (.int (p.w : Int)) (.int (p.h : Int)) (.ref lc) (.ref l))) := by rw [← hH1]; exact upd_same
    have hl1 : H1 l = some (.lst (ms.map V.bl)) := b1 _ _ hl (ne_of hl ha (by intro z; cases z))
    refine ⟨_, rfl, .inl ⟨rfl, _, SqL.of hl1⟩, l, ms, rfl, rfl, SqL.of hl1, by show 1 ≤ sizeLine; decide, fun r nr => ?_⟩
    have s2 : Same H1 (upd H1 r (.lst [.int ((ms.count true : Nat) : Int)])) := same_upd nr
    have nra : r ≠ a := (ne_of_none e1 nr).symm
    have nrH : H r = none := by rw [← hH1, upd_ne nra] at nr; exact nr
    exact q _ r ⟨dx, lc, l, s2 _ _ e1, (hc.but b1 ha).same s2, s2 _ _ hl1⟩ (b1.trans (Same.but s2)) nrH upd_same
/-! ### is_size -/
abbrev sSize : Stmt := top 62
theorem scSize : FnScope ["number"] ["number"] (defScope sSize) := ⟨rfl, rfl, rfl, by decide +kernel, rfl, by decide +kernel, by decide +kernel⟩
def spSize : Sp := fun vs H Q _ => ∃ n : Nat, vs = [.int (n : Int)] ∧ Q (.bl (decide (1 ≤ n) && decide (n ≤ 16))) H
theorem ok_size {f : Addr} {fd : FuncData} {t : Tok} (F : Fun K "is_size" "is_size" sSize f fd) (m16 : mg "MOST_COLUMNS_OR_ROWS" = some (.int 16 t)) : FnOk P w K mg base CX0 1 f fd ["number"] spSize := by
  refine F.ok scSize (fun vs H Q E h => ?_) (fun cdv A outer s H vs Q E hr h => ?_)
  · obtain ⟨n, rfl, _⟩ := h
    rfl
  · obtain ⟨n, rfl, q⟩ := h
    refine ⟨_, pss_one (ps_ret (pe_chain op_le op_le pe_int (pv 0) (pe_glob (v := .int 16) (by rfl) m16 ⟨t, rfl⟩))), ?_⟩
    refine ⟨_, rfl, _, _, rfl, rfl, _, rfl, ite2 (fun g1 => ?_) (fun g1 => ?_)⟩
    · have h1 : 1 ≤ n := by have := of_decide_eq_true g1; omega
      refine ⟨_, _, rfl, rfl, ?_⟩
      dsimp only
      have e : decide ((n : Int) ≤ 16) = decide (n ≤ 16) := by rw [decide_eq_decide]; omega
      rw [e]
      rw [decide_eq_true h1, Bool.true_and] at q
      exact q
    · have h1 : ¬ 1 ≤ n := fun z => g1 (decide_eq_true (by omega))
      rw [decide_eq_false h1, Bool.false_and] at q
      exact q
end
end SE
set_option maxRecDepth 100000
set_option maxHeartbeats 2000000
namespace SE
open PySem PySem.Spec PyProof.Rows L2
/-! ### what a call's numbers are -/
open Ie01Neutral (callIn)
theorem in_page {l : List Nat} {X : Ie01.Call} (h : callIn (0 :: l) = some X) : ∃ a b, l = [a, b] ∧ X = .page a b := by
  rcases l with _ | ⟨a, _ | ⟨b, _ | ⟨c, l⟩⟩⟩ <;> simp [callIn] at h
  exact ⟨a, b, rfl, h.symm⟩
theorem in_box {l : List Nat} {X : Ie01.Call} (h : callIn (1 :: l) = some X) : ∃ x y u v k, l = [x, y, u, v, k] ∧ X = .box x y u v k := by
  rcases l with _ | ⟨a, _ | ⟨b, _ | ⟨c, _ | ⟨d, _ | ⟨e, _ | ⟨f, l⟩⟩⟩⟩⟩⟩ <;> simp [callIn] at h
  exact ⟨a, b, c, d, e, rfl, h.symm⟩
theorem in_disk {l : List Nat} {X : Ie01.Call} (h : callIn (2 :: l) = some X) : ∃ x y r k, l = [x, y, r, k] ∧ X = .disk x y r k := by
  rcases l with _ | ⟨a, _ | ⟨b, _ | ⟨c, _ | ⟨d, _ | ⟨e, l⟩⟩⟩⟩⟩ <;> simp [callIn] at h
  exact ⟨a, b, c, d, rfl, h.symm⟩
theorem in_over {l : List Nat} {X : Ie01.Call} (h : callIn (3 :: l) = some X) : l = [] ∧ X = .over := by
  rcases l with _ | ⟨a, l⟩ <;> simp [callIn] at h
  exact ⟨rfl, h.symm⟩
theorem in_grow {l : List Nat} {X : Ie01.Call} (h : callIn (4 :: l) = some X) : ∃ r, l = [r] ∧ X = .grow r := by
  rcases l with _ | ⟨a, _ | ⟨b, l⟩⟩ <;> simp [callIn] at h
  exact ⟨a, rfl, h.symm⟩
theorem in_shrink {l : List Nat} {X : Ie01.Call} (h : callIn (5 :: l) = some X) : ∃ e r, l = [e, r] ∧ X = .shrink e r := by
  rcases l with _ | ⟨a, _ | ⟨b, _ | ⟨c, l⟩⟩⟩ <;> simp [callIn] at h
  exact ⟨a, b, rfl, h.symm⟩
theorem in_ring {l : List Nat} {X : Ie01.Call} (h : callIn (6 :: l) = some X) : ∃ r, l = [r] ∧ X = .ring r := by
  rcases l with _ | ⟨a, _ | ⟨b, l⟩⟩ <;> simp [callIn] at h
  exact ⟨a, rfl, h.symm⟩
theorem in_fill {l : List Nat} {X : Ie01.Call} (h : callIn (7 :: l) = some X) : l = [] ∧ X = .fill := by
  rcases l with _ | ⟨a, l⟩ <;> simp [callIn] at h
  exact ⟨rfl, h.symm⟩
def NumsAt (H : Hp) (l : Addr) (ns : List Nat) : Prop := H l = some (.lst ((casts ns).map V.int))
theorem nums_get {ns : List Nat} {j n : Nat} (h : ns[j]? = some n) : atI ((casts ns).map V.int) (j : Int) = some (.int (n : Int)) := by
  refine atI_nat ?_
  unfold casts
  rw [List.getElem?_map, List.getElem?_map, h]
  rfl
/-- what every handler promises: place k of the calls -/
def spHand (C : Addr) (k : Nat) : Sp := fun vs H Q _ => ∃ (a l : Addr) (p : Ie01.Page) (ns : List Nat) (X : Ie01.Call), vs = [.ref a, .ref l] ∧ PageAt C H a p ∧ Ok p ∧ NumsAt H l ns ∧ callIn (k :: ns) = some X ∧ (∀ n ∈ ns, n < 4294967296) ∧
  ∀ H' r, PageAt C H' a (Ie01.step p X).1 → Ok (Ie01.step p X).1 → But a H H' → H r = none → H' r = some (.lst ((Ie01.step p X).2.map V.int)) → Q (.ref r) H'
section
variable {P : Program} {w : World} {K : PySem.W.Frag} {mg : Str → Option Value} {base : Heap} {C : Addr}
/-- choose behind a new list of marks -/
theorem chosen_then {H0 H : Hp} {a l : Addr} {p q : Ie01.Page} {Q : VK} {E : XK} (hp : PageAt C H a p) (hl : MarksAt H l q.cells) (s0 : But a H0 H) (f0 : ∀ r, H r = none → H0 r = none) (oq : Ok q) (ew : q.w = p.w) (eh : q.h = p.h)
    (k : ∀ H' r, PageAt C H' a q → Ok q → But a H0 H' → H0 r = none → H' r = some (.lst ((Ie01.become q).2.map V.int)) → Q (.ref r) H') : spChoose C [.ref a, .ref l] H Q E := by
  refine ⟨a, l, p, q.cells, rfl, hp, hl, fun H' r e1 b1 n1 e2 => ?_⟩
  rw [← ew, ← eh] at e1
  refine k H' r e1 oq (s0.trans b1) (f0 r n1) ?_
  rw [e2]
  show _ = some (HO.lst ((Ie01.ints [q.chosen.length]).map V.int))
  rw [become_len oq]
  rfl
/-! ### the handlers -/
abbrev sHPage : Stmt := top 63
theorem scHPage : FnScope ["page", "numbers"] ["page", "numbers"] (defScope sHPage) := ⟨rfl, rfl, rfl, by decide +kernel, rfl, by decide +kernel, by decide +kernel⟩
theorem ok_hpage {f : Addr} {fd : FuncData} {t : Tok} (F : Fun K "answer_page" "answer_page" sHPage f fd) (mB : mg "BAD_SIZE" = some (.int (-1) t)) (cS : C8.Cal P w K mg base 1 "is_size" spSize []) (cL : C8.Met P w K mg base 1 C "lay" (spLay C) []) : FnOk P w K mg base CX0 8 f fd ["page", "numbers"] (spHand C 0) := by
  refine F.ok scHPage (fun vs H Q E h => ?_) (fun cdv A outer s H vs Q E hr h => ?_)
  · obtain ⟨a, l, p, ns, X, rfl, _⟩ := h
    rfl
  · obtain ⟨a, l, p, ns, X, rfl, hp, ok, hn, hX, hb, q⟩ := h
    obtain ⟨x, y, rfl, rfl⟩ := in_page hX
    refine ⟨_, pss_cons (ps_if (PW.pt (pw_or (pt_not (pt_val (C8.pe_c cS hr (by decide) (by rfl) (pa_cons (pe_ix ix_list (pv 1) pe_int (fun _ _ => rfl)) pa_nil)))) (pw_or1 (pt_not (pt_val (C8.pe_c cS hr (by decide) (by rfl) (pa_cons (pe_ix ix_list (pv 1) pe_int (fun _ _ => rfl)) pa_nil)))))))
        (pss_one (ps_ret (pe_lst (pa_cons (pe_glob (v := .int (-1)) (by rfl) mB ⟨t, rfl⟩) pa_nil)))) pss_nil)
      (pss_cons (ps_expr (C8.pe_mt cL hr (by decide) (pv 0) (pa_cons (pe_ix ix_list (pv 1) pe_int (fun _ _ => rfl)) (pa_cons (pe_ix ix_list (pv 1) pe_int (fun _ _ => rfl)) pa_nil))))
      (pss_one (ps_ret (pe_lst (pa_cons pe_int pa_nil))))), ?_⟩
    have bad : (x < 1 ∨ Ie01.MOST < x ∨ y < 1 ∨ Ie01.MOST < y) → ∀ r, H r = none → Q (.ref r) (upd H r (.lst [.int (-1)])) := by
      intro hbad r nr
      have e : Ie01.step p (.page x y) = (p, [-1]) := if_pos hbad
      rw [e] at q
      exact q _ r (hp.same (same_upd nr)) ok (Same.but (same_upd nr)) nr upd_same
    refine ⟨_, rfl, l, _, _, _, rfl, rfl, SqL.of hn, nums_get (j := 0) rfl, x, rfl, _, rfl, ?_⟩
    by_cases hx : 1 ≤ x ∧ x ≤ 16
    · rw [decide_eq_true hx.1, decide_eq_true hx.2]
      refine iteF ?_
      refine ⟨_, rfl, l, _, _, _, rfl, rfl, SqL.of hn, nums_get (j := 1) rfl, y, rfl, _, rfl, ?_⟩
      by_cases hy : 1 ≤ y ∧ y ≤ 16
      · rw [decide_eq_true hy.1, decide_eq_true hy.2]
        refine iteF ?_
        obtain ⟨dx, lc, lm, ha, hc, hm⟩ := hp
        refine ⟨_, rfl, a, dx, _, rfl, ha, pF_lay _ _ _ _, _, rfl, l, _, _, _, rfl, rfl, SqL.of hn, nums_get (j := 0) rfl, _, rfl, l, _, _, _, rfl, rfl, SqL.of hn, nums_get (j := 1) rfl, a, dx, _, x, y, rfl, ha, .inr ⟨_, _, _, _, rfl⟩, hx.1, hx.2, hy.1, hy.2, fun H1 h1 b1 => ?_⟩
        refine ⟨by show 1 ≤ sizeLine; decide, fun r nr => ?_⟩
        have e : Ie01.step p (.page x y) = (blank x y, [0]) := if_neg (by unfold Ie01.MOST; omega)
        rw [e] at q
        have fr : H r = none := by
          cases z : H r with
          | none => rfl
          | some o =>
            by_cases hra : r = a
            · obtain ⟨_, _, _, g, _⟩ := h1
              rw [← hra, nr] at g
              cases g
            · rw [b1 r o z hra] at nr
              cases nr
        exact q _ r (h1.same (same_upd nr)) (show Ok (blank x y) from of_ok hx.1 hx.2 hy.1 hy.2) (b1.trans (Same.but (same_upd nr))) fr upd_same
      · have e : (decide (1 ≤ y) && decide (y ≤ 16)) = false := by
          rw [Bool.and_eq_false_iff]
          rw [Classical.not_and_iff_not_or_not] at hy
          exact hy.imp decide_eq_false decide_eq_false
        rw [e]
        refine iteT ⟨by show 1 ≤ sizeLine; decide, fun r nr => bad ?_ r nr⟩
        unfold Ie01.MOST
        omega
    · have e : (decide (1 ≤ x) && decide (x ≤ 16)) = false := by
        rw [Bool.and_eq_false_iff]
        rw [Classical.not_and_iff_not_or_not] at hx
        exact hx.imp decide_eq_false decide_eq_false
      rw [e]
      refine iteT ⟨by show 1 ≤ sizeLine; decide, fun r nr => bad ?_ r nr⟩
      unfold Ie01.MOST
      omega
theorem free_of_same {H H' : Hp} (s : Same H H') : ∀ r, H' r = none → H r = none := fun _ n => s.free n
theorem Ok.marks_len {p : Ie01.Page} (o : Ok p) : p.cells.length ≤ 300 := by
  have := o.small
  rw [o.len]
  omega
abbrev sHBox : Stmt := top 64
theorem scHBox : FnScope ["page", "numbers", "how", "new"] ["page", "numbers"] (defScope sHBox) := ⟨rfl, rfl, rfl, by decide +kernel, rfl, by decide +kernel, by decide +kernel⟩
theorem ok_hbox {f : Addr} {fd : FuncData} {t u : Tok} (F : Fun K "answer_box" "answer_box" sHBox f fd) (T : Txt K mg C) (mL : mg "LAST_HOW" = some (.int 4 t)) (mB : mg "BAD_HOW" = some (.int (-2) u)) (cB : C8.Cal P w K mg base 1 "box_marks" spBox []) (cJ : C8.Cal P w K mg base 2 "joined" spJoined []) (cC : C8.Cal P w K mg base 1 "choose" (spChoose C) []) : FnOk P w K mg base CX0 8 f fd ["page", "numbers"] (spHand C 1) := by
  refine F.ok scHBox (fun vs H Q E h => ?_) (fun cdv A outer s H vs Q E hr h => ?_)
  · obtain ⟨a, l, p, ns, X, rfl, _⟩ := h
    rfl
  · obtain ⟨a, l, p, ns, X, rfl, hp, ok, hn, hX, hb, q⟩ := h
    obtain ⟨x, y, bu, bv, how, rfl, rfl⟩ := in_box hX
    refine ⟨_, pss_cons (ps_set (i := 2) scHBox.nd rfl (.inl rfl) (pe_ix ix_list (pv 1) pe_int (fun _ _ => rfl)))
      (pss_cons (ps_if (pt_cmpR op_gt (pv 2) (pe_glob (v := .int 4) (by rfl) mL ⟨t, rfl⟩) (nomark _)) (pss_one (ps_ret (pe_lst (pa_cons (pe_glob (v := .int (-2)) (by rfl) mB ⟨u, rfl⟩) pa_nil)))) pss_nil)
      (pss_cons (ps_set (i := 3) scHBox.nd rfl (.inl rfl) (C8.pe_c cB hr (by decide) (by rfl) (pa_cons (pe_fld (pv 0) rfl) (pa_cons (pe_ix ix_list (pv 1) pe_int (fun _ _ => rfl)) (pa_cons (pe_ix ix_list (pv 1) pe_int (fun _ _ => rfl)) (pa_cons (pe_ix ix_list (pv 1) pe_int (fun _ _ => rfl)) (pa_cons (pe_ix ix_list (pv 1) pe_int (fun _ _ => rfl)) pa_nil)))))))
      (pss_one (ps_ret (C8.pe_c cC hr (by decide) (by rfl) (pa_cons (pv 0) (pa_cons (C8.pe_c cJ hr (by decide) (by rfl) (pa_cons (pe_fld (pv 0) rfl) (pa_cons (pv 3) (pa_cons (pv 2) pa_nil)))) pa_nil))))))), ?_⟩
    refine ⟨_, rfl, l, _, _, _, rfl, rfl, SqL.of hn, nums_get (j := 4) rfl, ?_⟩
    refine ⟨_, rfl, _, _, rfl, rfl, _, rfl, ite2 (fun g => ?_) (fun g => ?_)⟩
    · refine ⟨by show 1 ≤ sizeLine; decide, fun r nr => ?_⟩
      have e : Ie01.step p (.box x y bu bv how) = (p, [-2]) := if_pos (by have := of_decide_eq_true g; omega)
      rw [e] at q
      exact q _ r (hp.same (same_upd nr)) ok (Same.but (same_upd nr)) nr upd_same
    · have h4 : how ≤ 4 := by
        rcases Nat.lt_or_ge 4 how with z | z
        · exact absurd (decide_eq_true (show (4 : Int) < (how : Int) by omega)) g
        · exact z
      have e : Ie01.step p (.box x y bu bv how) = Ie01.become (Ie01.Page.of p.w p.h fun c => Ie01.mix how (p.has c) (boxM x y bu bv c)) := if_neg (by omega)
      rw [e] at q
      obtain ⟨dx, lc, lm, ha, hc, hm⟩ := id hp
      have hle := ok.all_le
      have hme := ok.marks_len
      refine ⟨_, rfl, a, C, dx, _, _, rfl, ha, T.cl, T.nE, pF_cells _ _ _ _, ?_⟩
      refine ⟨_, rfl, l, _, _, _, rfl, rfl, SqL.of hn, nums_get (j := 0) rfl, _, rfl, l, _, _, _, rfl, rfl, SqL.of hn, nums_get (j := 1) rfl, _, rfl, l, _, _, _, rfl, rfl, SqL.of hn, nums_get (j := 2) rfl, _, rfl, l, _, _, _, rfl, rfl, SqL.of hn, nums_get (j := 3) rfl, ?_⟩
      refine ⟨lc, p.all, x, y, bu, bv, rfl, hc, by omega, fun H1 l1 s1 n1 e1 => ?_⟩
      refine ⟨_, rfl, _, rfl, a, C, dx, _, _, rfl, s1 _ _ ha, T.cl, T.nH, pF_chosen _ _ _ _, _, rfl, _, rfl, lm, l1, p.cells, _, how, rfl, s1 _ _ hm, e1, by rw [List.length_map]; exact ok.len_all.symm, hme, h4, fun H2 l2 s2 n2 e2 => ?_⟩
      rw [← join_cells ok] at e2
      exact chosen_then (E := E0) ((hp.same s1).same s2) e2 (Same.but (s1.trans s2)) (free_of_same (s1.trans s2)) (ok.of _) rfl rfl q
abbrev sHDisk : Stmt := top 65
theorem scHDisk : FnScope ["page", "numbers", "how", "new"] ["page", "numbers"] (defScope sHDisk) := ⟨rfl, rfl, rfl, by decide +kernel, rfl, by decide +kernel, by decide +kernel⟩
theorem ok_hdisk {f : Addr} {fd : FuncData} {t u : Tok} (F : Fun K "answer_disk" "answer_disk" sHDisk f fd) (T : Txt K mg C) (mL : mg "LAST_HOW" = some (.int 4 t)) (mB : mg "BAD_HOW" = some (.int (-2) u)) (cB : C8.Cal P w K mg base 2 "disk_marks" spDisk []) (cJ : C8.Cal P w K mg base 2 "joined" spJoined []) (cC : C8.Cal P w K mg base 1 "choose" (spChoose C) []) : FnOk P w K mg base CX0 8 f fd ["page", "numbers"] (spHand C 2) := by
  refine F.ok scHDisk (fun vs H Q E h => ?_) (fun cdv A outer s H vs Q E hr h => ?_)
  · obtain ⟨a, l, p, ns, X, rfl, _⟩ := h
    rfl
  · obtain ⟨a, l, p, ns, X, rfl, hp, ok, hn, hX, hb, q⟩ := h
    obtain ⟨x, y, r0, how, rfl, rfl⟩ := in_disk hX
    refine ⟨_, pss_cons (ps_set (i := 2) scHDisk.nd rfl (.inl rfl) (pe_ix ix_list (pv 1) pe_int (fun _ _ => rfl)))
      (pss_cons (ps_if (pt_cmpR op_gt (pv 2) (pe_glob (v := .int 4) (by rfl) mL ⟨t, rfl⟩) (nomark _)) (pss_one (ps_ret (pe_lst (pa_cons (pe_glob (v := .int (-2)) (by rfl) mB ⟨u, rfl⟩) pa_nil)))) pss_nil)
      (pss_cons (ps_set (i := 3) scHDisk.nd rfl (.inl rfl) (C8.pe_c cB hr (by decide) (by rfl) (pa_cons (pe_fld (pv 0) rfl) (pa_cons (pe_ix ix_list (pv 1) pe_int (fun _ _ => rfl)) (pa_cons (pe_ix ix_list (pv 1) pe_int (fun _ _ => rfl)) (pa_cons (pe_ix ix_list (pv 1) pe_int (fun _ _ => rfl)) pa_nil))))))
      (pss_one (ps_ret (C8.pe_c cC hr (by decide) (by rfl) (pa_cons (pv 0) (pa_cons (C8.pe_c cJ hr (by decide) (by rfl) (pa_cons (pe_fld (pv 0) rfl) (pa_cons (pv 3) (pa_cons (pv 2) pa_nil)))) pa_nil))))))), ?_⟩
    refine ⟨_, rfl, l, _, _, _, rfl, rfl, SqL.of hn, nums_get (j := 3) rfl, ?_⟩
    refine ⟨_, rfl, _, _, rfl, rfl, _, rfl, ite2 (fun g => ?_) (fun g => ?_)⟩
    · refine ⟨by show 1 ≤ sizeLine; decide, fun r nr => ?_⟩
      have e : Ie01.step p (.disk x y r0 how) = (p, [-2]) := if_pos (by have := of_decide_eq_true g; omega)
      rw [e] at q
      exact q _ r (hp.same (same_upd nr)) ok (Same.but (same_upd nr)) nr upd_same
    · have h4 : how ≤ 4 := by
        rcases Nat.lt_or_ge 4 how with z | z
        · exact absurd (decide_eq_true (show (4 : Int) < (how : Int) by omega)) g
        · exact z
      have e : Ie01.step p (.disk x y r0 how) = Ie01.become (Ie01.Page.of p.w p.h fun c => Ie01.mix how (p.has c) (decide (Ie01.far c (x, y) ≤ r0))) := if_neg (by omega)
      rw [e] at q
      obtain ⟨dx, lc, lm, ha, hc, hm⟩ := id hp
      have hle := ok.all_le
      have hme := ok.marks_len
      have x32 : x < 2 ^ 32 := hb x (by simp)
      have y32 : y < 2 ^ 32 := hb y (by simp)
      refine ⟨_, rfl, a, C, dx, _, _, rfl, ha, T.cl, T.nE, pF_cells _ _ _ _, ?_⟩
      refine ⟨_, rfl, l, _, _, _, rfl, rfl, SqL.of hn, nums_get (j := 0) rfl, _, rfl, l, _, _, _, rfl, rfl, SqL.of hn, nums_get (j := 1) rfl, _, rfl, l, _, _, _, rfl, rfl, SqL.of hn, nums_get (j := 2) rfl, ?_⟩
      refine ⟨lc, p.all, x, y, r0, rfl, hc, by omega, ok.all_small, x32, y32, fun H1 l1 s1 n1 e1 => ?_⟩
      refine ⟨_, rfl, _, rfl, a, C, dx, _, _, rfl, s1 _ _ ha, T.cl, T.nH, pF_chosen _ _ _ _, _, rfl, _, rfl, lm, l1, p.cells, _, how, rfl, s1 _ _ hm, e1, by rw [List.length_map]; exact ok.len_all.symm, hme, h4, fun H2 l2 s2 n2 e2 => ?_⟩
      rw [← join_cells ok] at e2
      exact chosen_then (E := E0) ((hp.same s1).same s2) e2 (Same.but (s1.trans s2)) (free_of_same (s1.trans s2)) (ok.of _) rfl rfl q
abbrev sHOver : Stmt := top 66
theorem scHOver : FnScope ["page", "numbers"] ["page", "numbers"] (defScope sHOver) := ⟨rfl, rfl, rfl, by decide +kernel, rfl, by decide +kernel, by decide +kernel⟩
theorem ok_hover {f : Addr} {fd : FuncData} (F : Fun K "answer_over" "answer_over" sHOver f fd) (T : Txt K mg C) (cO : C8.Cal P w K mg base 1 "turned_over" spOver []) (cC : C8.Cal P w K mg base 1 "choose" (spChoose C) []) : FnOk P w K mg base CX0 8 f fd ["page", "numbers"] (spHand C 3) := by
  refine F.ok scHOver (fun vs H Q E h => ?_) (fun cdv A outer s H vs Q E hr h => ?_)
  · obtain ⟨a, l, p, ns, X, rfl, _⟩ := h
    rfl
  · obtain ⟨a, l, p, ns, X, rfl, hp, ok, hn, hX, hb, q⟩ := h
    obtain ⟨rfl, rfl⟩ := in_over hX
    refine ⟨_, pss_one (ps_ret (C8.pe_c cC hr (by decide) (by rfl) (pa_cons (pv 0) (pa_cons (C8.pe_c cO hr (by decide) (by rfl) (pa_cons (pe_fld (pv 0) rfl) pa_nil)) pa_nil)))), ?_⟩
    obtain ⟨dx, lc, lm, ha, hc, hm⟩ := id hp
    refine ⟨_, rfl, _, rfl, a, C, dx, _, _, rfl, ha, T.cl, T.nH, pF_chosen _ _ _ _, lm, p.cells, rfl, hm, ok.marks_len, fun H1 l1 s1 n1 e1 => ?_⟩
    rw [← over_cells' ok] at e1
    exact chosen_then (E := E0) (hp.same s1) e1 (Same.but s1) (free_of_same s1) (over_ok ok) rfl rfl q
abbrev sHGrow : Stmt := top 67
theorem scHGrow : FnScope ["page", "numbers"] ["page", "numbers"] (defScope sHGrow) := ⟨rfl, rfl, rfl, by decide +kernel, rfl, by decide +kernel, by decide +kernel⟩
theorem ok_hgrow {f : Addr} {fd : FuncData} (F : Fun K "answer_grow" "answer_grow" sHGrow f fd) (T : Txt K mg C) (cG : C8.Cal P w K mg base 3 "grown" spGrown []) (cC : C8.Cal P w K mg base 1 "choose" (spChoose C) []) : FnOk P w K mg base CX0 8 f fd ["page", "numbers"] (spHand C 4) := by
  refine F.ok scHGrow (fun vs H Q E h => ?_) (fun cdv A outer s H vs Q E hr h => ?_)
  · obtain ⟨a, l, p, ns, X, rfl, _⟩ := h
    rfl
  · obtain ⟨a, l, p, ns, X, rfl, hp, ok, hn, hX, hb, q⟩ := h
    obtain ⟨r0, rfl, rfl⟩ := in_grow hX
    refine ⟨_, pss_one (ps_ret (C8.pe_c cC hr (by decide) (by rfl) (pa_cons (pv 0) (pa_cons (C8.pe_c cG hr (by decide) (by rfl) (pa_cons (pe_fld (pv 0) rfl) (pa_cons (pe_fld (pv 0) rfl) (pa_cons (pe_ix ix_list (pv 1) pe_int (fun _ _ => rfl)) pa_nil)))) pa_nil)))), ?_⟩
    obtain ⟨dx, lc, lm, ha, hc, hm⟩ := id hp
    have hle := ok.all_le
    refine ⟨_, rfl, _, rfl, a, C, dx, _, _, rfl, ha, T.cl, T.nE, pF_cells _ _ _ _, _, rfl, a, C, dx, _, _, rfl, ha, T.cl, T.nH, pF_chosen _ _ _ _, _, rfl, l, _, _, _, rfl, rfl, SqL.of hn, nums_get (j := 0) rfl, ?_⟩
    refine ⟨lc, lm, p.all, p.cells, r0, rfl, hc, hm, ok.len_all, by omega, ok.all_small, fun H1 l1 s1 n1 e1 => ?_⟩
    rw [← grow_cells ok] at e1
    exact chosen_then (E := E0) (hp.same s1) e1 (Same.but s1) (free_of_same s1) (grow_ok ok r0) rfl rfl q
abbrev sHRing : Stmt := top 69
theorem scHRing : FnScope ["page", "numbers"] ["page", "numbers"] (defScope sHRing) := ⟨rfl, rfl, rfl, by decide +kernel, rfl, by decide +kernel, by decide +kernel⟩
theorem ok_hring {f : Addr} {fd : FuncData} (F : Fun K "answer_ring" "answer_ring" sHRing f fd) (T : Txt K mg C) (cG : C8.Cal P w K mg base 4 "ring_marks" spRing []) (cC : C8.Cal P w K mg base 1 "choose" (spChoose C) []) : FnOk P w K mg base CX0 8 f fd ["page", "numbers"] (spHand C 6) := by
  refine F.ok scHRing (fun vs H Q E h => ?_) (fun cdv A outer s H vs Q E hr h => ?_)
  · obtain ⟨a, l, p, ns, X, rfl, _⟩ := h
    rfl
  · obtain ⟨a, l, p, ns, X, rfl, hp, ok, hn, hX, hb, q⟩ := h
    obtain ⟨r0, rfl, rfl⟩ := in_ring hX
    refine ⟨_, pss_one (ps_ret (C8.pe_c cC hr (by decide) (by rfl) (pa_cons (pv 0) (pa_cons (C8.pe_c cG hr (by decide) (by rfl) (pa_cons (pe_fld (pv 0) rfl) (pa_cons (pe_fld (pv 0) rfl) (pa_cons (pe_ix ix_list (pv 1) pe_int (fun _ _ => rfl)) pa_nil)))) pa_nil)))), ?_⟩
    obtain ⟨dx, lc, lm, ha, hc, hm⟩ := id hp
    have hle := ok.all_le
    refine ⟨_, rfl, _, rfl, a, C, dx, _, _, rfl, ha, T.cl, T.nE, pF_cells _ _ _ _, _, rfl, a, C, dx, _, _, rfl, ha, T.cl, T.nH, pF_chosen _ _ _ _, _, rfl, l, _, _, _, rfl, rfl, SqL.of hn, nums_get (j := 0) rfl, ?_⟩
    refine ⟨lc, lm, p.all, p.cells, r0, rfl, hc, hm, ok.len_all, by omega, ok.all_small, fun H1 l1 s1 n1 e1 => ?_⟩
    rw [← ring_cells ok] at e1
    exact chosen_then (E := E0) (hp.same s1) e1 (Same.but s1) (free_of_same s1) (ring_ok ok r0) rfl rfl q
abbrev sHFill : Stmt := top 70
theorem scHFill : FnScope ["page", "numbers"] ["page", "numbers"] (defScope sHFill) := ⟨rfl, rfl, rfl, by decide +kernel, rfl, by decide +kernel, by decide +kernel⟩
theorem ok_hfill {f : Addr} {fd : FuncData} (F : Fun K "answer_fill" "answer_fill" sHFill f fd) (cF : C8.Cal P w K mg base 5 "filled" (spFilled C) []) (cC : C8.Cal P w K mg base 1 "choose" (spChoose C) []) : FnOk P w K mg base CX0 8 f fd ["page", "numbers"] (spHand C 7) := by
  refine F.ok scHFill (fun vs H Q E h => ?_) (fun cdv A outer s H vs Q E hr h => ?_)
  · obtain ⟨a, l, p, ns, X, rfl, _⟩ := h
    rfl
  · obtain ⟨a, l, p, ns, X, rfl, hp, ok, hn, hX, hb, q⟩ := h
    obtain ⟨rfl, rfl⟩ := in_fill hX
    refine ⟨_, pss_one (ps_ret (C8.pe_c cC hr (by decide) (by rfl) (pa_cons (pv 0) (pa_cons (C8.pe_c cF hr (by decide) (by rfl) (pa_cons (pv 0) pa_nil)) pa_nil)))), ?_⟩
    refine ⟨_, rfl, _, rfl, a, p, rfl, hp, ok, fun H1 l1 s1 n1 e1 => ?_⟩
    exact chosen_then (E := E0) (hp.same s1) e1 (Same.but s1) (free_of_same s1) (filled_ok ok) rfl rfl q
abbrev sHShrink : Stmt := top 68
theorem scHShrink : FnScope ["page", "numbers", "outside_counts", "r", "left"] ["page", "numbers"] (defScope sHShrink) := ⟨rfl, rfl, rfl, by decide +kernel, rfl, by decide +kernel, by decide +kernel⟩
theorem ok_hshrink {f : Addr} {fd : FuncData} {t : Tok} (F : Fun K "answer_shrink" "answer_shrink" sHShrink f fd) (T : Txt K mg C) (mB : mg "BAD_OUTSIDE" = some (.int (-2) t)) (cS : C8.Cal P w K mg base 4 "shrunk" spShrunk []) (cO : C8.Cal P w K mg base 2 "shrunk_from_outside" (spSfo C) []) (cC : C8.Cal P w K mg base 1 "choose" (spChoose C) []) : FnOk P w K mg base CX0 8 f fd ["page", "numbers"] (spHand C 5) := by
  refine F.ok scHShrink (fun vs H Q E h => ?_) (fun cdv A outer s H vs Q E hr h => ?_)
  · obtain ⟨a, l, p, ns, X, rfl, _⟩ := h
    rfl
  · obtain ⟨a, l, p, ns, X, rfl, hp, ok, hn, hX, hb, q⟩ := h
    obtain ⟨e0, r0, rfl, rfl⟩ := in_shrink hX
    refine ⟨_, pss_cons (ps_set (i := 2) scHShrink.nd rfl (.inl rfl) (pe_ix ix_list (pv 1) pe_int (fun _ _ => rfl)))
      (pss_cons (ps_set (i := 3) scHShrink.nd rfl (.inl rfl) (pe_ix ix_list (pv 1) pe_int (fun _ _ => rfl)))
      (pss_cons (ps_if (pt_cmpR op_gt (pv 2) pe_int (nomark _)) (pss_one (ps_ret (pe_lst (pa_cons (pe_glob (v := .int (-2)) (by rfl) mB ⟨t, rfl⟩) pa_nil)))) pss_nil)
      (pss_cons (ps_set (i := 4) scHShrink.nd rfl (.inl rfl) (C8.pe_c cS hr (by decide) (by rfl) (pa_cons (pe_fld (pv 0) rfl) (pa_cons (pe_fld (pv 0) rfl) (pa_cons (pv 3) pa_nil)))))
      (pss_cons (ps_if (pt_cmpR op_eq (pv 2) pe_int (nomark _)) (pss_one (ps_set (i := 4) scHShrink.nd rfl (.inl rfl) (C8.pe_c cO hr (by decide) (by rfl) (pa_cons (pv 0) (pa_cons (pv 4) (pa_cons (pv 3) pa_nil)))))) pss_nil)
      (pss_one (ps_ret (C8.pe_c cC hr (by decide) (by rfl) (pa_cons (pv 0) (pa_cons (pv 4) pa_nil))))))))), ?_⟩
    refine ⟨_, rfl, l, _, _, _, rfl, rfl, SqL.of hn, nums_get (j := 0) rfl, ?_⟩
    refine ⟨_, rfl, l, _, _, _, rfl, rfl, SqL.of hn, nums_get (j := 1) rfl, ?_⟩
    refine ⟨_, rfl, _, _, rfl, rfl, _, rfl, ite2 (fun g => ?_) (fun g => ?_)⟩
    · refine ⟨by show 1 ≤ sizeLine; decide, fun r nr => ?_⟩
      have e : Ie01.step p (.shrink e0 r0) = (p, [-2]) := if_pos (by have := of_decide_eq_true g; omega)
      rw [e] at q
      exact q _ r (hp.same (same_upd nr)) ok (Same.but (same_upd nr)) nr upd_same
    · have h1 : e0 ≤ 1 := by
        rcases Nat.lt_or_ge 1 e0 with z | z
        · exact absurd (decide_eq_true (show (1 : Int) < (e0 : Int) by omega)) g
        · exact z
      have e : Ie01.step p (.shrink e0 r0) = Ie01.become (p.shrink (e0 == 1) r0) := if_neg (by omega)
      rw [e] at q
      obtain ⟨dx, lc, lm, ha, hc, hm⟩ := id hp
      have hle := ok.all_le
      refine ⟨_, rfl, a, C, dx, _, _, rfl, ha, T.cl, T.nE, pF_cells _ _ _ _, _, rfl, a, C, dx, _, _, rfl, ha, T.cl, T.nH, pF_chosen _ _ _ _, _, rfl, lc, lm, p.all, p.cells, r0, rfl, hc, hm, ok.len_all, by omega, ok.all_small, fun H1 l1 s1 n1 e1 => ?_⟩
      refine ⟨_, rfl, rfl, _, rfl, ite2 (fun g1 => ?_) (fun g1 => ?_)⟩
      · have e10 : e0 = 1 := by
          have := V.int.inj (of_decide_eq_true g1)
          omega
        subst e10
        refine ⟨_, rfl, _, rfl, _, rfl, a, l1, p, _, r0, rfl, hp.same s1, ok, e1, by rw [shrunkM_len ok.len_all], fun H2 l2 s2 n2 e2 => ?_⟩
        rw [← shrink1_cells ok] at e2
        exact ⟨_, rfl, _, rfl, chosen_then (E := E0) ((hp.same s1).same s2) e2 (Same.but (s1.trans s2)) (free_of_same (s1.trans s2)) (shrink_ok ok true r0) rfl rfl q⟩
      · have e00 : e0 = 0 := by
          rcases Nat.lt_or_ge 0 e0 with z | z
          · have : e0 = 1 := by omega
            subst this
            exact absurd (decide_eq_true rfl) g1
          · omega
        subst e00
        rw [← shrink0_cells ok] at e1
        exact ⟨_, rfl, _, rfl, chosen_then (E := E0) (hp.same s1) e1 (Same.but s1) (free_of_same s1) (shrink_ok ok false r0) rfl rfl q⟩
end
end SE
set_option maxRecDepth 100000
set_option maxHeartbeats 2000000
namespace SE
open PySem PySem.Spec PyProof.Rows L2
section
variable {P : Program} {w : World} {K : PySem.W.Frag} {mg : Str → Option Value} {base : Heap} {C : Addr}
/-! ### nearest -/
abbrev sNearest : Stmt := top 4
theorem scNearest : FnScope ["cell", "others", "found", "least", "other", "distance"] ["cell", "others"] (defScope sNearest) := ⟨rfl, rfl, rfl, by decide +kernel, rfl, by decide +kernel, by decide +kernel⟩
def spNearest : Sp := fun vs H Q _ => ∃ (v : V) (b : Addr) (c : Ie01.Cell) (cs : List Ie01.Cell), vs = [v, .ref b] ∧ CellAt H v c ∧ CellsAt H b cs ∧ cs ≠ [] ∧ Small c ∧ (∀ d ∈ cs, Small d) ∧
  ∀ u x, CellAt H u x → x ∈ cs → Ie01.nearest cs c = some (Ie01.far c x, x) → Q u H
theorem ok_nearest {f : Addr} {fd : FuncData} (F : Fun K "nearest" "nearest" sNearest f fd) (cA : C8.Cal P w K mg base 1 "apart" spApart []) : FnOk P w K mg base CX0 2 f fd ["cell", "others"] spNearest := by
  refine F.ok scNearest (fun vs H Q E h => ?_) (fun cdv A outer s H vs Q E hr h => ?_)
  · obtain ⟨v, b, c, cs, rfl, _⟩ := h
    rfl
  · obtain ⟨v, b, c, cs, rfl, ⟨a, rfl, ha⟩, ⟨xs, hx, hc⟩, hne, sc, scs, q⟩ := h
    refine ⟨_, pss_cons (ps_set (i := 2) scNearest.nd rfl (.inl rfl) (pe_ix ix_list (pv 1) pe_int (fun _ _ => rfl)))
      (pss_cons (ps_set (i := 3) scNearest.nd rfl (.inl rfl) (C8.pe_c cA hr (by decide) (by rfl) (pa_cons (pv 0) (pa_cons (pv 2) pa_nil))))
      (pss_cons (ps_for PassesOwn.never rfl (pi_list (pv 1)) (pg_name (i := 4) scNearest.nd rfl (.inl rfl))
        (pss_cons (ps_set (i := 5) scNearest.nd rfl (.inl rfl) (C8.pe_c cA hr (by decide) (by rfl) (pa_cons (pv 0) (pa_cons (pv 4) pa_nil))))
        (pss_one (ps_if (pt_cmpR op_lt (pv 5) (pv 3) (nomark _)) (pss_cons (ps_set (i := 2) scNearest.nd rfl (.inl rfl) (pv 4)) (pss_one (ps_set (i := 3) scNearest.nd rfl (.inl rfl) (pv 5)))) pss_nil))))
      (pss_one (ps_ret (pv 2))))), ?_⟩
    obtain ⟨x0, r, rfl⟩ : ∃ x0 r, cs = x0 :: r := match cs, hne with
      | x0 :: r, _ => ⟨x0, r, rfl⟩
    obtain ⟨v0, e0, a0, rfl, h0⟩ := hc.2 0 x0 rfl
    refine ⟨_, rfl, b, _, _, _, rfl, rfl, SqL.of hx, atI_nat (j := 0) e0, ?_⟩
    refine ⟨_, rfl, _, rfl, a, a0, ic c, ic x0, rfl, ha, h0, sc.mid, (scs x0 List.mem_cons_self).mid, ?_⟩
    rw [far_apart]
    refine ⟨_, rfl, b, rfl, ⟨_, SqL.of hx⟩, for_list (K := K) (a := b) (xs := xs) (fun i σ H' => ∃ u4 u5 g x, σ = [some (.ref a), some (.ref b), some (.ref g), some (.int ((Ie01.far c x : Nat) : Int)), u4, u5] ∧ H' = H ∧ H g = some (.tup (cellV x)) ∧ x ∈ x0 :: r ∧ Ie01.nearest (x0 :: (x0 :: r).take i) c = some (Ie01.far c x, x))
      ⟨none, none, a0, x0, rfl, rfl, h0, List.mem_cons_self, rfl⟩ (fun i σ H' _ ⟨_, _, _, _, _, e, _⟩ => e ▸ SqL.of hx) ?_ ?_⟩
    · rintro i y σ H' hi ⟨u4, u5, g, x, rfl, rfl, hg, hxm, hn⟩
      obtain ⟨d, ed, e, rfl, he⟩ := hc.get hi
      refine ⟨_, rfl, _, rfl, a, e, ic c, ic d, rfl, ha, he, sc.mid, (scs d (List.mem_of_getElem? ed)).mid, ?_⟩
      rw [far_apart]
      have hst := nearest_step ed hn
      refine ⟨_, rfl, _, rfl, _, _, rfl, rfl, _, rfl, ite2 (fun hb => ?_) (fun hb => ?_)⟩
      · have hb' : Ie01.far c d < Ie01.far c x := by have := of_decide_eq_true hb; omega
        rw [if_pos hb'] at hst
        exact ⟨_, rfl, _, rfl, _, _, e, d, rfl, rfl, he, List.mem_of_getElem? ed, hst⟩
      · have hb' : ¬ Ie01.far c d < Ie01.far c x := fun z => hb (decide_eq_true (by omega))
        rw [if_neg hb'] at hst
        exact ⟨_, _, g, x, rfl, rfl, hg, hxm, hst⟩
    · rintro σ H' ⟨u4, u5, g, x, rfl, rfl, hg, hxm, hn⟩
      rw [List.take_of_length_le (by rw [hc.1]; exact Nat.le_refl _), nearest_twice] at hn
      exact ⟨_, rfl, q _ x ⟨g, rfl, hg⟩ hxm hn⟩
/-! ### root -/
abbrev sRoot : Stmt := top 45
theorem scRoot : FnScope ["number", "found", "part", "tried"] ["number"] (defScope sRoot) := ⟨rfl, rfl, rfl, by decide +kernel, rfl, by decide +kernel, by decide +kernel⟩
def natV (l : List Nat) : List V := l.map fun (n : Nat) => V.int (n : Int)
def spRoot : Sp := fun vs H Q _ => ∃ n : Nat, vs = [.int (n : Int)] ∧ ∀ s, RInv n 8 s → Q (.int ((s : Nat) : Int)) H
theorem ok_root {f t : Addr} {fd : FuncData} (F : Fun K "root" "root" sRoot f fd) (mR : mg "ROOT_PARTS" = some (.ref t)) (hp : ∀ H, SqT K H t (natV rootParts)) : FnOk P w K mg base CX0 1 f fd ["number"] spRoot := by
  refine F.ok scRoot (fun vs H Q E h => ?_) (fun cdv A outer s H vs Q E hr h => ?_)
  · obtain ⟨n, rfl, _⟩ := h
    rfl
  · obtain ⟨n, rfl, q⟩ := h
    refine ⟨_, pss_cons (ps_set (i := 1) scRoot.nd rfl (.inl rfl) pe_int)
      (pss_cons (ps_for PassesOwn.never rfl (pi_tup (pe_glob (v := .ref t) (by rfl) mR rfl)) (pg_name (i := 2) scRoot.nd rfl (.inl rfl))
        (pss_cons (ps_set (i := 3) scRoot.nd rfl (.inl rfl) (pe_op op_add (pv 1) (pv 2)))
        (pss_one (ps_if (pt_cmpR op_le (pe_op op_mul (pv 3) (pv 3)) (pv 0) (nomark _)) (pss_one (ps_set (i := 1) scRoot.nd rfl (.inl rfl) (pv 3))) pss_nil))))
      (pss_one (ps_ret (pv 1)))), ?_⟩
    refine ⟨t, rfl, ⟨_, hp H⟩, for_tup (K := K) (a := t) (xs := natV rootParts) (fun i σ H' => ∃ u2 u3 s, σ = [some (.int (n : Int)), some (.int ((s : Nat) : Int)), u2, u3] ∧ H' = H ∧ RInv n i s) ⟨none, none, 0, rfl, rfl, RInv.start n⟩ (fun i σ H' _ _ => hp H') ?_ ?_⟩
    · rintro i y σ H' hi ⟨u2, u3, s, rfl, rfl, hs⟩
      unfold natV at hi
      rw [List.getElem?_map] at hi
      cases ep : rootParts[i]? with
      | none => rw [ep] at hi; cases hi
      | some p =>
        rw [ep] at hi
        cases hi
        have hm := hs.most
        obtain ⟨_, _, p128⟩ := parts_at ep
        refine ⟨_, rfl, _, rfl, _, _, rfl, rfl, ?_⟩
        refine ⟨_, rfl, _, rfl, _, _, rfl, rfl, .inl ⟨by omega, by omega⟩, _, rfl, _, _, rfl, rfl, _, rfl, ?_⟩
        have e : ((s : Int) + (p : Int)) * ((s : Int) + (p : Int)) = (((s + p) * (s + p) : Nat) : Int) := by
          rw [Int.natCast_mul, Int.natCast_add]
        have e2 : ((s : Int) + (p : Int)) = ((s + p : Nat) : Int) := by omega
        refine ite2 (fun hb => ?_) (fun hb => ?_)
        · have hb' : (s + p) * (s + p) ≤ n := by
            have := of_decide_eq_true hb
            rw [e] at this
            omega
          refine ⟨_, rfl, some (.int (p : Int)), some (.int ((s : Int) + (p : Int))), s + p, ?_, rfl, hs.yes ep hb'⟩
          rw [← e2]
          rfl
        · have hb' : ¬ (s + p) * (s + p) ≤ n := fun z => hb (decide_eq_true (by rw [e]; omega))
          exact ⟨_, _, s, rfl, rfl, hs.no ep hb'⟩
    · rintro σ H' ⟨u2, u3, s, rfl, rfl, hs⟩
      exact ⟨_, rfl, q s hs⟩
/-! ### steps_off -/
abbrev sSteps : Stmt := top 46
theorem scSteps : FnScope ["cell", "others", "k", "d"] ["cell", "others", "k"] (defScope sSteps) := ⟨rfl, rfl, rfl, by decide +kernel, rfl, by decide +kernel, by decide +kernel⟩
def spSteps : Sp := fun vs H Q _ => ∃ (v : V) (b : Addr) (c : Ie01.Cell) (cs : List Ie01.Cell) (k : Nat), vs = [v, .ref b, .int (k : Int)] ∧ CellAt H v c ∧ CellsAt H b cs ∧ cs ≠ [] ∧ Small c ∧ (∀ d ∈ cs, Small d) ∧ 1 ≤ k ∧ k ≤ 64 ∧
  ∀ z, Ie01.nearest cs c = some z → Q (.int ((Ie01.steps k z.1 : Nat) : Int)) H
theorem ok_steps {f : Addr} {fd : FuncData} (F : Fun K "steps_off" "steps_off" sSteps f fd) (cA : C8.Cal P w K mg base 1 "apart" spApart []) (cN : C8.Cal P w K mg base 2 "nearest" spNearest []) (cR : C8.Cal P w K mg base 1 "root" spRoot []) : FnOk P w K mg base CX0 3 f fd ["cell", "others", "k"] spSteps := by
  refine F.ok scSteps (fun vs H Q E h => ?_) (fun cdv A outer s H vs Q E hr h => ?_)
  · obtain ⟨v, b, c, cs, k, rfl, _⟩ := h
    rfl
  · obtain ⟨v, b, c, cs, k, rfl, hv, hb, hne, sc, scs, k1, k64, q⟩ := h
    refine ⟨_, pss_cons (ps_set (i := 3) scSteps.nd rfl (.inl rfl) (C8.pe_c cA hr (by decide) (by rfl) (pa_cons (pv 0) (pa_cons (C8.pe_c cN hr (by decide) (by rfl) (pa_cons (pv 0) (pa_cons (pv 1) pa_nil))) pa_nil))))
      (pss_one (ps_ret (C8.pe_c cR hr (by decide) (by rfl) (pa_cons (pe_op op_fdiv (pe_op op_mul pe_int (pv 3)) (pe_op op_mul (pv 2) (pv 2))) pa_nil)))), ?_⟩
    refine ⟨_, rfl, _, rfl, _, rfl, v, b, c, cs, rfl, hv, hb, hne, sc, scs, fun u x hu hxm hn => ?_⟩
    obtain ⟨a, rfl, ha⟩ := hv
    obtain ⟨g, rfl, hg⟩ := hu
    refine ⟨a, g, ic c, ic x, rfl, ha, hg, sc.mid, (scs x hxm).mid, ?_⟩
    rw [far_apart]
    have kk : 1 * 1 ≤ k * k ∧ k * k ≤ 64 * 64 := ⟨Nat.mul_le_mul k1 k1, Nat.mul_le_mul k64 k64⟩
    have ek : (k : Int) * (k : Int) = ((k * k : Nat) : Int) := by rw [Int.natCast_mul]
    refine ⟨_, rfl, _, _, rfl, rfl, .inl ⟨by decide, by decide⟩, _, rfl, _, rfl, _, _, rfl, rfl, .inl ⟨by omega, by omega⟩, _, _, rfl, rfl, ?_, ?_⟩
    · rw [ek]
      exact ⟨by omega, by omega⟩
    · refine ⟨Ie01.far c x * 16384 / (k * k), ?_, fun s hs => ?_⟩
      · show [V.int _] = _
        rw [Int.natCast_ediv, ek, Int.natCast_mul, Int.mul_comm]
        rfl
      · have := q _ hn
        rw [hs.ends] at this
        exact this
/-! ### chosen_degree, unchosen_degree -/
abbrev sCDeg : Stmt := top 47
theorem scCDeg : FnScope ["cell", "unchosen", "k"] ["cell", "unchosen", "k"] (defScope sCDeg) := ⟨rfl, rfl, rfl, by decide +kernel, rfl, by decide +kernel, by decide +kernel⟩
def spDeg (g : List Ie01.Cell → Nat → Ie01.Cell → Nat) : Sp := fun vs H Q _ => ∃ (v : V) (b : Addr) (c : Ie01.Cell) (cs : List Ie01.Cell) (k : Nat), vs = [v, .ref b, .int (k : Int)] ∧ CellAt H v c ∧ CellsAt H b cs ∧ Small c ∧ (∀ d ∈ cs, Small d) ∧ 1 ≤ k ∧ k ≤ 64 ∧
  Q (.int ((g cs k c : Nat) : Int)) H
theorem ok_cdeg {f : Addr} {fd : FuncData} {t : Tok} (F : Fun K "chosen_degree" "chosen_degree" sCDeg f fd) (mG : mg "GREATEST_DEGREE" = some (.int 255 t)) (mm : mg "min" = none) (cS : C8.Cal P w K mg base 3 "steps_off" spSteps []) : FnOk P w K mg base CX0 4 f fd ["cell", "unchosen", "k"] (spDeg chosenDeg) := by
  refine F.ok scCDeg (fun vs H Q E h => ?_) (fun cdv A outer s H vs Q E hr h => ?_)
  · obtain ⟨v, b, c, cs, k, rfl, _⟩ := h
    rfl
  · obtain ⟨v, b, c, cs, k, rfl, hv, ⟨xs, hx, hc⟩, sc, scs, k1, k64, q⟩ := h
    refine ⟨_, pss_cons (ps_if (pt_not (pt_truth (pv 1) (by intro _; rfl))) (pss_one (ps_ret (pe_glob (v := .int 255) (by rfl) mG ⟨t, rfl⟩))) pss_nil)
      (pss_one (ps_ret (pe_callB (call_min2 rfl) (by rfl) mm (by decide +kernel) (pa_cons (pe_glob (v := .int 255) (by rfl) mG ⟨t, rfl⟩) (pa_cons (pe_op op_add pe_int (C8.pe_c cS hr (by decide) (by rfl) (pa_cons (pv 0) (pa_cons (pv 1) (pa_cons (pv 2) pa_nil))))) pa_nil))))), ?_⟩
    refine ⟨_, rfl, _, .inl ⟨xs, SqL.of hx, rfl⟩, ?_⟩
    by_cases hcs : cs = []
    · subst hcs
      have hxs : xs = [] := List.eq_nil_of_length_eq_zero hc.1
      subst hxs
      exact iteT q
    · have hxs : xs.isEmpty = false := by
        cases xs with
        | nil => exact absurd (List.eq_nil_of_length_eq_zero hc.1.symm) hcs
        | cons _ _ => rfl
      rw [hxs]
      refine iteF ?_
      refine ⟨_, rfl, _, rfl, _, rfl, v, b, c, cs, k, rfl, hv, ⟨xs, hx, hc⟩, hcs, sc, scs, k1, k64, fun z hz => ?_⟩
      refine ⟨_, _, rfl, rfl, _, _, rfl, ?_⟩
      have e : (if (127 : Int) + ((Ie01.steps k z.1 : Nat) : Int) < 255 then (127 : Int) + ((Ie01.steps k z.1 : Nat) : Int) else 255) = ((chosenDeg cs k c : Nat) : Int) := by
        unfold chosenDeg
        rw [hz]
        dsimp only
        split <;> omega
      rw [e]
      exact q
abbrev sUDeg : Stmt := top 48
theorem scUDeg : FnScope ["cell", "chosen", "k"] ["cell", "chosen", "k"] (defScope sUDeg) := ⟨rfl, rfl, rfl, by decide +kernel, rfl, by decide +kernel, by decide +kernel⟩
theorem ok_udeg {f : Addr} {fd : FuncData} {t : Tok} (F : Fun K "unchosen_degree" "unchosen_degree" sUDeg f fd) (mG : mg "LEAST_DEGREE" = some (.int 0 t)) (mm : mg "max" = none) (cS : C8.Cal P w K mg base 3 "steps_off" spSteps []) : FnOk P w K mg base CX0 4 f fd ["cell", "chosen", "k"] (spDeg unchosenDeg) := by
  refine F.ok scUDeg (fun vs H Q E h => ?_) (fun cdv A outer s H vs Q E hr h => ?_)
  · obtain ⟨v, b, c, cs, k, rfl, _⟩ := h
    rfl
  · obtain ⟨v, b, c, cs, k, rfl, hv, ⟨xs, hx, hc⟩, sc, scs, k1, k64, q⟩ := h
    refine ⟨_, pss_cons (ps_if (pt_not (pt_truth (pv 1) (by intro _; rfl))) (pss_one (ps_ret (pe_glob (v := .int 0) (by rfl) mG ⟨t, rfl⟩))) pss_nil)
      (pss_one (ps_ret (pe_callB (call_max2 rfl) (by rfl) mm (by decide +kernel) (pa_cons (pe_glob (v := .int 0) (by rfl) mG ⟨t, rfl⟩) (pa_cons (pe_op op_sub pe_int (C8.pe_c cS hr (by decide) (by rfl) (pa_cons (pv 0) (pa_cons (pv 1) (pa_cons (pv 2) pa_nil))))) pa_nil))))), ?_⟩
    refine ⟨_, rfl, _, .inl ⟨xs, SqL.of hx, rfl⟩, ?_⟩
    by_cases hcs : cs = []
    · subst hcs
      have hxs : xs = [] := List.eq_nil_of_length_eq_zero hc.1
      subst hxs
      exact iteT q
    · have hxs : xs.isEmpty = false := by
        cases xs with
        | nil => exact absurd (List.eq_nil_of_length_eq_zero hc.1.symm) hcs
        | cons _ _ => rfl
      rw [hxs]
      refine iteF ?_
      refine ⟨_, rfl, _, rfl, _, rfl, v, b, c, cs, k, rfl, hv, ⟨xs, hx, hc⟩, hcs, sc, scs, k1, k64, fun z hz => ?_⟩
      refine ⟨_, _, rfl, rfl, _, _, rfl, ?_⟩
      have e : (if (128 : Int) - ((Ie01.steps k z.1 : Nat) : Int) > 0 then (128 : Int) - ((Ie01.steps k z.1 : Nat) : Int) else 0) = ((unchosenDeg cs k c : Nat) : Int) := by
        unfold unchosenDeg
        rw [hz]
        dsimp only
        split <;> omega
      rw [e]
      exact q
/-! ### degrees -/
abbrev sDegs : Stmt := top 49
theorem scDegs : FnScope ["page", "k", "chosen", "unchosen", "cell", "is_chosen"] ["page", "k"] (defScope sDegs) := ⟨rfl, rfl, rfl, by decide +kernel, rfl, by decide +kernel, by decide +kernel⟩
def spDegs (C : Addr) : Sp := fun vs H Q _ => ∃ (a : Addr) (p : Ie01.Page) (k : Nat), vs = [.ref a, .int (k : Int)] ∧ PageAt C H a p ∧ Ok p ∧ 1 ≤ k ∧ k ≤ 64 ∧
  ∀ H' l, Same H H' → H l = none → H' l = some (.lst ((casts (p.soft k)).map V.int)) → Q (.ref l) H'
theorem ok_degs {f : Addr} {fd : FuncData} (F : Fun K "degrees" "degrees" sDegs f fd) (T : Txt K mg C) (mz : mg "zip" = none) (cC : C8.Cal P w K mg base 2 "chosen_cells" (spChosen C) []) (cU : C8.Cal P w K mg base 2 "unchosen_cells" (spUnchosen C) [])
    (cCD : C8.Cal P w K mg base 4 "chosen_degree" (spDeg chosenDeg) []) (cUD : C8.Cal P w K mg base 4 "unchosen_degree" (spDeg unchosenDeg) []) : FnOk P w K mg base CX0 5 f fd ["page", "k"] (spDegs C) := by
  refine F.ok scDegs (fun vs H Q E h => ?_) (fun cdv A outer s H vs Q E hr h => ?_)
  · obtain ⟨a, p, k, rfl, _⟩ := h
    rfl
  · obtain ⟨a, p, k, rfl, hp, ok, k1, k64, q⟩ := h
    refine ⟨_, pss_cons (ps_set (i := 2) scDegs.nd rfl (.inr rfl) (C8.pe_c cC hr (by decide) (by rfl) (pa_cons (pv 0) pa_nil)))
      (pss_cons (ps_set (i := 3) scDegs.nd rfl (.inr rfl) (C8.pe_c cU hr (by decide) (by rfl) (pa_cons (pv 0) pa_nil)))
      (pss_one (ps_ret (pe_lc (own := [("cell", 4), ("is_chosen", 5)]) (g := gTup K 2 (gCons (gName 4) (gCons (gName 5) gNil))) rfl scDegs.nd (pi_zip (by rfl) mz (pa_cons (pe_fld (pv 0) rfl) (pa_cons (pe_fld (pv 0) rfl) pa_nil)))
      (blkOk_by (own := [("cell", 4), ("is_chosen", 5)]) (N := ["page", "k", "chosen", "unchosen", "cell", "is_chosen"]) (sc := defScope sDegs) (by decide +kernel))
      (fun _ _ _ _ _ => pg_tup rfl (pgs_cons (pg_name (i := 4) scDegs.nd rfl (.inl rfl)) (pgs_cons (pg_name (i := 5) scDegs.nd rfl (.inl rfl)) pgs_nil)))
      (fun _ _ _ _ _ => pts_nil) (fun _ _ _ _ _ => pe_ifExp (pt_val (pv 5)) (C8.pe_c cCD hr (by decide) (by rfl) (pa_cons (pv 4) (pa_cons (pv 3) (pa_cons (pv 1) pa_nil)))) (C8.pe_c cUD hr (by decide) (by rfl) (pa_cons (pv 4) (pa_cons (pv 2) (pa_cons (pv 1) pa_nil)))))))))  , ?_⟩
    refine ⟨_, rfl, a, p, rfl, hp, ok, fun H1 l1 s1 n1 e1 => ?_⟩
    refine ⟨_, rfl, a, p, rfl, hp.same s1, ok, fun H2 l2 s2 n2 e2 => ?_⟩
    have s12 : Same H H2 := s1.trans s2
    obtain ⟨dx, lc, lm, ha, ⟨xs, hx, hc⟩, hm⟩ := hp.same s12
    have e12 := e1.same s2
    have hlen := ok.len_all
    have hle := ok.all_le
    refine ⟨_, rfl, a, C, dx, _, _, rfl, ha, T.cl, T.nE, pF_cells _ _ _ _, _, rfl, a, C, dx, _, _, rfl, ha, T.cl, T.nH, pF_chosen _ _ _ _, lc, lm, xs, p.cells.map V.bl, rfl, SqL.of hx, SqL.of hm, fun D hD => ?_⟩
    have hxl : (p.all.zip p.cells).length = p.all.length := by
      rw [List.length_zip]
      omega
    have smA := ok.all_small
    have smC : ∀ d ∈ p.chosen, Small d := fun d hd => smA d (List.mem_filter.mp hd).1
    have smU : ∀ d ∈ p.over.chosen, Small d := fun d hd => smA d (List.mem_filter.mp hd).1
    refine lc_same (walk_zip (K := K) (xs := xs) (ys := p.cells.map V.bl) (n := (p.all.zip p.cells).length) (by rw [hxl, List.length_map, hc.1]; omega)) (fun i => ((p.all.zip p.cells)[i]?).map fun q => V.int (((if q.2 = true then chosenDeg p.over.chosen k q.1 else unchosenDeg p.chosen k q.1 : Nat)) : Int)) (by rw [hxl]; omega) hD (fun H s => ⟨s.seq (SqL.of hx), s.seq (SqL.of hm)⟩) ypair_same ?_ ?_
    · rintro i x H4 H5 N hi s4 ⟨T', x1, y1, rfl, nT, rfl, f1, f2⟩ hN
      obtain ⟨m, em, rfl⟩ := marks_get f2
      obtain ⟨c, ec, hcell⟩ := hc.get f1
      have ez : (p.all.zip p.cells)[i]? = some (c, m) := by
        rw [List.getElem?_zip_eq_some]
        exact ⟨ec, em⟩
      simp only [ez, Option.map_some] at hN
      have s5 : Same H2 (upd H4 T' (.tup [x1, .bl m])) := s4.trans (same_upd nT)
      have smc := smA c (List.mem_of_getElem? ec)
      refine ⟨T', _, rfl, SqT.of upd_same, rfl, _, _, rfl, .bl m, _, rfl, rfl, rfl, ?_⟩
      refine ⟨_, rfl, m, rfl, ?_⟩
      cases m
      · refine iteF ⟨_, rfl, _, rfl, _, rfl, x1, l1, c, p.chosen, k, rfl, hcell.same s5, e12.same s5, smc, smC, k1, k64, ?_⟩
        exact hN _ (Same.refl _)
      · refine iteT ⟨_, rfl, _, rfl, _, rfl, x1, l2, c, p.over.chosen, k, rfl, hcell.same s5, e2.same s5, smc, smU, k1, k64, ?_⟩
        exact hN _ (Same.refl _)
    · intro H4 s4 eD
      refine q _ _ (s12.trans s4) (s12.free hD) ?_
      rw [outs_map] at eD
      rw [eD, soft_is ok]
      unfold casts
      rw [List.map_map, List.map_map]
      rfl
end
end SE
set_option maxRecDepth 100000
set_option maxHeartbeats 2000000
namespace SE
open PySem PySem.Spec PyProof.Rows L2
/-- values that are cells, those of some kind alone -/
theorem CellsV.filter {H : Hp} {vs : List V} {cs : List Ie01.Cell} (h : CellsV H vs cs) (g : Ie01.Cell → Bool) : CellsV H (((vs.zip cs).filter fun q => g q.2).map (·.1)) (cs.filter g) := by
  obtain ⟨h1, h2⟩ := h
  induction vs generalizing cs with
  | nil =>
    cases cs with
    | nil => exact ⟨rfl, fun i c e => by cases e⟩
    | cons _ _ => simp at h1
  | cons v vs ih =>
    cases cs with
    | nil => simp at h1
    | cons c cs =>
      have ih' := ih (cs := cs) (by simpa using h1) (fun i c e => h2 (i + 1) c e)
      have h0 := h2 0 c rfl
      rw [List.zip_cons_cons, List.filter_cons, List.filter_cons]
      cases g c
      · exact ih'
      · simp only [if_true, List.map_cons]
        refine ⟨by simpa using ih'.1, fun i c' e => ?_⟩
        cases i with
        | zero =>
          cases e
          obtain ⟨v', e1, e2⟩ := h0
          cases e1
          exact ⟨v, rfl, e2⟩
        | succ i => exact ih'.2 i c' e
theorem lacks_val (cs : List Ie01.Cell) (s : IC) (c : Ie01.Cell) : (!(valV (kvsOf cs) [.inl ((c.1 : Int) + s.1), .inl ((c.2 : Int) + s.2)]).isSome) = lacks cs s c := by
  unfold lacks
  congr 1
  rw [Bool.eq_iff_iff, val_some, List.any_eq_true]
  constructor
  · rintro ⟨d, hd, e⟩
    refine ⟨d, hd, ?_⟩
    rw [Bool.and_eq_true, decide_eq_true_eq, decide_eq_true_eq]
    exact ⟨Sum.inl.inj (List.cons.inj e).1, Sum.inl.inj (List.cons.inj (List.cons.inj e).2).1⟩
  · rintro ⟨d, hd, e⟩
    rw [Bool.and_eq_true, decide_eq_true_eq, decide_eq_true_eq] at e
    refine ⟨d, hd, ?_⟩
    unfold ck
    rw [e.1, e.2]
section
variable {P : Program} {w : World} {K : PySem.W.Frag} {mg : Str → Option Value} {base : Heap} {C : Addr}
/-! ### without_beside -/
abbrev sWithout : Stmt := top 32
theorem scWithout : FnScope ["cells", "step", "members", "cell"] ["cells", "step"] (defScope sWithout) := ⟨rfl, rfl, rfl, by decide +kernel, rfl, by decide +kernel, by decide +kernel⟩
def spWithout (K : PySem.W.Frag) : Sp := fun vs H Q _ => ∃ (l b : Addr) (cs : List Ie01.Cell) (s : IC), vs = [.ref l, .ref b] ∧ CellsAt H l cs ∧ cs.Nodup ∧ cs.length ≤ 300 ∧ SqT K H b (icV s) ∧
  ∀ H' p, Same H H' → H p = none → CellsAt H' p (without cs s) → Q (.ref p) H'
theorem ok_without {f : Addr} {fd : FuncData} (F : Fun K "without_beside" "without_beside" sWithout f fd) (cV : C8.Cal P w K mg base 1 "moved" (spMoved K) []) (cL : C8.Cal P w K mg base 2 "members_of" spMembers []) : FnOk P w K mg base CX0 3 f fd ["cells", "step"] (spWithout K) := by
  refine F.ok scWithout (fun vs H Q E h => ?_) (fun cdv A outer s H vs Q E hr h => ?_)
  · obtain ⟨l, b, cs, st, rfl, _⟩ := h
    rfl
  · obtain ⟨l, b, cs, st, rfl, hl, hnd, h300, hb, q⟩ := h
    have hu := hu_of hr
    refine ⟨_, pss_cons (ps_set (i := 2) scWithout.nd rfl (.inr rfl) (C8.pe_c cL hr (by decide) (by rfl) (pa_cons (pv 0) pa_nil)))
      (pss_one (ps_ret (pe_lc (own := [("cell", 3)]) (g := gName 3) (tt := tB (tDNotIn (tCall (spMoved K) [] E0 (tCons (tVar 3) (tCons (tVar 1) tNil))) (tVar 2))) rfl scWithout.nd (pi_list (pv 0))
      (blkOk_by (own := [("cell", 3)]) (N := ["cells", "step", "members", "cell"]) (sc := defScope sWithout) (by decide +kernel))
      (fun _ _ _ _ _ => pg_name (i := 3) scWithout.nd rfl (.inl rfl))
      (fun _ _ _ _ _ => pts_one (pt_cmp (pc_dnotin hu (C8.pe_c cV hr (by decide) (by rfl) (pa_cons (pv 3) (pa_cons (pv 1) pa_nil))) (pv 2)))) (fun _ _ _ _ _ => pv 3)))), ?_⟩
    refine ⟨_, rfl, l, cs, rfl, hl, hnd, h300, fun H1 m s1 nm e1 => ?_⟩
    obtain ⟨xs, hx, hc⟩ := hl.same s1
    have hb1 := sqT_same s1 hb
    refine ⟨_, rfl, l, rfl, ⟨_, SqL.of hx⟩, fun D hD => ?_⟩
    have hz : (xs.zip cs).length = xs.length := by rw [List.length_zip, hc.1]; omega
    refine lc_same (walk_list (K := K) (xs := xs)) (fun i => ((xs.zip cs)[i]?).bind fun q => if lacks cs st q.2 = true then some q.1 else none) (by rw [hc.1]; omega) hD (fun H s => s.seq (SqL.of hx)) yat_same ?_ ?_
    · rintro i x H4 H5 N hi s4 ⟨rfl, ex⟩ hN
      obtain ⟨c, ec, e, rfl, he⟩ := hc.get ex
      have ez : (xs.zip cs)[i]? = some (.ref e, c) := by
        rw [List.getElem?_zip_eq_some]
        exact ⟨ex, ec⟩
      simp only [ez, Option.bind_some] at hN
      refine ⟨rfl, _, rfl, _, rfl, e, b, ((c.1 : Int), (c.2 : Int)), st, rfl, SqT.of (s4 _ _ he), sqT_same s4 hb1, fun t nt => ?_⟩
      have s5 : Same H5 (upd H5 t (.tup [.int ((c.1 : Int) + st.1), .int ((c.2 : Int) + st.2)])) := same_upd nt
      have et : (upd H5 t (.tup [.int ((c.1 : Int) + st.1), .int ((c.2 : Int) + st.2)])) t = some (.tup (([.inl ((c.1 : Int) + st.1), .inl ((c.2 : Int) + st.2)] : List Key).map kV)) := upd_same
      have em : DictAt (upd H5 t (.tup [.int ((c.1 : Int) + st.1), .int ((c.2 : Int) + st.2)])) m cs := s5 _ _ (s4 _ _ e1)
      refine ⟨_, rfl, m, _, rfl, DGet.t em et, _, rfl, ?_⟩
      rw [lacks_val]
      refine ite2 (fun hb => ?_) (fun hb => ?_)
      · rw [if_pos hb] at hN
        exact ⟨_, rfl, hN _ s5⟩
      · rw [if_neg hb] at hN
        exact hN _ s5
    · intro H4 s4 eD
      rw [← hz, outs_filter (xs.zip cs) (fun q => lacks cs st q.2) (·.1)] at eD
      exact q _ _ (s1.trans s4) (s1.free hD) ⟨_, eD, (hc.filter (lacks cs st)).same s4⟩
/-! ### runs_told -/
abbrev sRTold : Stmt := top 33
theorem scRTold : FnScope ["cells", "firsts", "lasts", "numbers", "first", "last"] ["cells"] (defScope sRTold) := ⟨rfl, rfl, rfl, by decide +kernel, rfl, by decide +kernel, by decide +kernel⟩
def IntsAt (H : Hp) (l : Addr) (ns : List Nat) : Prop := H l = some (.lst ((casts ns).map V.int))
def spRTold : Sp := fun vs H Q _ => ∃ (l : Addr) (p : Ie01.Page), vs = [.ref l] ∧ Ok p ∧ CellsAt H l p.chosen ∧
  ∀ H' r, Same H H' → H r = none → IntsAt H' r (p.runs.length :: runNums p.runs) → Q (.ref r) H'
theorem casts_append (a b : List Nat) : casts (a ++ b) = casts a ++ casts b := List.map_append ..
theorem ok_rtold {f : Addr} {fd : FuncData} (F : Fun K "runs_told" "runs_told" sRTold f fd) (ml : mg "len" = none) (mz : mg "zip" = none) (cW : C8.Cal P w K mg base 3 "without_beside" (spWithout K) []) : FnOk P w K mg base CX0 4 f fd ["cells"] spRTold := by
  refine F.ok scRTold (fun vs H Q E h => ?_) (fun cdv A outer s H vs Q E hr h => ?_)
  · obtain ⟨l, p, rfl, _⟩ := h
    rfl
  · obtain ⟨l, p, rfl, ok, hl, q⟩ := h
    refine ⟨_, pss_cons (ps_set (i := 1) scRTold.nd rfl (.inl rfl) (C8.pe_c cW hr (by decide) (by rfl) (pa_cons (pv 0) (pa_cons (pe_tup (pa_cons (pe_un un_neg pe_int) (pa_cons pe_int pa_nil))) pa_nil))))
      (pss_cons (ps_set (i := 2) scRTold.nd rfl (.inl rfl) (C8.pe_c cW hr (by decide) (by rfl) (pa_cons (pv 0) (pa_cons (pe_tup (pa_cons pe_int (pa_cons pe_int pa_nil))) pa_nil))))
      (pss_cons (ps_set (i := 3) scRTold.nd rfl (.inl rfl) (pe_lst (pa_cons (pe_callB call_len_seq (by rfl) ml PySem.boot_len (pa_cons (pv 1) pa_nil)) pa_nil)))
      (pss_cons (ps_for PassesOwn.never rfl (pi_zip (by rfl) mz (pa_cons (pv 1) (pa_cons (pv 2) pa_nil))) (pg_tup rfl (pgs_cons (pg_name (i := 4) scRTold.nd rfl (.inl rfl)) (pgs_cons (pg_name (i := 5) scRTold.nd rfl (.inl rfl)) pgs_nil)))
        (pss_one (ps_expr (pe_bm PySem.F.plainAttrs_list PySem.F.slot_list_extend PySem.F.type_list_extend mt_extend (pv 3) (pa_cons (pe_lst (pa_cons (pe_ix ix_tup (pv 4) pe_int (fun _ _ => rfl)) (pa_cons (pe_ix ix_tup (pv 4) pe_int (fun _ _ => rfl)) (pa_cons (pe_ix ix_tup (pv 5) pe_int (fun _ _ => rfl)) pa_nil)))) pa_nil)))))
      (pss_one (ps_ret (pv 3)))))), ?_⟩
    have nd := chosen_nodup p
    have hle := ok.chosen_le
    refine ⟨_, rfl, _, rfl, by show 2 ≤ sizeLine; decide, fun t1 n1 => ?_⟩
    have sA : Same H (upd H t1 (.tup [.int (-1), .int 0])) := same_upd n1
    refine ⟨l, t1, p.chosen, (-1, 0), rfl, hl.same sA, nd, hle, SqT.of upd_same, fun H2 fa s2 n2 e2 => ?_⟩
    have sB : Same H H2 := sA.trans s2
    refine ⟨_, rfl, by show 2 ≤ sizeLine; decide, fun t3 n3 => ?_⟩
    have sC : Same H2 (upd H2 t3 (.tup [.int 1, .int 0])) := same_upd n3
    refine ⟨l, t3, p.chosen, (1, 0), rfl, (hl.same sB).same sC, nd, hle, SqT.of upd_same, fun H4 la s4 n4 e4 => ?_⟩
    have sD : Same H2 H4 := sC.trans s4
    have sE : Same H H4 := sB.trans sD
    have e2' := e2.same sD
    rw [firsts_are] at e2'
    rw [lasts_are] at e4
    obtain ⟨xs, hx, hc⟩ := e2'
    obtain ⟨ys, hy, hd⟩ := e4
    have lx : xs.length = p.runs.length := by rw [hc.1, List.length_map]
    have ly : ys.length = p.runs.length := by rw [hd.1, List.length_map]
    refine ⟨_, rfl, fa, xs, rfl, .inl (SqL.of hx), by show 1 ≤ sizeLine; decide, fun nm nnm => ?_⟩
    have sF : Same H4 (upd H4 nm (.lst [.int ((xs.length : Nat) : Int)])) := same_upd nnm
    refine ⟨_, rfl, _, rfl, fa, la, xs, ys, rfl, SqL.of (sF _ _ hx), SqL.of (sF _ _ hy), RZ.for_zipL (K := K) (a := fa) (b := la) (xs := xs) (ys := ys) (by rw [lx, ly])
      (fun i σ H' => ∃ u4 u5, σ = [some (.ref l), some (.ref fa), some (.ref la), some (.ref nm), u4, u5] ∧ Same H4 H' ∧ IntsAt H' nm (p.runs.length :: runNums (p.runs.take i))) ?_ ?_ ?_ ?_⟩
    · refine ⟨none, none, rfl, sF, ?_⟩
      unfold IntsAt
      rw [upd_same, lx]
      rfl
    · rintro i σ H' ⟨_, _, _, s', _⟩
      exact ⟨SqL.of (s' _ _ hx), SqL.of (s' _ _ hy)⟩
    · rintro i x y T σ H' hix hiy ⟨u4, u5, rfl, s', en⟩ nT
      obtain ⟨c, ec, b, rfl, hb⟩ := hc.get hix
      obtain ⟨d, ed, b', rfl, hb'⟩ := hd.get hiy
      rw [List.getElem?_map] at ec ed
      cases er : p.runs[i]? with
      | none => rw [er] at ec; cases ec
      | some r =>
        rw [er] at ec ed
        cases ec
        cases ed
        have sT : Same H' (upd H' T (.tup [.ref b, .ref b'])) := same_upd nT
        have sG := s'.trans sT
        refine ⟨T, _, rfl, SqT.of upd_same, rfl, _, _, rfl, _, _, rfl, rfl, ?_⟩
        have en' : (upd H' T (.tup [.ref b, .ref b'])) nm = some (.lst ((casts (p.runs.length :: runNums (p.runs.take i))).map V.int)) := sT _ _ en
        refine ⟨_, rfl, .inl ⟨rfl, _, SqL.of en'⟩, ?_⟩
        refine ⟨_, rfl, b, _, _, _, rfl, rfl, SqT.of (sG _ _ hb), atI_nat (j := 1) rfl, _, rfl, b, _, _, _, rfl, rfl, SqT.of (sG _ _ hb), atI_nat (j := 0) rfl, _, rfl, b', _, _, _, rfl, rfl, SqT.of (sG _ _ hb'), atI_nat (j := 0) rfl, by show 3 ≤ sizeLine; decide, fun z nz => ?_⟩
        have nzn : nm ≠ z := ne_of_none en' nz
        refine ⟨nm, z, _, _, rfl, rfl, by rw [upd_ne nzn]; exact en', upd_same, ?_, ?_⟩
        · have h3 := runs_len ok
          have h4 := runNums_len (p.runs.take i)
          have h5 : (p.runs.take i).length ≤ p.runs.length := by rw [List.length_take]; omega
          unfold casts
          rw [List.length_map, List.length_map, List.length_cons]
          simp only [List.length_cons, List.length_nil]
          exact Nat.le_trans (show _ ≤ 1000 by omega) (by decide)
        · refine ⟨_, _, rfl, fun v o e => ?_, ?_⟩
          · have nv : v ≠ nm := ne_of_none e nnm
            rw [upd_ne nv, upd_ne (ne_of_none (sG _ _ e) nz)]
            exact sG _ _ e
          · unfold IntsAt
            rw [upd_same, runNums_snoc er]
            show _ = some (HO.lst ((casts ((p.runs.length :: runNums (p.runs.take i)) ++ [r.1, r.2.1, r.2.2])).map V.int))
            rw [casts_append, List.map_append]
            rfl
    · rintro σ H' ⟨u4, u5, rfl, s', en⟩
      rw [lx, List.take_length] at en
      exact ⟨_, rfl, q _ _ (sE.trans s') (sE.free nnm) en⟩
/-! ### bounds -/
abbrev sBounds : Stmt := top 34
theorem scBounds : FnScope ["cells", "columns", "rows", "cell"] ["cells"] (defScope sBounds) := ⟨rfl, rfl, rfl, by decide +kernel, rfl, by decide +kernel, by decide +kernel⟩
def spBounds : Sp := fun vs H Q _ => ∃ (l : Addr) (cs : List Ie01.Cell), vs = [.ref l] ∧ CellsAt H l cs ∧ cs.length ≤ 300 ∧
  ∀ H' r, Same H H' → H r = none → IntsAt H' r (boundsM cs) → Q (.ref r) H'
theorem mem_casts {l : List Nat} {m : Int} (h : m ∈ casts l) : ∃ n ∈ l, m = (n : Int) := by
  unfold casts at h
  obtain ⟨n, hn, e⟩ := List.mem_map.mp h
  exact ⟨n, hn, e.symm⟩
theorem least_cast {l : List Nat} {m : Int} (h1 : m ∈ casts l) (h2 : ∀ y ∈ casts l, m ≤ y) : m = ((Ie01.least l : Nat) : Int) := by
  obtain ⟨n, hn, rfl⟩ := mem_casts h1
  rw [least_is hn]
  intro y hy
  have := h2 _ (List.mem_map.mpr ⟨y, hy, rfl⟩)
  omega
theorem greatest_cast {l : List Nat} {m : Int} (h1 : m ∈ casts l) (h2 : ∀ y ∈ casts l, y ≤ m) : m = ((Ie01.greatest l : Nat) : Int) := by
  obtain ⟨n, hn, rfl⟩ := mem_casts h1
  rw [greatest_is hn]
  intro y hy
  have := h2 _ (List.mem_map.mpr ⟨y, hy, rfl⟩)
  omega
theorem ok_bounds {f : Addr} {fd : FuncData} (F : Fun K "bounds" "bounds" sBounds f fd) (mn : mg "min" = none) (mx : mg "max" = none) : FnOk P w K mg base CX0 1 f fd ["cells"] spBounds := by
  refine F.ok scBounds (fun vs H Q E h => ?_) (fun cdv A outer s H vs Q E hr h => ?_)
  · obtain ⟨l, cs, rfl, _⟩ := h
    rfl
  · obtain ⟨l, cs, rfl, ⟨xs, hx, hc⟩, h300, q⟩ := h
    refine ⟨_, pss_cons (ps_if (pt_not (pt_truth (pv 0) (by intro _; rfl))) (pss_one (ps_ret (pe_lst pa_nil))) pss_nil)
      (pss_cons (ps_setLc (i := 1) (own := [("cell", 3)]) (g := gName 3) rfl scBounds.nd rfl rfl (sw_true rfl rfl rfl (by decide +kernel)) (pi_list (pv 0))
        (blkOk_by (own := [("cell", 3)]) (N := ["cells", "columns", "rows", "cell"]) (sc := defScope sBounds) (by decide +kernel))
        (fun _ _ _ _ _ => pg_name (i := 3) scBounds.nd rfl (.inl rfl)) (fun _ _ _ _ _ => pts_nil) (fun _ _ _ _ _ => pe_ix (r := rIxT K) ix_tup (pv 3) pe_int (fun _ _ => rfl)))
      (pss_cons (ps_setLc (i := 2) (own := [("cell", 3)]) (g := gName 3) rfl scBounds.nd rfl rfl (sw_true rfl rfl rfl (by decide +kernel)) (pi_list (pv 0))
        (blkOk_by (own := [("cell", 3)]) (N := ["cells", "columns", "rows", "cell"]) (sc := defScope sBounds) (by decide +kernel))
        (fun _ _ _ _ _ => pg_name (i := 3) scBounds.nd rfl (.inl rfl)) (fun _ _ _ _ _ => pts_nil) (fun _ _ _ _ _ => pe_ix (r := rIxT K) ix_tup (pv 3) pe_int (fun _ _ => rfl)))
      (pss_one (ps_ret (pe_lst (pa_cons (pe_callB (cr_min rfl) (by rfl) mn (by decide +kernel) (pa_cons (pv 1) pa_nil)) (pa_cons (pe_callB (cr_max rfl) (by rfl) mx (by decide +kernel) (pa_cons (pv 1) pa_nil))
        (pa_cons (pe_callB (cr_min rfl) (by rfl) mn (by decide +kernel) (pa_cons (pv 2) pa_nil)) (pa_cons (pe_callB (cr_max rfl) (by rfl) mx (by decide +kernel) (pa_cons (pv 2) pa_nil)) pa_nil)))))))))  , ?_⟩
    refine ⟨_, rfl, _, .inl ⟨xs, SqL.of hx, rfl⟩, ?_⟩
    by_cases hcs : cs = []
    · subst hcs
      have hxs : xs = [] := List.eq_nil_of_length_eq_zero hc.1
      subst hxs
      exact iteT ⟨Nat.zero_le _, fun r nr => q _ r (same_upd nr) nr upd_same⟩
    · have hxs : xs.isEmpty = false := by
        cases xs with
        | nil => exact absurd (List.eq_nil_of_length_eq_zero hc.1.symm) hcs
        | cons _ _ => rfl
      have hbm : boundsM cs = [Ie01.least (cs.map fun c => c.1), Ie01.greatest (cs.map fun c => c.1), Ie01.least (cs.map fun c => c.2), Ie01.greatest (cs.map fun c => c.2)] := by
        unfold boundsM
        rw [if_neg (by cases cs with
          | nil => exact absurd rfl hcs
          | cons _ _ => simp)]
      have hpos : 0 < cs.length := List.length_pos_iff.mpr hcs
      rw [hxs]
      refine iteF ?_
      refine ⟨_, rfl, l, rfl, ⟨_, SqL.of hx⟩, fun D hD => ?_⟩
      refine lc_same (walk_list (K := K) (xs := xs)) (fun i => (cs[i]?).map fun c => V.int (c.1 : Int)) (by rw [hc.1]; omega) hD (fun H s => s.seq (SqL.of hx)) yat_same ?_ ?_
      · rintro i z H1 H2 N hi s1 ⟨rfl, e2⟩ hN
        obtain ⟨c, ec, b, rfl, hb⟩ := hc.get e2
        simp only [ec, Option.map_some] at hN
        exact ⟨rfl, _, rfl, b, _, _, _, rfl, rfl, SqT.of (s1 _ _ hb), atI_nat (j := 0) rfl, hN _ (Same.refl _)⟩
      intro H1 s1 eD
      rw [hc.1, outs_map] at eD
      have hx1 := s1 _ _ hx
      have hc1 := hc.same s1
      refine ⟨_, rfl, l, rfl, ⟨_, SqL.of hx1⟩, fun D2 hD2 => ?_⟩
      refine lc_same (walk_list (K := K) (xs := xs)) (fun i => (cs[i]?).map fun c => V.int (c.2 : Int)) (by rw [hc.1]; omega) hD2 (fun H s => s.seq (SqL.of hx1)) yat_same ?_ ?_
      · rintro i z H2 H3 N hi s2 ⟨rfl, e2⟩ hN
        obtain ⟨c, ec, b, rfl, hb⟩ := hc1.get e2
        simp only [ec, Option.map_some] at hN
        exact ⟨rfl, _, rfl, b, _, _, _, rfl, rfl, SqT.of (s2 _ _ hb), atI_nat (j := 1) rfl, hN _ (Same.refl _)⟩
      intro H2 s2 eD2
      rw [hc.1, outs_map] at eD2
      have c1 : H2 D = some (.lst ((casts (cs.map fun c => c.1)).map V.int)) := by
        rw [s2 _ _ eD]
        unfold casts
        rw [List.map_map, List.map_map]
        rfl
      have c2 : H2 D2 = some (.lst ((casts (cs.map fun c => c.2)).map V.int)) := by
        rw [eD2]
        unfold casts
        rw [List.map_map, List.map_map]
        rfl
      have p1 : 0 < (casts (cs.map fun c => c.1)).length := by unfold casts; rw [List.length_map, List.length_map]; exact hpos
      have p2 : 0 < (casts (cs.map fun c => c.2)).length := by unfold casts; rw [List.length_map, List.length_map]; exact hpos
      refine ⟨_, rfl, D, _, rfl, SqL.of c1, p1, fun m1 g1 g2 => ?_⟩
      refine ⟨_, rfl, D, _, rfl, SqL.of c1, p1, fun m2 g3 g4 => ?_⟩
      refine ⟨_, rfl, D2, _, rfl, SqL.of c2, p2, fun m3 g5 g6 => ?_⟩
      refine ⟨_, rfl, D2, _, rfl, SqL.of c2, p2, fun m4 g7 g8 => ?_⟩
      refine ⟨by show 4 ≤ sizeLine; decide, fun r nr => ?_⟩
      refine q _ r ((s1.trans s2).trans (same_upd nr)) ((s1.trans s2).free nr) ?_
      unfold IntsAt
      rw [upd_same, hbm, least_cast g1 g2, greatest_cast g3 g4, least_cast g5 g6, greatest_cast g7 g8]
      rfl
/-! ### open_sides -/
abbrev sSides : Stmt := top 35
theorem scSides : FnScope ["cells", "step"] ["cells"] (defScope sSides) := ⟨rfl, rfl, rfl, by decide +kernel, rfl, by decide +kernel, by decide +kernel⟩
def sidesM (cs : List Ie01.Cell) : Nat := (sidesIn.map fun s => (without cs s).length).sum
def spSides : Sp := fun vs H Q _ => ∃ (l : Addr) (cs : List Ie01.Cell), vs = [.ref l] ∧ CellsAt H l cs ∧ cs.Nodup ∧ cs.length ≤ 300 ∧
  ∀ H', Same H H' → Q (.int ((sidesM cs : Nat) : Int)) H'
theorem casts_sum : ∀ l : List Nat, (casts l).sum = ((l.sum : Nat) : Int)
  | [] => rfl
  | a :: l => by
    have ih := casts_sum l
    unfold casts at ih ⊢
    rw [List.map_cons, List.sum_cons, List.sum_cons, ih]
    omega
theorem ok_sides {f t : Addr} {fd : FuncData} (F : Fun K "open_sides" "open_sides" sSides f fd) (ml : mg "len" = none) (ms : mg "sum" = none) (mS : mg "SIDES" = some (.ref t)) (hst : ∀ H, StepsAt K H t sidesIn) (cW : C8.Cal P w K mg base 3 "without_beside" (spWithout K) []) : FnOk P w K mg base CX0 4 f fd ["cells"] spSides := by
  refine F.ok scSides (fun vs H Q E h => ?_) (fun cdv A outer s H vs Q E hr h => ?_)
  · obtain ⟨l, cs, rfl, _⟩ := h
    rfl
  · obtain ⟨l, cs, rfl, hl, hnd, h300, q⟩ := h
    refine ⟨_, pss_one (ps_ret (pe_callB (cr_sum rfl) (by rfl) ms (by decide +kernel) (pa_cons (pe_lc (own := [("step", 1)]) (g := gName 1) rfl scSides.nd (pi_tup (pe_glob (v := .ref t) (by rfl) mS rfl))
      (blkOk_by (own := [("step", 1)]) (N := ["cells", "step"]) (sc := defScope sSides) (by decide +kernel))
      (fun _ _ _ _ _ => pg_name (i := 1) scSides.nd rfl (.inl rfl)) (fun _ _ _ _ _ => pts_nil)
      (fun _ _ _ _ _ => pe_callB (r := fun xs H Q => ∃ p ys, xs = [.ref p] ∧ (SqL K H p ys ∨ SqT K H p ys) ∧ Q (.int ys.length) H) call_len_seq (by rfl) ml PySem.boot_len (pa_cons (C8.pe_c cW hr (by decide) (by rfl) (pa_cons (pv 0) (pa_cons (pv 1) pa_nil))) pa_nil))) pa_nil))), ?_⟩
    obtain ⟨xs, h1, h2, h3⟩ := hst H
    refine ⟨t, rfl, ⟨_, h1⟩, fun D hD => ?_⟩
    refine lc_same (walk_tup (K := K) (xs := xs)) (fun i => (sidesIn[i]?).map fun s => V.int (((without cs s).length : Nat) : Int)) (by rw [h2]; decide) hD (fun H s => sqT_same s h1) yat_same ?_ ?_
    · rintro i z H1 H2 N hi s1 ⟨rfl, ex⟩ hN
      have hii : i < sidesIn.length := by rw [← h2]; exact hi
      obtain ⟨sa, es, hsa⟩ := h3 i sidesIn[i] (List.getElem?_eq_getElem hii)
      rw [ex] at es
      cases es
      simp only [List.getElem?_eq_getElem hii, Option.map_some] at hN
      refine ⟨rfl, _, rfl, _, rfl, l, sa, cs, _, rfl, hl.same s1, hnd, h300, sqT_same s1 hsa, fun H3 r s3 n3 e3 => ?_⟩
      obtain ⟨ws, hw, hcw⟩ := e3
      refine ⟨r, ws, rfl, .inl (SqL.of hw), ?_⟩
      rw [hcw.1]
      exact hN _ s3
    · intro H1 s1 eD
      rw [h2, outs_map] at eD
      refine ⟨D, casts (sidesIn.map fun s => (without cs s).length), rfl, SqL.of ?_, ?_⟩
      · rw [eD]
        unfold casts
        rw [List.map_map, List.map_map]
        rfl
      · rw [casts_sum]
        exact q _ s1
end
end SE
set_option maxRecDepth 100000
set_option maxHeartbeats 2000000
namespace SE
open PySem PySem.Spec PyProof.Rows L2
theorem leads4 : Leads false sidesIn := by
  intro a b
  rw [beside_sides]
  constructor
  · rintro ⟨s, hs, h⟩
    exact ⟨s, mem_sidesIn.mpr hs, h⟩
  · rintro ⟨s, hs, h⟩
    exact ⟨s, mem_sidesIn.mp hs, h⟩
section
variable {P : Program} {w : World} {K : PySem.W.Frag} {mg : Str → Option Value} {base : Heap} {C : Addr}
/-! ### chosen_pieces -/
abbrev sCPieces : Stmt := top 22
theorem scCPieces : FnScope ["page"] ["page"] (defScope sCPieces) := ⟨rfl, rfl, rfl, by decide +kernel, rfl, by decide +kernel, by decide +kernel⟩
def spCPieces (C : Addr) : Sp := fun vs H Q _ => ∃ (a : Addr) (p : Ie01.Page), vs = [.ref a] ∧ PageAt C H a p ∧ Ok p ∧
  ∀ H' l Ps, Same H H' → H l = none → PiecesAt H' l Ps → Rel2 Tells Ps p.pieces → Ps.length ≤ 300 → Q (.ref l) H'
theorem ok_cpieces {f t : Addr} {fd : FuncData} (F : Fun K "chosen_pieces" "chosen_pieces" sCPieces f fd) (mS : mg "SIDES" = some (.ref t)) (hst : ∀ H, StepsAt K H t sidesIn) (cC : C8.Cal P w K mg base 2 "chosen_cells" (spChosen C) []) (cP : C8.Cal P w K mg base 3 "pieces_of" (spPieces K) []) : FnOk P w K mg base CX0 4 f fd ["page"] (spCPieces C) := by
  refine F.ok scCPieces (fun vs H Q E h => ?_) (fun cdv A outer s H vs Q E hr h => ?_)
  · obtain ⟨a, p, rfl, _⟩ := h
    rfl
  · obtain ⟨a, p, rfl, hp, ok, q⟩ := h
    refine ⟨_, pss_one (ps_ret (C8.pe_c cP hr (by decide) (by rfl) (pa_cons (C8.pe_c cC hr (by decide) (by rfl) (pa_cons (pv 0) pa_nil)) (pa_cons (pe_glob (v := .ref t) (by rfl) mS rfl) pa_nil)))), ?_⟩
    refine ⟨_, rfl, a, p, rfl, hp, ok, fun H1 l1 s1 n1 e1 => ?_⟩
    refine ⟨l1, t, p.chosen, false, sidesIn, rfl, e1, chosen_nodup p, ok.chosen_le, hst _, leads4, fun H2 l2 Ps s2 n2 e2 rel _ h3 => ?_⟩
    exact q _ _ Ps (s1.trans s2) (s1.free n2) e2 rel h3
/-! ### kept -/
abbrev sKept : Stmt := top 23
theorem scKept : FnScope ["page", "cell", "piece", "other"] ["page", "cell"] (defScope sKept) := ⟨rfl, rfl, rfl, by decide +kernel, rfl, by decide +kernel, by decide +kernel⟩
def keptPage (p : Ie01.Page) (c : Ie01.Cell) : Ie01.Page := Ie01.Page.of p.w p.h (Ie01.reach false p.chosen [c]).contains
def spKept (C : Addr) : Sp := fun vs H Q _ => ∃ (a : Addr) (v : V) (p : Ie01.Page) (c : Ie01.Cell), vs = [.ref a, v] ∧ PageAt C H a p ∧ Ok p ∧ CellAt H v c ∧ p.has c = true ∧
  ∀ H' l, Same H H' → H l = none → MarksAt H' l (keptPage p c).cells → Q (.ref l) H'
theorem ok_kept {f t : Addr} {fd : FuncData} (F : Fun K "kept" "kept" sKept f fd) (T : Txt K mg C) (mS : mg "SIDES" = some (.ref t)) (hst : ∀ H, StepsAt K H t sidesIn) (cC : C8.Cal P w K mg base 2 "chosen_cells" (spChosen C) []) (cM : C8.Cal P w K mg base 2 "members_of" spMembers []) (cP : C8.Cal P w K mg base 2 "piece_from" (spPiece K) []) : FnOk P w K mg base CX0 3 f fd ["page", "cell"] (spKept C) := by
  refine F.ok scKept (fun vs H Q E h => ?_) (fun cdv A outer s H vs Q E hr h => ?_)
  · obtain ⟨a, v, p, c, rfl, _⟩ := h
    rfl
  · obtain ⟨a, v, p, c, rfl, hp, ok, hv, hc, q⟩ := h
    have hu := hu_of hr
    refine ⟨_, pss_cons (ps_set (i := 2) scKept.nd rfl (.inr rfl) (C8.pe_c cP hr (by decide) (by rfl) (pa_cons (pv 1) (pa_cons (C8.pe_c cM hr (by decide) (by rfl) (pa_cons (C8.pe_c cC hr (by decide) (by rfl) (pa_cons (pv 0) pa_nil)) pa_nil)) (pa_cons (pe_glob (v := .ref t) (by rfl) mS rfl) pa_nil)))))
      (pss_one (ps_ret (pe_lc (own := [("other", 3)]) (g := gName 3) rfl scKept.nd (pi_list (pe_fld (pv 0) rfl))
      (blkOk_by (own := [("other", 3)]) (N := ["page", "cell", "piece", "other"]) (sc := defScope sKept) (by decide +kernel))
      (fun _ _ _ _ _ => pg_name (i := 3) scKept.nd rfl (.inl rfl)) (fun _ _ _ _ _ => pts_nil) (fun _ _ _ _ _ => pe_cmp (pc_din hu (pv 3) (pv 2)) rfl)))), ?_⟩
    refine ⟨_, rfl, _, rfl, a, p, rfl, hp, ok, fun H1 l1 s1 n1 e1 => ?_⟩
    refine ⟨l1, p.chosen, rfl, e1, chosen_nodup p, ok.chosen_le, fun H2 d s2 n2 e2 => ?_⟩
    have s12 := s1.trans s2
    refine ⟨v, d, t, c, p.chosen, false, sidesIn, rfl, hv.same s12, e2, mem_chosen.mpr hc, ok.chosen_le, hst _, leads4, fun H3 pc R s3 n3 eR ndR hdR lenR memR => ?_⟩
    have s13 := s12.trans s3
    obtain ⟨dx, lc, lm, ha, ⟨xs, hx, hcs⟩, hm⟩ := hp.same s13
    have hle := ok.all_le
    refine ⟨_, rfl, a, C, dx, _, _, rfl, ha, T.cl, T.nE, pF_cells _ _ _ _, lc, rfl, ⟨_, SqL.of hx⟩, fun D hD => ?_⟩
    refine lc_same (walk_list (K := K) (xs := xs)) (fun i => (p.all[i]?).map fun x => V.bl (R.contains x)) (by rw [hcs.1]; omega) hD (fun H s => s.seq (SqL.of hx)) yat_same ?_ ?_
    · rintro i z H4 H5 N hi s4 ⟨rfl, ex⟩ hN
      obtain ⟨x, ec, b, rfl, hb⟩ := hcs.get ex
      simp only [ec, Option.map_some] at hN
      have hb' : H3 b = some (.tup ((ck x).map kV)) := hb
      refine ⟨rfl, _, rfl, _, rfl, pc, _, rfl, DGet.t (s4 _ _ eR) (s4 _ _ hb'), ?_⟩
      rw [val_cell]
      exact hN _ (Same.refl _)
    · intro H4 s4 eD
      refine q _ _ (s13.trans s4) (s13.free hD) ?_
      rw [hcs.1, outs_map] at eD
      unfold MarksAt keptPage
      have rs := reach_spec (corners := false) (chosen_nodup p) (mem_chosen.mpr hc)
      rw [eD, keep_cells (R := R) (fun x => (memR x).trans (rs.2 x).symm), List.map_map]
      rfl
/-! ### pieces_told -/
abbrev sPTold : Stmt := top 24
theorem scPTold : FnScope ["pieces", "numbers", "piece", "first"] ["pieces"] (defScope sPTold) := ⟨rfl, rfl, rfl, by decide +kernel, rfl, by decide +kernel, by decide +kernel⟩
def spPTold : Sp := fun vs H Q _ => ∃ (l : Addr) (Ps : List (List Ie01.Cell)) (qs : List (Ie01.Cell × List Ie01.Cell)), vs = [.ref l] ∧ PiecesAt H l Ps ∧ Rel2 Tells Ps qs ∧ Ps.length ≤ 300 ∧
  ∀ H' r, Same H H' → H r = none → IntsAt H' r (Ie01.told qs) → Q (.ref r) H'
theorem keys_first {H : Hp} {R : List Ie01.Cell} {c : Ie01.Cell} {bs : List Addr} (h : IsKeys H (kvsOf R) bs) (hc : R.head? = some c) : ∃ b bs', bs = b :: bs' ∧ H b = some (.tup (cellV c)) := by
  cases R with
  | nil => cases hc
  | cons d R =>
    cases hc
    cases h with
    | cons h1 _ => exact ⟨_, _, rfl, h1⟩
theorem ok_ptold {f : Addr} {fd : FuncData} (F : Fun K "pieces_told" "pieces_told" sPTold f fd) (ml : mg "len" = none) (mL : mg "list" = none) : FnOk P w K mg base CX0 1 f fd ["pieces"] spPTold := by
  refine F.ok scPTold (fun vs H Q E h => ?_) (fun cdv A outer s H vs Q E hr h => ?_)
  · obtain ⟨l, Ps, qs, rfl, _⟩ := h
    rfl
  · obtain ⟨l, Ps, qs, rfl, ⟨xs, hx, hv⟩, rel, h300, q⟩ := h
    refine ⟨_, pss_cons (ps_set (i := 1) scPTold.nd rfl (.inl rfl) (pe_lst (pa_cons (pe_callB call_len_seq (by rfl) ml PySem.boot_len (pa_cons (pv 0) pa_nil)) pa_nil)))
      (pss_cons (ps_for PassesOwn.never rfl (pi_list (pv 0)) (pg_name (i := 2) scPTold.nd rfl (.inl rfl))
        (pss_cons (ps_set (i := 3) scPTold.nd rfl (.inl rfl) (pe_ix ix_list (pe_callTy (call_list_dT rfl) (by rfl) mL (by decide +kernel) (pa_cons (pv 2) pa_nil)) pe_int (fun _ _ => rfl)))
        (pss_one (ps_expr (pe_bm PySem.F.plainAttrs_list PySem.F.slot_list_extend PySem.F.type_list_extend mt_extend (pv 1) (pa_cons (pe_lst (pa_cons (pe_ix ix_tup (pv 3) pe_int (fun _ _ => rfl)) (pa_cons (pe_ix ix_tup (pv 3) pe_int (fun _ _ => rfl)) (pa_cons (pe_callB call_len_dT (by rfl) ml PySem.boot_len (pa_cons (pv 2) pa_nil)) pa_nil)))) pa_nil))))))
      (pss_one (ps_ret (pv 1)))), ?_⟩
    refine ⟨_, rfl, l, xs, rfl, .inl (SqL.of hx), by show 1 ≤ sizeLine; decide, fun nm nnm => ?_⟩
    have sF : Same H (upd H nm (.lst [.int ((xs.length : Nat) : Int)])) := same_upd nnm
    refine ⟨_, rfl, l, rfl, ⟨_, SqL.of (sF _ _ hx)⟩, for_list (K := K) (a := l) (xs := xs) (fun i σ H' => ∃ u2 u3, σ = [some (.ref l), some (.ref nm), u2, u3] ∧ Same H H' ∧ IntsAt H' nm (Ps.length :: toldM (Ps.take i))) ?_ ?_ ?_ ?_⟩
    · refine ⟨none, none, rfl, sF, ?_⟩
      unfold IntsAt
      rw [upd_same, hv.1]
      rfl
    · rintro i σ H' _ ⟨_, _, _, s', _⟩
      exact SqL.of (s' _ _ hx)
    · rintro i y σ H' hi ⟨u2, u3, rfl, s', en⟩
      obtain ⟨R, d, eR, rfl, hd⟩ := hv.get hi
      obtain ⟨q0, _, hq0⟩ := rel_get rel eR
      have hd' : DictAt H' d R := s' _ _ hd
      refine ⟨_, rfl, d, _, rfl, .inl hd', fun lk bs nlk hk => ?_⟩
      obtain ⟨b, bs', rfl, hb⟩ := keys_first hk hq0.1
      have sL : Same H' (upd H' lk (.lst ((b :: bs').map V.ref))) := same_upd nlk
      refine ⟨lk, _, _, _, rfl, rfl, SqL.of upd_same, atI_nat (j := 0) rfl, ?_⟩
      have en' := sL _ _ en
      have hb' := sL _ _ hb
      have hd2 := sL _ _ hd'
      generalize upd H' lk (.lst ((b :: bs').map V.ref)) = H2 at sL en' hb' hd2 ⊢
      refine ⟨_, rfl, .inl ⟨rfl, _, SqL.of en'⟩, ?_⟩
      refine ⟨_, rfl, b, _, _, _, rfl, rfl, SqT.of hb', atI_nat (j := 0) rfl, _, rfl, b, _, _, _, rfl, rfl, SqT.of hb', atI_nat (j := 1) rfl, _, rfl, d, _, rfl, hd2, by show 3 ≤ sizeLine; decide, fun z nz => ?_⟩
      have nzn : nm ≠ z := ne_of_none en' nz
      refine ⟨nm, z, _, _, rfl, rfl, by rw [upd_ne nzn]; exact en', upd_same, ?_, ?_⟩
      · have h4 := toldM_len (Ps.take i)
        have h5 : (Ps.take i).length ≤ Ps.length := by rw [List.length_take]; omega
        unfold casts
        rw [List.length_map, List.length_map, List.length_cons]
        simp only [List.length_cons, List.length_nil]
        exact Nat.le_trans (show _ ≤ 1000 by omega) (by decide)
      · refine ⟨_, _, rfl, fun v o e => ?_, ?_⟩
        · have e2 : H2 v = some o := sL _ _ (s' _ _ e)
          rw [upd_ne (ne_of_none e nnm), upd_ne (ne_of_none e2 nz)]
          exact e2
        · unfold IntsAt
          rw [upd_same, toldM_snoc eR hq0.1, kvsOf_len]
          show _ = some (HO.lst ((casts ((Ps.length :: toldM (Ps.take i)) ++ [q0.1.1, q0.1.2, R.length])).map V.int))
          rw [casts_append, List.map_append]
          rfl
    · rintro σ H' ⟨u2, u3, rfl, s', en⟩
      rw [hv.1, List.take_length, ← told_toldM rel] at en
      exact ⟨_, rfl, q _ _ s' nnm en⟩
end
end SE
set_option maxRecDepth 100000
set_option maxHeartbeats 2000000
namespace SE
open PySem PySem.Spec PyProof.Rows L2
open Ie01Neutral (callIn)
theorem in_keep {l : List Nat} {X : Ie01.Call} (h : callIn (8 :: l) = some X) : ∃ x y, l = [x, y] ∧ X = .keep x y := by
  rcases l with _ | ⟨a, _ | ⟨b, _ | ⟨c, l⟩⟩⟩ <;> simp [callIn] at h
  exact ⟨a, b, rfl, h.symm⟩
theorem in_far {l : List Nat} {X : Ie01.Call} (h : callIn (9 :: l) = some X) : ∃ x y, l = [x, y] ∧ X = .far x y := by
  rcases l with _ | ⟨a, _ | ⟨b, _ | ⟨c, l⟩⟩⟩ <;> simp [callIn] at h
  exact ⟨a, b, rfl, h.symm⟩
theorem in_soft {l : List Nat} {X : Ie01.Call} (h : callIn (10 :: l) = some X) : ∃ k, l = [k] ∧ X = .soft k := by
  rcases l with _ | ⟨a, _ | ⟨b, l⟩⟩ <;> simp [callIn] at h
  exact ⟨a, rfl, h.symm⟩
theorem in_runs {l : List Nat} {X : Ie01.Call} (h : callIn (11 :: l) = some X) : l = [] ∧ X = .runs := by
  rcases l with _ | ⟨a, l⟩ <;> simp [callIn] at h
  exact ⟨rfl, h.symm⟩
theorem in_counts {l : List Nat} {X : Ie01.Call} (h : callIn (12 :: l) = some X) : l = [] ∧ X = .counts := by
  rcases l with _ | ⟨a, l⟩ <;> simp [callIn] at h
  exact ⟨rfl, h.symm⟩
theorem in_pieces {l : List Nat} {X : Ie01.Call} (h : callIn (13 :: l) = some X) : l = [] ∧ X = .pieces := by
  rcases l with _ | ⟨a, l⟩ <;> simp [callIn] at h
  exact ⟨rfl, h.symm⟩
theorem in_holes {l : List Nat} {X : Ie01.Call} (h : callIn (14 :: l) = some X) : l = [] ∧ X = .holes := by
  rcases l with _ | ⟨a, l⟩ <;> simp [callIn] at h
  exact ⟨rfl, h.symm⟩
/-! ### cells as data: cell in cells -/
def cD (c : Ie01.Cell) : PyData := .tuple [.int (c.1 : Int), .int (c.2 : Int)]
theorem cD_lay (c : Ie01.Cell) : (cD c).canLay0 = true := by simp [cD, PyData.canLay0, PyData.canLayAll0]
theorem cD_depth (c : Ie01.Cell) : (cD c).depth ≤ 2 := by simp [cD, PyData.depth, PyData.depthAll]
theorem cDs_lay : ∀ cs : List Ie01.Cell, PyData.canLayAll0 (cs.map cD) = true
  | [] => by simp [PyData.canLayAll0]
  | c :: cs => by simp [PyData.canLayAll0, cD_lay c, cDs_lay cs]
theorem cDs_depth : ∀ cs : List Ie01.Cell, PyData.depthAll (cs.map cD) ≤ 2
  | [] => by simp [PyData.depthAll]
  | c :: cs => by
    have h1 := cDs_depth cs
    have h2 := cD_depth c
    simp only [List.map_cons, PyData.depthAll]
    omega
theorem cD_shaped (c : Ie01.Cell) : SeqAt.shaped (cD c) = true := by
  have h := cD_depth c
  show ((cD c).canLay0 && decide ((cD c).depth ≤ 64)) = true
  rw [Bool.and_eq_true]
  exact ⟨cD_lay c, decide_eq_true (by omega)⟩
theorem cDs_shaped (cs : List Ie01.Cell) : SeqAt.shaped (.list (cs.map cD)) = true := by
  have h1 := cDs_depth cs
  have h2 : PyData.depth (.list (cs.map cD)) ≤ 64 := by
    simp only [PyData.depth]
    omega
  show (PyData.canLay0 (.list (cs.map cD)) && decide (PyData.depth (.list (cs.map cD)) ≤ 64)) = true
  rw [Bool.and_eq_true]
  exact ⟨by simp only [PyData.canLay0]; exact cDs_lay cs, decide_eq_true h2⟩
theorem cD_eqv (c d : Ie01.Cell) : PyData.eqv (cD c) (cD d) = decide (c = d) := by
  obtain ⟨a, b⟩ := c
  obtain ⟨a', b'⟩ := d
  have e : PyData.eqv (cD (a, b)) (cD (a', b')) = (((a : Int) == (a' : Int)) && (((b : Int) == (b' : Int)) && true)) := by simp only [cD, PyData.eqv, PyData.eqvAll]
  rw [e, Bool.and_true, Bool.eq_iff_iff, Bool.and_eq_true, beq_iff_eq, beq_iff_eq, decide_eq_true_eq, Prod.mk.injEq]
  constructor
  · rintro ⟨h1, h2⟩
    exact ⟨Int.ofNat.inj h1, Int.ofNat.inj h2⟩
  · rintro ⟨rfl, rfl⟩
    exact ⟨rfl, rfl⟩
theorem cDs_any (cs : List Ie01.Cell) (c : Ie01.Cell) : ((cs.map cD).any fun z => PyData.eqv z (cD c)) = decide (c ∈ cs) := by
  rw [List.any_map, Bool.eq_iff_iff, List.any_eq_true]
  simp only [Function.comp, cD_eqv, decide_eq_true_eq]
  constructor
  · rintro ⟨d, hd, rfl⟩
    exact hd
  · intro h
    exact ⟨c, h, rfl⟩
theorem dp_cell {K : PySem.W.Frag} {H : Hp} {v : V} {c : Ie01.Cell} (h : CellAt H v c) : Dp K H v (cD c) := by
  obtain ⟨a, rfl, h⟩ := h
  exact .tup (SqT.of h) (.cons (.int _) (.cons (.int _) .nil))
theorem dp_cells {K : PySem.W.Frag} {H : Hp} : ∀ {cs : List Ie01.Cell} {vs : List V}, CellsV H vs cs → DpAll K H vs (cs.map cD)
  | [], vs, h => by
    have : vs = [] := List.eq_nil_of_length_eq_zero h.1
    subst this
    exact .nil
  | c :: cs, vs, h => by
    cases vs with
    | nil => exact absurd h.1 (by simp)
    | cons v vs =>
      obtain ⟨u, e1, e2⟩ := h.2 0 c rfl
      cases e1
      exact .cons (dp_cell e2) (dp_cells ⟨by simpa using h.1, fun i d e => h.2 (i + 1) d e⟩)
theorem dp_list {K : PySem.W.Frag} {H : Hp} {l : Addr} {cs : List Ie01.Cell} (h : CellsAt H l cs) : Dp K H (.ref l) (.list (cs.map cD)) := by
  obtain ⟨vs, e, h⟩ := h
  exact .lst (SqL.of e) (dp_cells h)
section
variable {P : Program} {w : World} {K : PySem.W.Frag} {mg : Str → Option Value} {base : Heap} {C : Addr}
/-- an answer that leaves the page as it was -/
theorem told_then {H H' : Hp} {a r : Addr} {p : Ie01.Page} {X : Ie01.Call} {out : List Int} {Q : VK} (hp : PageAt C H a p) (ok : Ok p) (e : Ie01.step p X = (p, out)) (s : Same H H') (nr : H r = none) (er : H' r = some (.lst (out.map V.int)))
    (q : ∀ H' r, PageAt C H' a (Ie01.step p X).1 → Ok (Ie01.step p X).1 → But a H H' → H r = none → H' r = some (.lst ((Ie01.step p X).2.map V.int)) → Q (.ref r) H') : Q (.ref r) H' := by
  rw [e] at q
  exact q _ r (hp.same s) ok (Same.but s) nr er
/-! ### keep -/
abbrev sHKeep : Stmt := top 71
theorem scHKeep : FnScope ["page", "numbers", "cell"] ["page", "numbers"] (defScope sHKeep) := ⟨rfl, rfl, rfl, by decide +kernel, rfl, by decide +kernel, by decide +kernel⟩
theorem hu65 {k : Nat} {A : Around} (hr : Room k A) : A.units + 65 < cLine := by have := hr.un; omega
theorem ok_hkeep {f : Addr} {fd : FuncData} {t : Tok} (F : Fun K "answer_keep" "answer_keep" sHKeep f fd) (mB : mg "NOT_CHOSEN" = some (.int (-3) t)) (cH : C8.Cal P w K mg base 2 "chosen_cells" (spChosen C) []) (cK : C8.Cal P w K mg base 3 "kept" (spKept C) []) (cC : C8.Cal P w K mg base 1 "choose" (spChoose C) []) : FnOk P w K mg base CX0 8 f fd ["page", "numbers"] (spHand C 8) := by
  refine F.ok scHKeep (fun vs H Q E h => ?_) (fun cdv A outer s H vs Q E hr h => ?_)
  · obtain ⟨a, l, p, ns, X, rfl, _⟩ := h
    rfl
  · obtain ⟨a, l, p, ns, X, rfl, hp, ok, hn, hX, hb, q⟩ := h
    obtain ⟨x, y, rfl, rfl⟩ := in_keep hX
    refine ⟨_, pss_cons (ps_set (i := 2) scHKeep.nd rfl (.inl rfl) (pe_tup (pa_cons (pe_ix ix_list (pv 1) pe_int (fun _ _ => rfl)) (pa_cons (pe_ix ix_list (pv 1) pe_int (fun _ _ => rfl)) pa_nil))))
      (pss_cons (ps_if (pt_cmpR (op_notInD (hu65 hr)) (pv 2) (C8.pe_c cH hr (by decide) (by rfl) (pa_cons (pv 0) pa_nil)) (by rfl)) (pss_one (ps_ret (pe_lst (pa_cons (pe_glob (v := .int (-3)) (by rfl) mB ⟨t, rfl⟩) pa_nil)))) pss_nil)
      (pss_one (ps_ret (C8.pe_c cC hr (by decide) (by rfl) (pa_cons (pv 0) (pa_cons (C8.pe_c cK hr (by decide) (by rfl) (pa_cons (pv 0) (pa_cons (pv 2) pa_nil))) pa_nil)))))), ?_⟩
    refine ⟨_, rfl, l, _, _, _, rfl, rfl, SqL.of hn, nums_get (j := 0) rfl, _, rfl, l, _, _, _, rfl, rfl, SqL.of hn, nums_get (j := 1) rfl, by show 2 ≤ sizeLine; decide, fun t1 n1 => ?_⟩
    have s1 : Same H (upd H t1 (.tup [.int (x : Int), .int (y : Int)])) := same_upd n1
    have c1 : CellAt (upd H t1 (.tup [.int (x : Int), .int (y : Int)])) (.ref t1) (x, y) := ⟨t1, rfl, upd_same⟩
    generalize upd H t1 (.tup [.int (x : Int), .int (y : Int)]) = H1 at s1 c1 ⊢
    refine ⟨_, rfl, _, rfl, a, p, rfl, hp.same s1, ok, fun H2 l2 s2 n2 e2 => ?_⟩
    have s12 := s1.trans s2
    refine ⟨cD (x, y), _, dp_cell (c1.same s2), dp_list e2, cD_shaped _, cDs_shaped _, _, rfl, ?_⟩
    rw [cDs_any]
    by_cases hc : p.has (x, y) = true
    · rw [decide_eq_true (mem_chosen.mpr hc)]
      refine iteF ?_
      have e : Ie01.step p (.keep x y) = Ie01.become (keptPage p (x, y)) := if_neg (by rw [hc]; simp)
      rw [e] at q
      refine ⟨_, rfl, _, rfl, _, rfl, a, _, p, (x, y), rfl, hp.same s12, ok, c1.same s2, hc, fun H3 l3 s3 n3 e3 => ?_⟩
      have s13 := s12.trans s3
      exact chosen_then (E := E0) (hp.same s13) e3 (Same.but s13) (free_of_same s13) (ok.of _) rfl rfl q
    · rw [decide_eq_false (fun z => hc (mem_chosen.mp z))]
      refine iteT ⟨by show 1 ≤ sizeLine; decide, fun r nr => ?_⟩
      have e : Ie01.step p (.keep x y) = (p, [-3]) := if_pos (by simpa using hc)
      exact told_then hp ok e (s12.trans (same_upd nr)) (s12.free nr) upd_same q
/-! ### far -/
abbrev sHFar : Stmt := top 72
theorem scHFar : FnScope ["page", "numbers", "cell", "chosen", "found"] ["page", "numbers"] (defScope sHFar) := ⟨rfl, rfl, rfl, by decide +kernel, rfl, by decide +kernel, by decide +kernel⟩
theorem ok_hfar {f : Addr} {fd : FuncData} {t u : Tok} (F : Fun K "answer_far" "answer_far" sHFar f fd) (T : Txt K mg C) (mN : mg "NO_SUCH_CELL" = some (.int (-1) t)) (mB : mg "NOTHING_CHOSEN" = some (.int (-3) u)) (cH : C8.Cal P w K mg base 2 "chosen_cells" (spChosen C) []) (cN : C8.Cal P w K mg base 2 "nearest" spNearest []) (cA : C8.Cal P w K mg base 1 "apart" spApart []) : FnOk P w K mg base CX0 8 f fd ["page", "numbers"] (spHand C 9) := by
  refine F.ok scHFar (fun vs H Q E h => ?_) (fun cdv A outer s H vs Q E hr h => ?_)
  · obtain ⟨a, l, p, ns, X, rfl, _⟩ := h
    rfl
  · obtain ⟨a, l, p, ns, X, rfl, hp, ok, hn, hX, hb, q⟩ := h
    obtain ⟨x, y, rfl, rfl⟩ := in_far hX
    refine ⟨_, pss_cons (ps_set (i := 2) scHFar.nd rfl (.inl rfl) (pe_tup (pa_cons (pe_ix ix_list (pv 1) pe_int (fun _ _ => rfl)) (pa_cons (pe_ix ix_list (pv 1) pe_int (fun _ _ => rfl)) pa_nil))))
      (pss_cons (ps_if (pt_cmpR (op_notInD (hu65 hr)) (pv 2) (pe_fld (pv 0) rfl) (by rfl)) (pss_one (ps_ret (pe_lst (pa_cons (pe_glob (v := .int (-1)) (by rfl) mN ⟨t, rfl⟩) pa_nil)))) pss_nil)
      (pss_cons (ps_set (i := 3) scHFar.nd rfl (.inl rfl) (C8.pe_c cH hr (by decide) (by rfl) (pa_cons (pv 0) pa_nil)))
      (pss_cons (ps_if (pt_not (pt_truth (pv 3) (by intro _; rfl))) (pss_one (ps_ret (pe_lst (pa_cons (pe_glob (v := .int (-3)) (by rfl) mB ⟨u, rfl⟩) pa_nil)))) pss_nil)
      (pss_cons (ps_set (i := 4) scHFar.nd rfl (.inl rfl) (C8.pe_c cN hr (by decide) (by rfl) (pa_cons (pv 2) (pa_cons (pv 3) pa_nil))))
      (pss_one (ps_ret (pe_lst (pa_cons (C8.pe_c cA hr (by decide) (by rfl) (pa_cons (pv 2) (pa_cons (pv 4) pa_nil))) (pa_cons (pe_ix ix_tup (pv 4) pe_int (fun _ _ => rfl)) (pa_cons (pe_ix ix_tup (pv 4) pe_int (fun _ _ => rfl)) pa_nil)))))))))), ?_⟩
    refine ⟨_, rfl, l, _, _, _, rfl, rfl, SqL.of hn, nums_get (j := 0) rfl, _, rfl, l, _, _, _, rfl, rfl, SqL.of hn, nums_get (j := 1) rfl, by show 2 ≤ sizeLine; decide, fun t1 n1 => ?_⟩
    have s1 : Same H (upd H t1 (.tup [.int (x : Int), .int (y : Int)])) := same_upd n1
    have c1 : CellAt (upd H t1 (.tup [.int (x : Int), .int (y : Int)])) (.ref t1) (x, y) := ⟨t1, rfl, upd_same⟩
    generalize upd H t1 (.tup [.int (x : Int), .int (y : Int)]) = H1 at s1 c1 ⊢
    obtain ⟨dx, lc, lm, ha, hc, hm⟩ := hp.same s1
    refine ⟨_, rfl, _, rfl, a, C, dx, _, _, rfl, ha, T.cl, T.nE, pF_cells _ _ _ _, ?_⟩
    refine ⟨cD (x, y), _, dp_cell c1, dp_list hc, cD_shaped _, cDs_shaped _, _, rfl, ?_⟩
    rw [cDs_any]
    by_cases hin : (x, y) ∈ p.all
    · rw [decide_eq_true hin]
      refine iteF ?_
      obtain ⟨g1, g2⟩ := mem_all.mp hin
      have hnot : ¬ (p.w ≤ x ∨ p.h ≤ y) := by simp only at g1 g2; omega
      refine ⟨_, rfl, a, p, rfl, hp.same s1, ok, fun H2 l2 s2 n2 e2 => ?_⟩
      have s12 := s1.trans s2
      obtain ⟨xs, hx, hcs⟩ := id e2
      refine ⟨_, rfl, _, .inl ⟨xs, SqL.of hx, rfl⟩, ?_⟩
      by_cases hch : p.chosen = []
      · have hxs : xs = [] := by
          have := hcs.1
          rw [hch] at this
          exact List.eq_nil_of_length_eq_zero this
        subst hxs
        refine iteT ⟨by show 1 ≤ sizeLine; decide, fun r nr => ?_⟩
        have e : Ie01.step p (.far x y) = (p, [-3]) := by
          show (p, if p.w ≤ x ∨ p.h ≤ y then _ else _) = _
          rw [if_neg hnot, hch]
          rfl
        exact told_then hp ok e (s12.trans (same_upd nr)) (s12.free nr) upd_same q
      · have hxs : xs.isEmpty = false := by
          cases xs with
          | nil => exact absurd (List.eq_nil_of_length_eq_zero hcs.1.symm) hch
          | cons _ _ => rfl
        rw [hxs]
        refine iteF ?_
        have smc : Small (x, y) := ok.all_small _ hin
        have smC : ∀ d ∈ p.chosen, Small d := fun d hd => ok.all_small d (List.mem_filter.mp hd).1
        refine ⟨_, rfl, _, rfl, _, l2, (x, y), p.chosen, rfl, c1.same s2, e2, hch, smc, smC, fun v z hv hz hnr => ?_⟩
        obtain ⟨b, rfl, hbz⟩ := hv
        obtain ⟨t1', et1, c2⟩ := c1.same s2
        cases et1
        refine ⟨_, rfl, _, rfl, _, b, ic (x, y), ic z, rfl, c2, hbz, smc.mid, (smC z hz).mid, ?_⟩
        rw [far_apart]
        refine ⟨_, rfl, b, _, _, _, rfl, rfl, SqT.of hbz, atI_nat (j := 0) rfl, _, rfl, b, _, _, _, rfl, rfl, SqT.of hbz, atI_nat (j := 1) rfl, by show 3 ≤ sizeLine; decide, fun r nr => ?_⟩
        have e : Ie01.step p (.far x y) = (p, Ie01.ints [Ie01.far (x, y) z, z.1, z.2]) := by
          show (p, if p.w ≤ x ∨ p.h ≤ y then _ else _) = _
          rw [if_neg hnot, hnr]
        exact told_then hp ok e (s12.trans (same_upd nr)) (s12.free nr) upd_same q
    · rw [decide_eq_false hin]
      refine iteT ⟨by show 1 ≤ sizeLine; decide, fun r nr => ?_⟩
      have hout : p.w ≤ x ∨ p.h ≤ y := by
        rw [mem_all] at hin
        simp only at hin
        omega
      have e : Ie01.step p (.far x y) = (p, [-1]) := by
        show (p, if p.w ≤ x ∨ p.h ≤ y then _ else _) = _
        rw [if_pos hout]
      exact told_then hp ok e (s1.trans (same_upd nr)) (s1.free nr) upd_same q
/-! ### soft -/
abbrev sHSoft : Stmt := top 73
theorem scHSoft : FnScope ["page", "numbers", "k"] ["page", "numbers"] (defScope sHSoft) := ⟨rfl, rfl, rfl, by decide +kernel, rfl, by decide +kernel, by decide +kernel⟩
theorem ok_hsoft {f : Addr} {fd : FuncData} {t u : Tok} (F : Fun K "answer_soft" "answer_soft" sHSoft f fd) (m64 : mg "GREATEST_WIDTH" = some (.int 64 t)) (mB : mg "BAD_WIDTH" = some (.int (-1) u)) (cD' : C8.Cal P w K mg base 5 "degrees" (spDegs C) []) : FnOk P w K mg base CX0 8 f fd ["page", "numbers"] (spHand C 10) := by
  refine F.ok scHSoft (fun vs H Q E h => ?_) (fun cdv A outer s H vs Q E hr h => ?_)
  · obtain ⟨a, l, p, ns, X, rfl, _⟩ := h
    rfl
  · obtain ⟨a, l, p, ns, X, rfl, hp, ok, hn, hX, hb, q⟩ := h
    obtain ⟨k, rfl, rfl⟩ := in_soft hX
    refine ⟨_, pss_cons (ps_set (i := 2) scHSoft.nd rfl (.inl rfl) (pe_ix ix_list (pv 1) pe_int (fun _ _ => rfl)))
      (pss_cons (ps_if (pt_not (pt_chain op_le op_le pe_int (pv 2) (pe_glob (v := .int 64) (by rfl) m64 ⟨t, rfl⟩))) (pss_one (ps_ret (pe_lst (pa_cons (pe_glob (v := .int (-1)) (by rfl) mB ⟨u, rfl⟩) pa_nil)))) pss_nil)
      (pss_one (ps_ret (C8.pe_c cD' hr (by decide) (by rfl) (pa_cons (pv 0) (pa_cons (pv 2) pa_nil)))))), ?_⟩
    refine ⟨_, rfl, l, _, _, _, rfl, rfl, SqL.of hn, nums_get (j := 0) rfl, ?_⟩
    have bad : (k < 1 ∨ 64 < k) → ∀ r, H r = none → Q (.ref r) (upd H r (.lst [.int (-1)])) := by
      intro hbad r nr
      have e : Ie01.step p (.soft k) = (p, [-1]) := by
        show (p, if k < 1 ∨ 64 < k then _ else _) = _
        rw [if_pos hbad]
      exact told_then hp ok e (same_upd nr) nr upd_same q
    refine ⟨_, rfl, _, _, rfl, rfl, _, rfl, ite2 (fun g1 => ?_) (fun g1 => ?_)⟩
    · have h1 : 1 ≤ k := by have := of_decide_eq_true g1; omega
      refine ⟨_, _, rfl, rfl, _, rfl, ?_⟩
      by_cases h64 : k ≤ 64
      · rw [decide_eq_true (show (k : Int) ≤ 64 by omega)]
        refine iteF ?_
        refine ⟨_, rfl, _, rfl, a, p, k, rfl, hp, ok, h1, h64, fun H1 r s1 n1 e1 => ?_⟩
        have e : Ie01.step p (.soft k) = (p, Ie01.ints (p.soft k)) := by
          show (p, if k < 1 ∨ 64 < k then _ else _) = _
          rw [if_neg (by omega)]
        exact told_then hp ok e s1 n1 e1 q
      · rw [decide_eq_false (show ¬ (k : Int) ≤ 64 by omega)]
        exact iteT ⟨by show 1 ≤ sizeLine; decide, fun r nr => bad (by omega) r nr⟩
    · have h1 : ¬ 1 ≤ k := fun z => g1 (decide_eq_true (by omega))
      exact ⟨_, rfl, iteT ⟨by show 1 ≤ sizeLine; decide, fun r nr => bad (by omega) r nr⟩⟩
/-! ### runs -/
abbrev sHRuns : Stmt := top 74
theorem scHRuns : FnScope ["page", "numbers"] ["page", "numbers"] (defScope sHRuns) := ⟨rfl, rfl, rfl, by decide +kernel, rfl, by decide +kernel, by decide +kernel⟩
theorem ok_hruns {f : Addr} {fd : FuncData} (F : Fun K "answer_runs" "answer_runs" sHRuns f fd) (cH : C8.Cal P w K mg base 2 "chosen_cells" (spChosen C) []) (cR : C8.Cal P w K mg base 4 "runs_told" spRTold []) : FnOk P w K mg base CX0 8 f fd ["page", "numbers"] (spHand C 11) := by
  refine F.ok scHRuns (fun vs H Q E h => ?_) (fun cdv A outer s H vs Q E hr h => ?_)
  · obtain ⟨a, l, p, ns, X, rfl, _⟩ := h
    rfl
  · obtain ⟨a, l, p, ns, X, rfl, hp, ok, hn, hX, hb, q⟩ := h
    obtain ⟨rfl, rfl⟩ := in_runs hX
    refine ⟨_, pss_one (ps_ret (C8.pe_c cR hr (by decide) (by rfl) (pa_cons (C8.pe_c cH hr (by decide) (by rfl) (pa_cons (pv 0) pa_nil)) pa_nil))), ?_⟩
    refine ⟨_, rfl, a, p, rfl, hp, ok, fun H1 l1 s1 n1 e1 => ?_⟩
    refine ⟨l1, p, rfl, ok, e1, fun H2 r s2 n2 e2 => ?_⟩
    exact told_then (X := .runs) hp ok rfl (s1.trans s2) (s1.free n2) e2 q
/-! ### counts -/
abbrev sHCounts : Stmt := top 75
theorem scHCounts : FnScope ["page", "numbers", "chosen"] ["page", "numbers"] (defScope sHCounts) := ⟨rfl, rfl, rfl, by decide +kernel, rfl, by decide +kernel, by decide +kernel⟩
theorem bounds_len (cs : List Ie01.Cell) : (boundsM cs).length ≤ 4 := by
  unfold boundsM
  split
  · exact Nat.zero_le _
  · exact Nat.le_refl _
theorem ok_hcounts {f : Addr} {fd : FuncData} (F : Fun K "answer_counts" "answer_counts" sHCounts f fd) (ml : mg "len" = none) (cH : C8.Cal P w K mg base 2 "chosen_cells" (spChosen C) []) (cB : C8.Cal P w K mg base 1 "bounds" spBounds []) (cS : C8.Cal P w K mg base 4 "open_sides" spSides [])
    (cP : C8.Cal P w K mg base 4 "chosen_pieces" (spCPieces C) []) (cO : C8.Cal P w K mg base 4 "holes_of" (spHoles C) []) : FnOk P w K mg base CX0 8 f fd ["page", "numbers"] (spHand C 12) := by
  refine F.ok scHCounts (fun vs H Q E h => ?_) (fun cdv A outer s H vs Q E hr h => ?_)
  · obtain ⟨a, l, p, ns, X, rfl, _⟩ := h
    rfl
  · obtain ⟨a, l, p, ns, X, rfl, hp, ok, hn, hX, hb, q⟩ := h
    obtain ⟨rfl, rfl⟩ := in_counts hX
    refine ⟨_, pss_cons (ps_set (i := 2) scHCounts.nd rfl (.inl rfl) (C8.pe_c cH hr (by decide) (by rfl) (pa_cons (pv 0) pa_nil)))
      (pss_one (ps_ret (pe_op op_cat (pe_op op_cat (pe_lst (pa_cons (pe_callB call_len_seq (by rfl) ml PySem.boot_len (pa_cons (pv 2) pa_nil)) pa_nil)) (C8.pe_c cB hr (by decide) (by rfl) (pa_cons (pv 2) pa_nil)))
        (pe_lst (pa_cons (C8.pe_c cS hr (by decide) (by rfl) (pa_cons (pv 2) pa_nil)) (pa_cons (pe_callB call_len_seq (by rfl) ml PySem.boot_len (pa_cons (C8.pe_c cP hr (by decide) (by rfl) (pa_cons (pv 0) pa_nil)) pa_nil))
          (pa_cons (pe_callB call_len_seq (by rfl) ml PySem.boot_len (pa_cons (C8.pe_c cO hr (by decide) (by rfl) (pa_cons (pv 0) pa_nil)) pa_nil)) pa_nil))))))), ?_⟩
    have nd := chosen_nodup p
    have hle := ok.chosen_le
    refine ⟨_, rfl, a, p, rfl, hp, ok, fun H1 l1 s1 n1 e1 => ?_⟩
    obtain ⟨xs, hx, hc⟩ := id e1
    refine ⟨_, rfl, l1, xs, rfl, .inl (SqL.of hx), by show 1 ≤ sizeLine; decide, fun r1 nr1 => ?_⟩
    have t1 : (upd H1 r1 (.lst [.int ((xs.length : Nat) : Int)])) r1 = some (.lst [.int ((xs.length : Nat) : Int)]) := upd_same
    have s2 : Same H1 (upd H1 r1 (.lst [.int ((xs.length : Nat) : Int)])) := same_upd nr1
    generalize upd H1 r1 (.lst [.int ((xs.length : Nat) : Int)]) = H2 at t1 s2 ⊢
    refine ⟨_, rfl, l1, p.chosen, rfl, e1.same s2, hle, fun H3 r2 s3 nr2 e3 => ?_⟩
    have bl := bounds_len p.chosen
    refine ⟨r1, r2, _, _, rfl, rfl, s3 _ _ t1, e3, ?_, fun r3 nr3 => ?_⟩
    · unfold casts
      rw [List.length_map, List.length_map]
      simp only [List.length_cons, List.length_nil]
      exact Nat.le_trans (show _ ≤ 10 by omega) (by decide)
    have t3 : (upd H3 r3 (.lst ([.int ((xs.length : Nat) : Int)] ++ (casts (boundsM p.chosen)).map V.int))) r3 = some (.lst ([.int ((xs.length : Nat) : Int)] ++ (casts (boundsM p.chosen)).map V.int)) := upd_same
    have s4 : Same H3 (upd H3 r3 (.lst ([.int ((xs.length : Nat) : Int)] ++ (casts (boundsM p.chosen)).map V.int))) := same_upd nr3
    generalize upd H3 r3 (.lst ([.int ((xs.length : Nat) : Int)] ++ (casts (boundsM p.chosen)).map V.int)) = H4 at t3 s4 ⊢
    have s14 : Same H1 H4 := (s2.trans s3).trans s4
    have s04 : Same H H4 := s1.trans s14
    refine ⟨_, rfl, l1, p.chosen, rfl, e1.same s14, nd, hle, fun H5 s5 => ?_⟩
    have s05 := s04.trans s5
    refine ⟨_, rfl, a, p, rfl, hp.same s05, ok, fun H6 l6 Ps s6 n6 e6 rel6 _ => ?_⟩
    obtain ⟨vs6, hv6, hd6⟩ := e6
    refine ⟨l6, vs6, rfl, .inl (SqL.of hv6), ?_⟩
    have s06 := s05.trans s6
    refine ⟨_, rfl, a, p, rfl, hp.same s06, ok, fun H7 l7 Os s7 n7 e7 rel7 _ _ => ?_⟩
    obtain ⟨vs7, hv7, hd7⟩ := e7
    refine ⟨l7, vs7, rfl, .inl (SqL.of hv7), ?_⟩
    have s07 := s06.trans s7
    refine ⟨by show 3 ≤ sizeLine; decide, fun r8 nr8 => ?_⟩
    have t7 : H7 r3 = some (.lst ([.int ((xs.length : Nat) : Int)] ++ (casts (boundsM p.chosen)).map V.int)) := s7 _ _ (s6 _ _ (s5 _ _ t3))
    have ne38 : r3 ≠ r8 := ne_of_none t7 nr8
    have s8 : Same H7 (upd H7 r8 (.lst [.int ((sidesM p.chosen : Nat) : Int), .int ((vs6.length : Nat) : Int), .int ((vs7.length : Nat) : Int)])) := same_upd nr8
    refine ⟨r3, r8, _, _, rfl, rfl, s8 _ _ t7, upd_same, ?_, fun r9 nr9 => ?_⟩
    · unfold casts
      rw [List.length_append, List.length_map, List.length_map]
      simp only [List.length_cons, List.length_nil]
      exact Nat.le_trans (show _ ≤ 20 by omega) (by decide)
    have s09 := s07.trans s8
    refine told_then (X := .counts) (out := Ie01.ints p.counts) hp ok rfl (s09.trans (same_upd nr9)) (s09.free nr9) ?_ q
    rw [upd_same, counts_is, sides_steps]
    have e6 : vs6.length = p.pieces.length := by rw [hd6.1, rel6.length]
    have e7 : vs7.length = p.holes.length := by rw [hd7.1, rel7.length]
    rw [hc.1, e6, e7]
    show _ = some (HO.lst ((casts (([p.chosen.length] ++ boundsM p.chosen) ++ [sidesM p.chosen, p.pieces.length, p.holes.length])).map V.int))
    rw [casts_append, casts_append, List.map_append, List.map_append]
    rfl
/-! ### pieces, holes -/
abbrev sHPieces : Stmt := top 76
theorem scHPieces : FnScope ["page", "numbers"] ["page", "numbers"] (defScope sHPieces) := ⟨rfl, rfl, rfl, by decide +kernel, rfl, by decide +kernel, by decide +kernel⟩
theorem ok_hpieces {f : Addr} {fd : FuncData} (F : Fun K "answer_pieces" "answer_pieces" sHPieces f fd) (cP : C8.Cal P w K mg base 4 "chosen_pieces" (spCPieces C) []) (cT : C8.Cal P w K mg base 1 "pieces_told" spPTold []) : FnOk P w K mg base CX0 8 f fd ["page", "numbers"] (spHand C 13) := by
  refine F.ok scHPieces (fun vs H Q E h => ?_) (fun cdv A outer s H vs Q E hr h => ?_)
  · obtain ⟨a, l, p, ns, X, rfl, _⟩ := h
    rfl
  · obtain ⟨a, l, p, ns, X, rfl, hp, ok, hn, hX, hb, q⟩ := h
    obtain ⟨rfl, rfl⟩ := in_pieces hX
    refine ⟨_, pss_one (ps_ret (C8.pe_c cT hr (by decide) (by rfl) (pa_cons (C8.pe_c cP hr (by decide) (by rfl) (pa_cons (pv 0) pa_nil)) pa_nil))), ?_⟩
    refine ⟨_, rfl, a, p, rfl, hp, ok, fun H1 l1 Ps s1 n1 e1 rel h3 => ?_⟩
    refine ⟨l1, Ps, _, rfl, e1, rel, h3, fun H2 r s2 n2 e2 => ?_⟩
    exact told_then (X := .pieces) hp ok rfl (s1.trans s2) (s1.free n2) e2 q
abbrev sHHoles : Stmt := top 77
theorem scHHoles : FnScope ["page", "numbers"] ["page", "numbers"] (defScope sHHoles) := ⟨rfl, rfl, rfl, by decide +kernel, rfl, by decide +kernel, by decide +kernel⟩
theorem ok_hholes {f : Addr} {fd : FuncData} (F : Fun K "answer_holes" "answer_holes" sHHoles f fd) (cO : C8.Cal P w K mg base 4 "holes_of" (spHoles C) []) (cT : C8.Cal P w K mg base 1 "pieces_told" spPTold []) : FnOk P w K mg base CX0 8 f fd ["page", "numbers"] (spHand C 14) := by
  refine F.ok scHHoles (fun vs H Q E h => ?_) (fun cdv A outer s H vs Q E hr h => ?_)
  · obtain ⟨a, l, p, ns, X, rfl, _⟩ := h
    rfl
  · obtain ⟨a, l, p, ns, X, rfl, hp, ok, hn, hX, hb, q⟩ := h
    obtain ⟨rfl, rfl⟩ := in_holes hX
    refine ⟨_, pss_one (ps_ret (C8.pe_c cT hr (by decide) (by rfl) (pa_cons (C8.pe_c cO hr (by decide) (by rfl) (pa_cons (pv 0) pa_nil)) pa_nil))), ?_⟩
    refine ⟨_, rfl, a, p, rfl, hp, ok, fun H1 l1 Ps s1 n1 e1 rel _ h3 => ?_⟩
    refine ⟨l1, Ps, _, rfl, e1, rel, h3, fun H2 r s2 n2 e2 => ?_⟩
    exact told_then (X := .holes) hp ok rfl (s1.trans s2) (s1.free n2) e2 q
end
end SE
set_option maxRecDepth 100000
set_option maxHeartbeats 2000000
namespace SE
open PySem PySem.Spec PyProof.Rows L2
/-! ### a call of what a local name holds: its promise goes with it -/
def tCallP (P : Program) (w : World) (K : PySem.W.Frag) (mg : Str → Option Value) (base : Heap) (k i : Nat) (t : TA) : TE := fun σ H Q => ∃ f sp, σ[i]? = some (some (.ref f)) ∧ Held P w K mg base k f sp ∧ t σ H fun vs H1 => sp vs H1 Q (fun _ _ _ => False)
theorem pe_callP {X : Cx} {k i : Nat} {x : Str} {p pos : Pos} {e : Expr} {es : List Expr} {t : TA} (hr : Room k X.A) (hN : X.N[i]? = some x) (hv : Vis X.env.scope x) (ha : PA X (e :: es) t)
    (h1 : (x == ("__debug__" : Str)) = false := by decide) (h2 : (x == ("__classdict__" : Str)) = false := by decide) (h3 : starEach (e :: es) X.env = (false, eval e X.env) :: starEach es X.env := by rfl)
    (h4 : (backTo pos (starEach es X.env)).any (·.1) = false := by rfl) : PE X (.Call (.Name x p) (e :: es) [] pos) (tCallP X.prog X.w X.K X.mg X.base k i t) := by
  refine ⟨fun pins s σ H Q I h => ?_⟩
  obtain ⟨f, sp, hs, hH, ht⟩ := h
  refine (pe_callA (S := fun g => if g = f then some sp else none) (fun g sp' hg => ?_) hr hN hv ha h1 h2 h3 h4).run pins s σ H Q I ⟨f, sp, hs, if_pos rfl, ht⟩
  by_cases hgf : g = f
  · rw [if_pos hgf] at hg
    cases hg
    rw [hgf]
    exact hH
  · rw [if_neg hgf] at hg
    cases hg
theorem cut_nat {xs : List V} {i j : Nat} (h1 : i ≤ j) (h2 : j ≤ xs.length) : cutV xs (some (i : Int)) (some (j : Int)) = (xs.drop i).take (j - i) := by
  unfold cutV
  rw [HT.sIx_nat, HT.sIx_nat, Nat.min_eq_left h2, Nat.min_eq_left (Nat.le_trans h1 h2)]
section
variable {P : Program} {w : World} {K : PySem.W.Frag} {mg : Str → Option Value} {base : Heap} {C : Addr}
abbrev sAns : Stmt := top 80
theorem scAns : FnScope ["calls", "page", "given", "place", "handler", "first", "numbers"] ["calls"] (defScope sAns) := ⟨rfl, rfl, rfl, by decide +kernel, rfl, by decide +kernel, by decide +kernel⟩
def spAns (K : PySem.W.Frag) : Sp := fun vs H Q _ => ∃ (a : Addr) (ns : List Int), vs = [.ref a] ∧ SqL K H a (ns.map V.int) ∧ PyIe01.answers_asked ns = true ∧
  ∀ (H' : Hp) (p : Addr), H' p = some (.lst ((PyIe01.answers ns).map V.int)) → Q (.ref p) H'
theorem int_get {ns : List Int} {i : Nat} {z : Int} (h : ns[i]? = some z) : atI (ns.map V.int) (i : Int) = some (.int z) := by
  refine atI_nat ?_
  rw [List.getElem?_map, h]
  rfl
theorem ok_ans {f fI th ty : Addr} {fd fdI : FuncData} {xs ys : List V} (F : Fun K "answers" "answers" sAns f fd) (T : Txt K mg C) (M : Mk K C fI) (GI : FnOk P w K mg base CX0 2 fI fdI ["self"] (spInit C)) (bI : Binds K fdI ["self"] [])
    (ml : mg "len" = none) (mH : mg "HANDLERS" = some (.ref th)) (mY : mg "HOW_MANY_NUMBERS" = some (.ref ty)) (hxs : ∀ H, SqT K H th xs) (hys : ∀ H, SqT K H ty ys)
    (hx : ∀ k, k < 15 → ∃ g, xs[k]? = some (.ref g) ∧ Held P w K mg base 8 g (spHand C k)) (hy : ∀ k, k < 15 → ys[k]? = some (.int ((arity k : Nat) : Int))) : FnOk P w K mg base CX0 9 f fd ["calls"] (spAns K) := by
  refine F.ok scAns (fun vs H Q E h => ?_) (fun cdv A outer s H vs Q E hr h => ?_)
  · obtain ⟨a, ns, rfl, _⟩ := h
    rfl
  · obtain ⟨a, ns, rfl, hS, ask, q⟩ := h
    refine ⟨_, pss_cons (ps_set (i := 1) scAns.nd rfl (.inl rfl) (pe_make0 M GI (hr.mono (by decide)) (by rfl) T.gC bI .nil pass0))
      (pss_cons (ps_set (i := 2) scAns.nd rfl (.inl rfl) (pe_lst pa_nil))
      (pss_cons (ps_set (i := 3) scAns.nd rfl (.inl rfl) pe_int)
      (pss_cons (ps_while PassesOwn.never (pt_cmpR op_lt (pv 3) (pe_callB call_len_seq (by rfl) ml PySem.boot_len (pa_cons (pv 0) pa_nil)) (nomark _))
        (pss_cons (ps_set (i := 4) scAns.nd rfl (.inl rfl) (pe_ix ix_tup (pe_glob (v := .ref th) (by rfl) mH rfl) (pe_ix ix_list (pv 0) (pv 3) (fun _ _ => rfl)) (fun _ _ => rfl)))
        (pss_cons (ps_set (i := 5) scAns.nd rfl (.inl rfl) (pe_op op_add (pv 3) pe_int))
        (pss_cons (ps_set (i := 3) scAns.nd rfl (.inl rfl) (pe_op op_add (pv 5) (pe_ix ix_tup (pe_glob (v := .ref ty) (by rfl) mY rfl) (pe_ix ix_list (pv 0) (pv 3) (fun _ _ => rfl)) (fun _ _ => rfl))))
        (pss_cons (ps_set (i := 6) scAns.nd rfl (.inl rfl) (pe_callP (i := 4) hr rfl (.inl rfl) (pa_cons (pv 1) (pa_cons (pe_slice sl_list (pv 0) (po_some (pv 5)) (po_some (pv 3))) pa_nil))))
        (pss_cons (ps_expr (pe_bm PySem.F.plainAttrs_list PySem.F.slot_list_append PySem.F.type_list_append mt_append (pv 2) (pa_cons (pe_callB call_len_seq (by rfl) ml PySem.boot_len (pa_cons (pv 6) pa_nil)) pa_nil)))
        (pss_one (ps_expr (pe_bm PySem.F.plainAttrs_list PySem.F.slot_list_extend PySem.F.type_list_extend mt_extend (pv 2) (pa_cons (pv 6) pa_nil))))))))))
      (pss_one (ps_ret (pv 2)))))), ?_⟩
    obtain ⟨lp0, hshort⟩ := asked_loop ask
    intro pg dx npg ndx nex
    refine ⟨pg, dx, rfl, upd_same, fun H1 hp1 b1 => ⟨rfl, ?_⟩⟩
    have s1 : Same H H1 := fun b o e => b1 b o (by rw [upd_ne (ne_of_none e npg), upd_ne (ne_of_none e ndx)]; exact e) (ne_of_none e npg)
    refine ⟨Nat.zero_le _, fun gv ngv => ?_⟩
    have s2 : Same H1 (upd H1 gv (.lst [])) := same_upd ngv
    have gvH : H gv = none := s1.free ngv
    dsimp only [gName, tSeq, tAsg, tC]
    refine while_by (fun σ H' => ∃ n u4 u5 u6 st g, σ = [some (.ref a), some (.ref pg), some (.ref gv), some (.int ((n : Nat) : Int)), u4, u5, u6] ∧ Same H H' ∧ PageAt C H' pg st ∧ Ok st ∧ H' gv = some (.lst (g.map V.int)) ∧ Loop ns n st g)
      (fun (σ : L2.St) _ => match σ[3]? with
        | some (some (V.int i)) => ns.length - i.toNat
        | _ => 0) ?_ ?_ ?_
    · exact ⟨0, none, none, none, Ie01.init, [], rfl, s1.trans s2, hp1.same s2, init_ok, upd_same, lp0⟩
    · rintro σ H' ⟨n, u4, u5, u6, st, g, rfl, sH, hp, ok, hg, lp⟩
      have hS' : SqL K H' a (ns.map V.int) := sH.seq hS
      refine ⟨_, rfl, _, rfl, a, _, rfl, .inl hS', _, _, rfl, rfl, _, rfl, ?_⟩
      refine ite2 (fun z => ?_) (fun z => ?_)
      · have hlt : n < ns.length := by
          have := of_decide_eq_true z
          rw [List.length_map] at this
          omega
        obtain ⟨k, args, X, hX, hbd, hk, hal, hget, htake, hle, lp'⟩ := loop_turn lp hlt
        obtain ⟨fh, ehx, held⟩ := hx k hk
        -- handler = HANDLERS[calls[place]]
        refine ⟨_, rfl, _, rfl, a, _, _, _, rfl, rfl, hS', int_get hget, th, xs, _, _, rfl, rfl, hxs _, atI_nat ehx, ?_⟩
        -- first = place + 1
        refine ⟨_, rfl, _, _, rfl, rfl, ?_⟩
        -- place = first + HOW_MANY_NUMBERS[calls[place]]
        refine ⟨_, rfl, _, rfl, _, rfl, a, _, _, _, rfl, rfl, hS', int_get hget, ty, ys, _, _, rfl, rfl, hys _, atI_nat (hy k hk), _, _, rfl, rfl, ?_⟩
        -- numbers = handler(page, calls[first:place])
        refine ⟨fh, spHand C k, rfl, held, _, rfl, _, rfl, _, rfl, _, rfl, _, rfl, _, rfl, a, _, rfl, hS', fun ln nln => ?_⟩
        have ec : cutV (ns.map V.int) (some ((n : Int) + 1)) (some ((n : Int) + 1 + ((arity k : Nat) : Int))) = (casts args).map V.int := by
          have e1 : ((n : Int) + 1) = ((n + 1 : Nat) : Int) := by omega
          have e2 : ((n : Int) + 1 + ((arity k : Nat) : Int)) = ((n + 1 + arity k : Nat) : Int) := by omega
          rw [e2, e1, cut_nat (by omega) (by rw [List.length_map]; exact hle), ← List.map_drop, ← List.map_take, ← htake]
          congr 2
          omega
        have s3 : Same H' (upd H' ln (.lst (cutV (ns.map V.int) (some ((n : Int) + 1)) (some ((n : Int) + 1 + ((arity k : Nat) : Int)))))) := same_upd nln
        refine ⟨pg, ln, st, args, X, rfl, hp.same s3, ok, ?_, hX, hbd, fun H3 r hp3 ok3 b3 nr er => ?_⟩
        · unfold NumsAt
          rw [upd_same, ec]
        have sH3 : Same H H3 := fun b o e => b3 b o (s3 _ _ (sH _ _ e)) (ne_of_none e npg)
        have gpg : gv ≠ pg := by
          obtain ⟨_, _, _, hpg, _⟩ := hp
          exact ne_of hg hpg (by intro z; cases z)
        have hg3 : H3 gv = some (.lst (g.map V.int)) := b3 _ _ (s3 _ _ hg) gpg
        have hlg := loop_short lp'
        have hlen : g.length + ((Ie01.step st X).2.length + 1) ≤ 10000000 := by
          rw [List.length_append, List.length_cons] at hlg
          omega
        have ngr : r ≠ gv := by
          intro z
          rw [z] at nr
          rw [s3 _ _ hg] at nr
          cases nr
        -- given.append(len(numbers))
        refine ⟨_, rfl, .inl ⟨rfl, _, SqL.of hg3⟩, _, rfl, r, _, rfl, .inl (SqL.of er), gv, _, _, rfl, rfl, hg3, ?_, ?_⟩
        · rw [List.length_map]
          exact Nat.lt_of_le_of_lt (show _ ≤ 10000000 by omega) (by decide)
        -- given.extend(numbers)
        have hg4 : (upd H3 gv (.lst (g.map V.int ++ [.int (((Ie01.step st X).2.map V.int).length : Nat)]))) gv = some (.lst (g.map V.int ++ [.int (((Ie01.step st X).2.map V.int).length : Nat)])) := upd_same
        have er4 : (upd H3 gv (.lst (g.map V.int ++ [.int (((Ie01.step st X).2.map V.int).length : Nat)]))) r = some (.lst ((Ie01.step st X).2.map V.int)) := by
          rw [upd_ne ngr]
          exact er
        refine ⟨_, rfl, .inl ⟨rfl, _, SqL.of hg4⟩, _, rfl, gv, r, _, _, rfl, rfl, hg4, er4, ?_, ?_⟩
        · rw [List.length_append, List.length_map, List.length_map]
          simp only [List.length_cons, List.length_nil]
          exact Nat.le_trans (show _ ≤ 10000000 by omega) (by decide)
        refine ⟨⟨n + 1 + arity k, some (V.ref fh), some (V.int ((n : Int) + 1)), some (V.ref r), (Ie01.step st X).1, _, ?_, ?_, ?_, ok3, ?_, lp'⟩, ?_⟩
        · show _ = [some (V.ref a), some (V.ref pg), some (V.ref gv), some (V.int ((n + 1 + arity k : Nat) : Int)), some (V.ref fh), some (V.int ((n : Int) + 1)), some (V.ref r)]
          have e2 : ((n + 1 + arity k : Nat) : Int) = ((n : Int) + 1 + ((arity k : Nat) : Int)) := by omega
          rw [e2]
          rfl
        · exact fun b o e => by
            rw [upd_ne (ne_of_none e gvH), upd_ne (ne_of_none e gvH)]
            exact sH3 b o e
        · have kp : ∀ b o, H3 b = some o → b ≠ gv → (upd (upd H3 gv (.lst (g.map V.int ++ [.int (((Ie01.step st X).2.map V.int).length : Nat)]))) gv (.lst (g.map V.int ++ [.int (((Ie01.step st X).2.map V.int).length : Nat)] ++ (Ie01.step st X).2.map V.int))) b = some o := by
            intro b o e nb
            rw [upd_ne nb, upd_ne nb]
            exact e
          obtain ⟨dx3, lc, lm, f1, ⟨vs, f2, f3⟩, f4⟩ := hp3
          have hpos : 0 < (Ie01.step st X).1.w * (Ie01.step st X).1.h := Nat.mul_pos ok3.w1 ok3.h1
          have nlc : lc ≠ gv := by
            intro z
            rw [z, hg3] at f2
            have e := HO.lst.inj (Option.some.inj f2)
            obtain ⟨v, g1, b, rfl, _⟩ := f3.2 0 _ (by rw [all_eq]; exact cellsOf_get ok3.w1 hpos)
            rw [← e, List.getElem?_map] at g1
            cases h : g[0]? with
            | none => rw [h] at g1; cases g1
            | some y => rw [h] at g1; cases g1
          have nlm : lm ≠ gv := by
            intro z
            have f5 : H3 lm = some (.lst ((Ie01.step st X).1.cells.map V.bl)) := f4
            rw [z, hg3] at f5
            have e := HO.lst.inj (Option.some.inj f5)
            cases hc : (Ie01.step st X).1.cells with
            | nil =>
              have := ok3.len
              rw [hc] at this
              simp only [List.length_nil] at this
              omega
            | cons m ms =>
              rw [hc, List.map_cons] at e
              cases g with
              | nil => cases e
              | cons y g => cases e
          refine ⟨dx3, lc, lm, kp _ _ f1 gpg.symm, ⟨vs, kp _ _ f2 nlc, f3.1, fun j c e => ?_⟩, kp _ _ f4 nlm⟩
          obtain ⟨v, g1, b, rfl, g2⟩ := f3.2 j c e
          exact ⟨_, g1, b, rfl, kp _ _ g2 (ne_of g2 hg3 (by intro z; cases z))⟩
        · rw [upd_same, List.map_append, List.map_cons, List.length_map, List.append_assoc]
          rfl
        · show ns.length - ((n : Int) + 1 + ((arity k : Nat) : Int)).toNat < ns.length - ((n : Nat) : Int).toNat
          omega
      · have hge : ns.length ≤ n := by
          rcases Nat.lt_or_ge n ns.length with y | y
          · refine absurd (decide_eq_true ?_) z
            rw [List.length_map]
            omega
          · exact y
        refine ⟨_, rfl, q _ gv ?_⟩
        rw [hg, loop_end lp hge]
    · rintro σ H Q1 Q2 hq ⟨v, e, v0, e0, p, ys, e1, h1, i, j, e2, e3, k, e4, z⟩
      exact ⟨v, e, v0, e0, p, ys, e1, h1, i, j, e2, e3, k, e4, hq _ _ z⟩
end
end SE
set_option maxRecDepth 100000
set_option maxHeartbeats 2000000
namespace SE
open PySem PySem.Spec PyProof.Rows L2
/-! ### tuples of the program's top -/
def TupK (K : PySem.W.Frag) (t : Addr) (us : List Value) : Prop := ∃ (od : Option Addr) (n : Nat) (sl : Array (Option Value)), K.lookup t = some ⟨.type "tuple", od, .seq us.toArray n, sl⟩
theorem tup_mk {K : PySem.W.Frag} {t : Addr} {us : List Value} {od : Option Addr} {n : Nat} {sl : Array (Option Value)} (h : K.lookup t = some ⟨.type "tuple", od, .seq us.toArray n, sl⟩) : TupK K t us := ⟨od, n, sl, h⟩
theorem TupK.sq {K : PySem.W.Frag} {t : Addr} {us : List Value} {xs : List V} (h : TupK K t us) (r : Vals xs us) (hl : us.length ≤ 1000) (H : Hp) : SqT K H t xs := by
  obtain ⟨od, n, sl, h⟩ := h
  exact .inr ⟨_, us.toArray, n, h, rfl, rfl, Nat.le_trans (by simpa using hl) (by decide), by simpa using r⟩
/-- tuples of two numbers, one by one -/
inductive StepsK (K : PySem.W.Frag) : List Value → List IC → Prop
  | nil : StepsK K [] []
  | cons {a : Addr} {x y : Int} {tx ty : Tok} {us : List Value} {ss : List IC} : TupK K a [.int x tx, .int y ty] → StepsK K us ss → StepsK K (.ref a :: us) ((x, y) :: ss)
theorem StepsK.vals {K : PySem.W.Frag} {us : List Value} {ss : List IC} (h : StepsK K us ss) : ∃ xs, Vals xs us ∧ xs.length = ss.length ∧ ∀ (H : Hp) (i : Nat) (s : IC), ss[i]? = some s → ∃ a, xs[i]? = some (.ref a) ∧ SqT K H a (icV s) := by
  induction h with
  | nil => exact ⟨[], .nil, rfl, fun H i s e => by cases e⟩
  | @cons a x y tx ty us ss ht _ ih =>
    obtain ⟨xs, h1, h2, h3⟩ := ih
    refine ⟨.ref a :: xs, .cons rfl h1, by simp [h2], fun H i s e => ?_⟩
    cases i with
    | zero =>
      cases e
      exact ⟨a, rfl, ht.sq (xs := icV (x, y)) (.cons ⟨tx, rfl⟩ (.cons ⟨ty, rfl⟩ .nil)) (by show 2 ≤ 1000; decide) H⟩
    | succ i => exact h3 H i s e
theorem steps_at {K : PySem.W.Frag} {t : Addr} {us : List Value} {ss : List IC} (h : TupK K t us) (hs : StepsK K us ss) (hl : us.length ≤ 1000) (H : Hp) : StepsAt K H t ss := by
  obtain ⟨xs, h1, h2, h3⟩ := hs.vals
  exact ⟨xs, h.sq h1 hl H, h2, h3 H⟩
/-! ### with corners -/
def corners8 : List IC := [(-1, -1), (0, -1), (1, -1), (-1, 0), (1, 0), (-1, 1), (0, 1), (1, 1)]
theorem beside_true (a b : Ie01.Cell) : Ie01.beside true a b = true ↔ Ie01.gap a.1 b.1 ≤ 1 ∧ Ie01.gap a.2 b.2 ≤ 1 ∧ a ≠ b := by
  show (decide (Ie01.gap a.1 b.1 ≤ 1) && (decide (Ie01.gap a.2 b.2 ≤ 1) && a != b)) = true ↔ _
  rw [Bool.and_eq_true, Bool.and_eq_true, decide_eq_true_eq, decide_eq_true_eq, bne_iff_ne]
theorem beside_false (a b : Ie01.Cell) : Ie01.beside false a b = true ↔ Ie01.gap a.1 b.1 + Ie01.gap a.2 b.2 = 1 := by
  show decide (Ie01.gap a.1 b.1 + Ie01.gap a.2 b.2 = 1) = true ↔ _
  rw [decide_eq_true_eq]
theorem mem_corners8 {s : IC} : s ∈ corners8 ↔ (-1 ≤ s.1 ∧ s.1 ≤ 1) ∧ (-1 ≤ s.2 ∧ s.2 ≤ 1) ∧ ¬ (s.1 = 0 ∧ s.2 = 0) := by
  obtain ⟨x, y⟩ := s
  simp only [corners8, List.mem_cons, Prod.mk.injEq, List.not_mem_nil, or_false]
  omega
theorem leads8 : Leads true corners8 := by
  intro a b
  rw [beside_true]
  obtain ⟨a1, a2⟩ := a
  obtain ⟨b1, b2⟩ := b
  unfold Ie01.gap
  simp only [ne_eq, Prod.mk.injEq]
  constructor
  · rintro ⟨h1, h2, h3⟩
    refine ⟨((a1 : Int) - b1, (a2 : Int) - b2), mem_corners8.mpr ⟨⟨?_, ?_⟩, ⟨?_, ?_⟩, ?_⟩, ?_, ?_⟩ <;> simp only <;> omega
  · rintro ⟨s, hs, h1, h2⟩
    obtain ⟨⟨g1, g2⟩, ⟨g3, g4⟩, g5⟩ := mem_corners8.mp hs
    refine ⟨?_, ?_, ?_⟩ <;> omega
end SE
set_option maxRecDepth 100000
set_option maxHeartbeats 4000000
namespace SE
open PySem PySem.Spec PyProof.Rows L2
theorem all_mk {P : Program} {w : World} {K : PySem.W.Frag} {h : Heap} {mg : Str → Option Value} {fa : Addr} (X : K.In h) (G : h.Ns mainGlobals mg) (hfa : mg "answers" = some (.ref fa))
    {C f_init f_lay : Addr} {fd_init fd_lay : FuncData}
    {f_apart : Addr} {fd_apart : FuncData}
    {f_nearest : Addr} {fd_nearest : FuncData}
    {f_moved : Addr} {fd_moved : FuncData}
    {f_marked_cells : Addr} {fd_marked_cells : FuncData}
    {f_turned_over : Addr} {fd_turned_over : FuncData}
    {f_chosen_cells : Addr} {fd_chosen_cells : FuncData}
    {f_unchosen_cells : Addr} {fd_unchosen_cells : FuncData}
    {f_put_all : Addr} {fd_put_all : FuncData}
    {f_members_of : Addr} {fd_members_of : FuncData}
    {f_is_near : Addr} {fd_is_near : FuncData}
    {f_grown : Addr} {fd_grown : FuncData}
    {f_shrunk : Addr} {fd_shrunk : FuncData}
    {f_outside_apart : Addr} {fd_outside_apart : FuncData}
    {f_shrunk_from_outside : Addr} {fd_shrunk_from_outside : FuncData}
    {f_ring_marks : Addr} {fd_ring_marks : FuncData}
    {f_piece_from : Addr} {fd_piece_from : FuncData}
    {f_pieces_of : Addr} {fd_pieces_of : FuncData}
    {f_chosen_pieces : Addr} {fd_chosen_pieces : FuncData}
    {f_kept : Addr} {fd_kept : FuncData}
    {f_pieces_told : Addr} {fd_pieces_told : FuncData}
    {f_is_on_rim : Addr} {fd_is_on_rim : FuncData}
    {f_reaches_rim : Addr} {fd_reaches_rim : FuncData}
    {f_holes_of : Addr} {fd_holes_of : FuncData}
    {f_filled : Addr} {fd_filled : FuncData}
    {f_without_beside : Addr} {fd_without_beside : FuncData}
    {f_runs_told : Addr} {fd_runs_told : FuncData}
    {f_bounds : Addr} {fd_bounds : FuncData}
    {f_open_sides : Addr} {fd_open_sides : FuncData}
    {f_box_marks : Addr} {fd_box_marks : FuncData}
    {f_disk_marks : Addr} {fd_disk_marks : FuncData}
    {f_is_chosen_then : Addr} {fd_is_chosen_then : FuncData}
    {f_joined : Addr} {fd_joined : FuncData}
    {f_root : Addr} {fd_root : FuncData}
    {f_steps_off : Addr} {fd_steps_off : FuncData}
    {f_chosen_degree : Addr} {fd_chosen_degree : FuncData}
    {f_unchosen_degree : Addr} {fd_unchosen_degree : FuncData}
    {f_degrees : Addr} {fd_degrees : FuncData}
    {f_choose : Addr} {fd_choose : FuncData}
    {f_is_size : Addr} {fd_is_size : FuncData}
    {f_answer_page : Addr} {fd_answer_page : FuncData}
    {f_answer_box : Addr} {fd_answer_box : FuncData}
    {f_answer_disk : Addr} {fd_answer_disk : FuncData}
    {f_answer_over : Addr} {fd_answer_over : FuncData}
    {f_answer_grow : Addr} {fd_answer_grow : FuncData}
    {f_answer_shrink : Addr} {fd_answer_shrink : FuncData}
    {f_answer_ring : Addr} {fd_answer_ring : FuncData}
    {f_answer_fill : Addr} {fd_answer_fill : FuncData}
    {f_answer_keep : Addr} {fd_answer_keep : FuncData}
    {f_answer_far : Addr} {fd_answer_far : FuncData}
    {f_answer_soft : Addr} {fd_answer_soft : FuncData}
    {f_answer_runs : Addr} {fd_answer_runs : FuncData}
    {f_answer_counts : Addr} {fd_answer_counts : FuncData}
    {f_answer_pieces : Addr} {fd_answer_pieces : FuncData}
    {f_answer_holes : Addr} {fd_answer_holes : FuncData}
    {f_answers : Addr} {fd_answers : FuncData}
    {t_LEAST_DEGREE : Tok}
    {t_GREATEST_DEGREE : Tok}
    {t_MOST_COLUMNS_OR_ROWS : Tok}
    {t_LAST_HOW : Tok}
    {t_GREATEST_WIDTH : Tok}
    {t_BAD_SIZE : Tok}
    {t_BAD_HOW : Tok}
    {t_BAD_OUTSIDE : Tok}
    {t_NOT_CHOSEN : Tok}
    {t_NO_SUCH_CELL : Tok}
    {t_NOTHING_CHOSEN : Tok}
    {t_BAD_WIDTH : Tok}
    {p_SIDES : Addr} {p_SIDES_0 p_SIDES_1 p_SIDES_2 p_SIDES_3 : Addr} {q_SIDES_0 r_SIDES_0 q_SIDES_1 r_SIDES_1 q_SIDES_2 r_SIDES_2 q_SIDES_3 r_SIDES_3 : Tok}
    {us_SIDES : List Value} {od_SIDES : Option Addr} {n_SIDES : Nat} {sl_SIDES : Array (Option Value)}
    {us_SIDES_0 : List Value} {od_SIDES_0 : Option Addr} {n_SIDES_0 : Nat} {sl_SIDES_0 : Array (Option Value)}
    {us_SIDES_1 : List Value} {od_SIDES_1 : Option Addr} {n_SIDES_1 : Nat} {sl_SIDES_1 : Array (Option Value)}
    {us_SIDES_2 : List Value} {od_SIDES_2 : Option Addr} {n_SIDES_2 : Nat} {sl_SIDES_2 : Array (Option Value)}
    {us_SIDES_3 : List Value} {od_SIDES_3 : Option Addr} {n_SIDES_3 : Nat} {sl_SIDES_3 : Array (Option Value)}
    {p_WITH_CORNERS : Addr} {p_WITH_CORNERS_0 p_WITH_CORNERS_1 p_WITH_CORNERS_2 p_WITH_CORNERS_3 p_WITH_CORNERS_4 p_WITH_CORNERS_5 p_WITH_CORNERS_6 p_WITH_CORNERS_7 : Addr} {q_WITH_CORNERS_0 r_WITH_CORNERS_0 q_WITH_CORNERS_1 r_WITH_CORNERS_1 q_WITH_CORNERS_2 r_WITH_CORNERS_2 q_WITH_CORNERS_3 r_WITH_CORNERS_3 q_WITH_CORNERS_4 r_WITH_CORNERS_4 q_WITH_CORNERS_5 r_WITH_CORNERS_5 q_WITH_CORNERS_6 r_WITH_CORNERS_6 q_WITH_CORNERS_7 r_WITH_CORNERS_7 : Tok}
    {us_WITH_CORNERS : List Value} {od_WITH_CORNERS : Option Addr} {n_WITH_CORNERS : Nat} {sl_WITH_CORNERS : Array (Option Value)}
    {us_WITH_CORNERS_0 : List Value} {od_WITH_CORNERS_0 : Option Addr} {n_WITH_CORNERS_0 : Nat} {sl_WITH_CORNERS_0 : Array (Option Value)}
    {us_WITH_CORNERS_1 : List Value} {od_WITH_CORNERS_1 : Option Addr} {n_WITH_CORNERS_1 : Nat} {sl_WITH_CORNERS_1 : Array (Option Value)}
    {us_WITH_CORNERS_2 : List Value} {od_WITH_CORNERS_2 : Option Addr} {n_WITH_CORNERS_2 : Nat} {sl_WITH_CORNERS_2 : Array (Option Value)}
    {us_WITH_CORNERS_3 : List Value} {od_WITH_CORNERS_3 : Option Addr} {n_WITH_CORNERS_3 : Nat} {sl_WITH_CORNERS_3 : Array (Option Value)}
    {us_WITH_CORNERS_4 : List Value} {od_WITH_CORNERS_4 : Option Addr} {n_WITH_CORNERS_4 : Nat} {sl_WITH_CORNERS_4 : Array (Option Value)}
    {us_WITH_CORNERS_5 : List Value} {od_WITH_CORNERS_5 : Option Addr} {n_WITH_CORNERS_5 : Nat} {sl_WITH_CORNERS_5 : Array (Option Value)}
    {us_WITH_CORNERS_6 : List Value} {od_WITH_CORNERS_6 : Option Addr} {n_WITH_CORNERS_6 : Nat} {sl_WITH_CORNERS_6 : Array (Option Value)}
    {us_WITH_CORNERS_7 : List Value} {od_WITH_CORNERS_7 : Option Addr} {n_WITH_CORNERS_7 : Nat} {sl_WITH_CORNERS_7 : Array (Option Value)}
    {p_ROOT_PARTS : Addr} {q_ROOT_PARTS_0 q_ROOT_PARTS_1 q_ROOT_PARTS_2 q_ROOT_PARTS_3 q_ROOT_PARTS_4 q_ROOT_PARTS_5 q_ROOT_PARTS_6 q_ROOT_PARTS_7 : Tok}
    {us_ROOT_PARTS : List Value} {od_ROOT_PARTS : Option Addr} {n_ROOT_PARTS : Nat} {sl_ROOT_PARTS : Array (Option Value)}
    {p_HANDLERS p_COUNTS : Addr} {u_0 u_1 u_2 u_3 u_4 u_5 u_6 u_7 u_8 u_9 u_10 u_11 u_12 u_13 u_14 : Tok}
    {us_HANDLERS : List Value} {od_HANDLERS : Option Addr} {n_HANDLERS : Nat} {sl_HANDLERS : Array (Option Value)}
    {us_COUNTS : List Value} {od_COUNTS : Option Addr} {n_COUNTS : Nat} {sl_COUNTS : Array (Option Value)}
    (a_Page : PySem.W.nsIn K mainGlobals "Page" = some (some (.ref C)))
    (a_init : PySem.W.findIn K (.ref C) "__init__" = some (some (.ref f_init))) (i_init : PySem.W.isFn K (.ref f_init) = true)
    (F_init : Fun K "__init__" "Page.__init__" sInit f_init fd_init)
    (a_lay : PySem.W.findIn K (.ref C) "lay" = some (some (.ref f_lay))) (i_lay : PySem.W.isFn K (.ref f_lay) = true)
    (F_lay : Fun K "lay" "Page.lay" sLay f_lay fd_lay)
    (pg : PySem.W.plainGet K C Str.empty = true)
    (hd : PySem.W.hasDictIn K C = true)
    (po : PySem.W.plainOver K C = true)
    (sa : PySem.W.findIn K (.ref C) "__setattr__" = some (some (.builtin "object.__setattr__")))
    (mk : PySem.W.makesIn K C = true)
    (kc : PySem.W.keepIn K (.ref C) = true)
    (nC : PySem.W.findIn K (.ref C) "columns" = some none)
    (nR : PySem.W.findIn K (.ref C) "rows" = some none)
    (nE : PySem.W.findIn K (.ref C) "cells" = some none)
    (nH : PySem.W.findIn K (.ref C) "chosen" = some none)
    (a_apart : PySem.W.nsIn K mainGlobals "apart" = some (some (.ref f_apart))) (F_apart : Fun K "apart" "apart" sApart f_apart fd_apart)
    (a_nearest : PySem.W.nsIn K mainGlobals "nearest" = some (some (.ref f_nearest))) (F_nearest : Fun K "nearest" "nearest" sNearest f_nearest fd_nearest)
    (a_moved : PySem.W.nsIn K mainGlobals "moved" = some (some (.ref f_moved))) (F_moved : Fun K "moved" "moved" sMoved f_moved fd_moved)
    (a_marked_cells : PySem.W.nsIn K mainGlobals "marked_cells" = some (some (.ref f_marked_cells))) (F_marked_cells : Fun K "marked_cells" "marked_cells" sMarked f_marked_cells fd_marked_cells)
    (a_turned_over : PySem.W.nsIn K mainGlobals "turned_over" = some (some (.ref f_turned_over))) (F_turned_over : Fun K "turned_over" "turned_over" sOver f_turned_over fd_turned_over)
    (a_chosen_cells : PySem.W.nsIn K mainGlobals "chosen_cells" = some (some (.ref f_chosen_cells))) (F_chosen_cells : Fun K "chosen_cells" "chosen_cells" sChosen f_chosen_cells fd_chosen_cells)
    (a_unchosen_cells : PySem.W.nsIn K mainGlobals "unchosen_cells" = some (some (.ref f_unchosen_cells))) (F_unchosen_cells : Fun K "unchosen_cells" "unchosen_cells" sUnchosen f_unchosen_cells fd_unchosen_cells)
    (a_put_all : PySem.W.nsIn K mainGlobals "put_all" = some (some (.ref f_put_all))) (F_put_all : Fun K "put_all" "put_all" sPut f_put_all fd_put_all)
    (a_members_of : PySem.W.nsIn K mainGlobals "members_of" = some (some (.ref f_members_of))) (F_members_of : Fun K "members_of" "members_of" sMembers f_members_of fd_members_of)
    (a_is_near : PySem.W.nsIn K mainGlobals "is_near" = some (some (.ref f_is_near))) (F_is_near : Fun K "is_near" "is_near" sNear f_is_near fd_is_near)
    (a_grown : PySem.W.nsIn K mainGlobals "grown" = some (some (.ref f_grown))) (F_grown : Fun K "grown" "grown" sGrown f_grown fd_grown)
    (a_shrunk : PySem.W.nsIn K mainGlobals "shrunk" = some (some (.ref f_shrunk))) (F_shrunk : Fun K "shrunk" "shrunk" sShrunk f_shrunk fd_shrunk)
    (a_outside_apart : PySem.W.nsIn K mainGlobals "outside_apart" = some (some (.ref f_outside_apart))) (F_outside_apart : Fun K "outside_apart" "outside_apart" sOut f_outside_apart fd_outside_apart)
    (a_shrunk_from_outside : PySem.W.nsIn K mainGlobals "shrunk_from_outside" = some (some (.ref f_shrunk_from_outside))) (F_shrunk_from_outside : Fun K "shrunk_from_outside" "shrunk_from_outside" sSfo f_shrunk_from_outside fd_shrunk_from_outside)
    (a_ring_marks : PySem.W.nsIn K mainGlobals "ring_marks" = some (some (.ref f_ring_marks))) (F_ring_marks : Fun K "ring_marks" "ring_marks" sRing f_ring_marks fd_ring_marks)
    (a_piece_from : PySem.W.nsIn K mainGlobals "piece_from" = some (some (.ref f_piece_from))) (F_piece_from : Fun K "piece_from" "piece_from" sPiece f_piece_from fd_piece_from)
    (a_pieces_of : PySem.W.nsIn K mainGlobals "pieces_of" = some (some (.ref f_pieces_of))) (F_pieces_of : Fun K "pieces_of" "pieces_of" sPieces f_pieces_of fd_pieces_of)
    (a_chosen_pieces : PySem.W.nsIn K mainGlobals "chosen_pieces" = some (some (.ref f_chosen_pieces))) (F_chosen_pieces : Fun K "chosen_pieces" "chosen_pieces" sCPieces f_chosen_pieces fd_chosen_pieces)
    (a_kept : PySem.W.nsIn K mainGlobals "kept" = some (some (.ref f_kept))) (F_kept : Fun K "kept" "kept" sKept f_kept fd_kept)
    (a_pieces_told : PySem.W.nsIn K mainGlobals "pieces_told" = some (some (.ref f_pieces_told))) (F_pieces_told : Fun K "pieces_told" "pieces_told" sPTold f_pieces_told fd_pieces_told)
    (a_is_on_rim : PySem.W.nsIn K mainGlobals "is_on_rim" = some (some (.ref f_is_on_rim))) (F_is_on_rim : Fun K "is_on_rim" "is_on_rim" sRim f_is_on_rim fd_is_on_rim)
    (a_reaches_rim : PySem.W.nsIn K mainGlobals "reaches_rim" = some (some (.ref f_reaches_rim))) (F_reaches_rim : Fun K "reaches_rim" "reaches_rim" sReach f_reaches_rim fd_reaches_rim)
    (a_holes_of : PySem.W.nsIn K mainGlobals "holes_of" = some (some (.ref f_holes_of))) (F_holes_of : Fun K "holes_of" "holes_of" sHoles f_holes_of fd_holes_of)
    (a_filled : PySem.W.nsIn K mainGlobals "filled" = some (some (.ref f_filled))) (F_filled : Fun K "filled" "filled" sFilled f_filled fd_filled)
    (a_without_beside : PySem.W.nsIn K mainGlobals "without_beside" = some (some (.ref f_without_beside))) (F_without_beside : Fun K "without_beside" "without_beside" sWithout f_without_beside fd_without_beside)
    (a_runs_told : PySem.W.nsIn K mainGlobals "runs_told" = some (some (.ref f_runs_told))) (F_runs_told : Fun K "runs_told" "runs_told" sRTold f_runs_told fd_runs_told)
    (a_bounds : PySem.W.nsIn K mainGlobals "bounds" = some (some (.ref f_bounds))) (F_bounds : Fun K "bounds" "bounds" sBounds f_bounds fd_bounds)
    (a_open_sides : PySem.W.nsIn K mainGlobals "open_sides" = some (some (.ref f_open_sides))) (F_open_sides : Fun K "open_sides" "open_sides" sSides f_open_sides fd_open_sides)
    (a_box_marks : PySem.W.nsIn K mainGlobals "box_marks" = some (some (.ref f_box_marks))) (F_box_marks : Fun K "box_marks" "box_marks" sBox f_box_marks fd_box_marks)
    (a_disk_marks : PySem.W.nsIn K mainGlobals "disk_marks" = some (some (.ref f_disk_marks))) (F_disk_marks : Fun K "disk_marks" "disk_marks" sDisk f_disk_marks fd_disk_marks)
    (a_is_chosen_then : PySem.W.nsIn K mainGlobals "is_chosen_then" = some (some (.ref f_is_chosen_then))) (F_is_chosen_then : Fun K "is_chosen_then" "is_chosen_then" sThen f_is_chosen_then fd_is_chosen_then)
    (a_joined : PySem.W.nsIn K mainGlobals "joined" = some (some (.ref f_joined))) (F_joined : Fun K "joined" "joined" sJoined f_joined fd_joined)
    (a_root : PySem.W.nsIn K mainGlobals "root" = some (some (.ref f_root))) (F_root : Fun K "root" "root" sRoot f_root fd_root)
    (a_steps_off : PySem.W.nsIn K mainGlobals "steps_off" = some (some (.ref f_steps_off))) (F_steps_off : Fun K "steps_off" "steps_off" sSteps f_steps_off fd_steps_off)
    (a_chosen_degree : PySem.W.nsIn K mainGlobals "chosen_degree" = some (some (.ref f_chosen_degree))) (F_chosen_degree : Fun K "chosen_degree" "chosen_degree" sCDeg f_chosen_degree fd_chosen_degree)
    (a_unchosen_degree : PySem.W.nsIn K mainGlobals "unchosen_degree" = some (some (.ref f_unchosen_degree))) (F_unchosen_degree : Fun K "unchosen_degree" "unchosen_degree" sUDeg f_unchosen_degree fd_unchosen_degree)
    (a_degrees : PySem.W.nsIn K mainGlobals "degrees" = some (some (.ref f_degrees))) (F_degrees : Fun K "degrees" "degrees" sDegs f_degrees fd_degrees)
    (a_choose : PySem.W.nsIn K mainGlobals "choose" = some (some (.ref f_choose))) (F_choose : Fun K "choose" "choose" sChoose f_choose fd_choose)
    (a_is_size : PySem.W.nsIn K mainGlobals "is_size" = some (some (.ref f_is_size))) (F_is_size : Fun K "is_size" "is_size" sSize f_is_size fd_is_size)
    (a_answer_page : PySem.W.nsIn K mainGlobals "answer_page" = some (some (.ref f_answer_page))) (F_answer_page : Fun K "answer_page" "answer_page" sHPage f_answer_page fd_answer_page)
    (a_answer_box : PySem.W.nsIn K mainGlobals "answer_box" = some (some (.ref f_answer_box))) (F_answer_box : Fun K "answer_box" "answer_box" sHBox f_answer_box fd_answer_box)
    (a_answer_disk : PySem.W.nsIn K mainGlobals "answer_disk" = some (some (.ref f_answer_disk))) (F_answer_disk : Fun K "answer_disk" "answer_disk" sHDisk f_answer_disk fd_answer_disk)
    (a_answer_over : PySem.W.nsIn K mainGlobals "answer_over" = some (some (.ref f_answer_over))) (F_answer_over : Fun K "answer_over" "answer_over" sHOver f_answer_over fd_answer_over)
    (a_answer_grow : PySem.W.nsIn K mainGlobals "answer_grow" = some (some (.ref f_answer_grow))) (F_answer_grow : Fun K "answer_grow" "answer_grow" sHGrow f_answer_grow fd_answer_grow)
    (a_answer_shrink : PySem.W.nsIn K mainGlobals "answer_shrink" = some (some (.ref f_answer_shrink))) (F_answer_shrink : Fun K "answer_shrink" "answer_shrink" sHShrink f_answer_shrink fd_answer_shrink)
    (a_answer_ring : PySem.W.nsIn K mainGlobals "answer_ring" = some (some (.ref f_answer_ring))) (F_answer_ring : Fun K "answer_ring" "answer_ring" sHRing f_answer_ring fd_answer_ring)
    (a_answer_fill : PySem.W.nsIn K mainGlobals "answer_fill" = some (some (.ref f_answer_fill))) (F_answer_fill : Fun K "answer_fill" "answer_fill" sHFill f_answer_fill fd_answer_fill)
    (a_answer_keep : PySem.W.nsIn K mainGlobals "answer_keep" = some (some (.ref f_answer_keep))) (F_answer_keep : Fun K "answer_keep" "answer_keep" sHKeep f_answer_keep fd_answer_keep)
    (a_answer_far : PySem.W.nsIn K mainGlobals "answer_far" = some (some (.ref f_answer_far))) (F_answer_far : Fun K "answer_far" "answer_far" sHFar f_answer_far fd_answer_far)
    (a_answer_soft : PySem.W.nsIn K mainGlobals "answer_soft" = some (some (.ref f_answer_soft))) (F_answer_soft : Fun K "answer_soft" "answer_soft" sHSoft f_answer_soft fd_answer_soft)
    (a_answer_runs : PySem.W.nsIn K mainGlobals "answer_runs" = some (some (.ref f_answer_runs))) (F_answer_runs : Fun K "answer_runs" "answer_runs" sHRuns f_answer_runs fd_answer_runs)
    (a_answer_counts : PySem.W.nsIn K mainGlobals "answer_counts" = some (some (.ref f_answer_counts))) (F_answer_counts : Fun K "answer_counts" "answer_counts" sHCounts f_answer_counts fd_answer_counts)
    (a_answer_pieces : PySem.W.nsIn K mainGlobals "answer_pieces" = some (some (.ref f_answer_pieces))) (F_answer_pieces : Fun K "answer_pieces" "answer_pieces" sHPieces f_answer_pieces fd_answer_pieces)
    (a_answer_holes : PySem.W.nsIn K mainGlobals "answer_holes" = some (some (.ref f_answer_holes))) (F_answer_holes : Fun K "answer_holes" "answer_holes" sHHoles f_answer_holes fd_answer_holes)
    (a_answers : PySem.W.nsIn K mainGlobals "answers" = some (some (.ref f_answers))) (F_answers : Fun K "answers" "answers" sAns f_answers fd_answers)
    (v_LEAST_DEGREE : PySem.W.nsIn K mainGlobals "LEAST_DEGREE" = some (some (.int 0 t_LEAST_DEGREE)))
    (v_GREATEST_DEGREE : PySem.W.nsIn K mainGlobals "GREATEST_DEGREE" = some (some (.int 255 t_GREATEST_DEGREE)))
    (v_MOST_COLUMNS_OR_ROWS : PySem.W.nsIn K mainGlobals "MOST_COLUMNS_OR_ROWS" = some (some (.int 16 t_MOST_COLUMNS_OR_ROWS)))
    (v_LAST_HOW : PySem.W.nsIn K mainGlobals "LAST_HOW" = some (some (.int 4 t_LAST_HOW)))
    (v_GREATEST_WIDTH : PySem.W.nsIn K mainGlobals "GREATEST_WIDTH" = some (some (.int 64 t_GREATEST_WIDTH)))
    (v_BAD_SIZE : PySem.W.nsIn K mainGlobals "BAD_SIZE" = some (some (.int (-1) t_BAD_SIZE)))
    (v_BAD_HOW : PySem.W.nsIn K mainGlobals "BAD_HOW" = some (some (.int (-2) t_BAD_HOW)))
    (v_BAD_OUTSIDE : PySem.W.nsIn K mainGlobals "BAD_OUTSIDE" = some (some (.int (-2) t_BAD_OUTSIDE)))
    (v_NOT_CHOSEN : PySem.W.nsIn K mainGlobals "NOT_CHOSEN" = some (some (.int (-3) t_NOT_CHOSEN)))
    (v_NO_SUCH_CELL : PySem.W.nsIn K mainGlobals "NO_SUCH_CELL" = some (some (.int (-1) t_NO_SUCH_CELL)))
    (v_NOTHING_CHOSEN : PySem.W.nsIn K mainGlobals "NOTHING_CHOSEN" = some (some (.int (-3) t_NOTHING_CHOSEN)))
    (v_BAD_WIDTH : PySem.W.nsIn K mainGlobals "BAD_WIDTH" = some (some (.int (-1) t_BAD_WIDTH)))
    (z_len : PySem.W.nsIn K mainGlobals "len" = some none)
    (z_zip : PySem.W.nsIn K mainGlobals "zip" = some none)
    (z_range : PySem.W.nsIn K mainGlobals "range" = some none)
    (z_min : PySem.W.nsIn K mainGlobals "min" = some none)
    (z_max : PySem.W.nsIn K mainGlobals "max" = some none)
    (z_sum : PySem.W.nsIn K mainGlobals "sum" = some none)
    (z_any : PySem.W.nsIn K mainGlobals "any" = some none)
    (z_list : PySem.W.nsIn K mainGlobals "list" = some none)
    (a_SIDES : PySem.W.nsIn K mainGlobals "SIDES" = some (some (.ref p_SIDES)))
    (w_SIDES : K.lookup p_SIDES = some ⟨.type "tuple", od_SIDES, .seq us_SIDES.toArray n_SIDES, sl_SIDES⟩) (e_SIDES : us_SIDES = [.ref p_SIDES_0, .ref p_SIDES_1, .ref p_SIDES_2, .ref p_SIDES_3])
    (w_SIDES_0 : K.lookup p_SIDES_0 = some ⟨.type "tuple", od_SIDES_0, .seq us_SIDES_0.toArray n_SIDES_0, sl_SIDES_0⟩) (e_SIDES_0 : us_SIDES_0 = [.int 0 q_SIDES_0, .int (-1) r_SIDES_0])
    (w_SIDES_1 : K.lookup p_SIDES_1 = some ⟨.type "tuple", od_SIDES_1, .seq us_SIDES_1.toArray n_SIDES_1, sl_SIDES_1⟩) (e_SIDES_1 : us_SIDES_1 = [.int (-1) q_SIDES_1, .int 0 r_SIDES_1])
    (w_SIDES_2 : K.lookup p_SIDES_2 = some ⟨.type "tuple", od_SIDES_2, .seq us_SIDES_2.toArray n_SIDES_2, sl_SIDES_2⟩) (e_SIDES_2 : us_SIDES_2 = [.int 1 q_SIDES_2, .int 0 r_SIDES_2])
    (w_SIDES_3 : K.lookup p_SIDES_3 = some ⟨.type "tuple", od_SIDES_3, .seq us_SIDES_3.toArray n_SIDES_3, sl_SIDES_3⟩) (e_SIDES_3 : us_SIDES_3 = [.int 0 q_SIDES_3, .int 1 r_SIDES_3])
    (a_WITH_CORNERS : PySem.W.nsIn K mainGlobals "WITH_CORNERS" = some (some (.ref p_WITH_CORNERS)))
    (w_WITH_CORNERS : K.lookup p_WITH_CORNERS = some ⟨.type "tuple", od_WITH_CORNERS, .seq us_WITH_CORNERS.toArray n_WITH_CORNERS, sl_WITH_CORNERS⟩) (e_WITH_CORNERS : us_WITH_CORNERS = [.ref p_WITH_CORNERS_0, .ref p_WITH_CORNERS_1, .ref p_WITH_CORNERS_2, .ref p_WITH_CORNERS_3, .ref p_WITH_CORNERS_4, .ref p_WITH_CORNERS_5, .ref p_WITH_CORNERS_6, .ref p_WITH_CORNERS_7])
    (w_WITH_CORNERS_0 : K.lookup p_WITH_CORNERS_0 = some ⟨.type "tuple", od_WITH_CORNERS_0, .seq us_WITH_CORNERS_0.toArray n_WITH_CORNERS_0, sl_WITH_CORNERS_0⟩) (e_WITH_CORNERS_0 : us_WITH_CORNERS_0 = [.int (-1) q_WITH_CORNERS_0, .int (-1) r_WITH_CORNERS_0])
    (w_WITH_CORNERS_1 : K.lookup p_WITH_CORNERS_1 = some ⟨.type "tuple", od_WITH_CORNERS_1, .seq us_WITH_CORNERS_1.toArray n_WITH_CORNERS_1, sl_WITH_CORNERS_1⟩) (e_WITH_CORNERS_1 : us_WITH_CORNERS_1 = [.int 0 q_WITH_CORNERS_1, .int (-1) r_WITH_CORNERS_1])
    (w_WITH_CORNERS_2 : K.lookup p_WITH_CORNERS_2 = some ⟨.type "tuple", od_WITH_CORNERS_2, .seq us_WITH_CORNERS_2.toArray n_WITH_CORNERS_2, sl_WITH_CORNERS_2⟩) (e_WITH_CORNERS_2 : us_WITH_CORNERS_2 = [.int 1 q_WITH_CORNERS_2, .int (-1) r_WITH_CORNERS_2])
    (w_WITH_CORNERS_3 : K.lookup p_WITH_CORNERS_3 = some ⟨.type "tuple", od_WITH_CORNERS_3, .seq us_WITH_CORNERS_3.toArray n_WITH_CORNERS_3, sl_WITH_CORNERS_3⟩) (e_WITH_CORNERS_3 : us_WITH_CORNERS_3 = [.int (-1) q_WITH_CORNERS_3, .int 0 r_WITH_CORNERS_3])
    (w_WITH_CORNERS_4 : K.lookup p_WITH_CORNERS_4 = some ⟨.type "tuple", od_WITH_CORNERS_4, .seq us_WITH_CORNERS_4.toArray n_WITH_CORNERS_4, sl_WITH_CORNERS_4⟩) (e_WITH_CORNERS_4 : us_WITH_CORNERS_4 = [.int 1 q_WITH_CORNERS_4, .int 0 r_WITH_CORNERS_4])
    (w_WITH_CORNERS_5 : K.lookup p_WITH_CORNERS_5 = some ⟨.type "tuple", od_WITH_CORNERS_5, .seq us_WITH_CORNERS_5.toArray n_WITH_CORNERS_5, sl_WITH_CORNERS_5⟩) (e_WITH_CORNERS_5 : us_WITH_CORNERS_5 = [.int (-1) q_WITH_CORNERS_5, .int 1 r_WITH_CORNERS_5])
    (w_WITH_CORNERS_6 : K.lookup p_WITH_CORNERS_6 = some ⟨.type "tuple", od_WITH_CORNERS_6, .seq us_WITH_CORNERS_6.toArray n_WITH_CORNERS_6, sl_WITH_CORNERS_6⟩) (e_WITH_CORNERS_6 : us_WITH_CORNERS_6 = [.int 0 q_WITH_CORNERS_6, .int 1 r_WITH_CORNERS_6])
    (w_WITH_CORNERS_7 : K.lookup p_WITH_CORNERS_7 = some ⟨.type "tuple", od_WITH_CORNERS_7, .seq us_WITH_CORNERS_7.toArray n_WITH_CORNERS_7, sl_WITH_CORNERS_7⟩) (e_WITH_CORNERS_7 : us_WITH_CORNERS_7 = [.int 1 q_WITH_CORNERS_7, .int 1 r_WITH_CORNERS_7])
    (a_ROOT_PARTS : PySem.W.nsIn K mainGlobals "ROOT_PARTS" = some (some (.ref p_ROOT_PARTS)))
    (w_ROOT_PARTS : K.lookup p_ROOT_PARTS = some ⟨.type "tuple", od_ROOT_PARTS, .seq us_ROOT_PARTS.toArray n_ROOT_PARTS, sl_ROOT_PARTS⟩) (e_ROOT_PARTS : us_ROOT_PARTS = [.int 128 q_ROOT_PARTS_0, .int 64 q_ROOT_PARTS_1, .int 32 q_ROOT_PARTS_2, .int 16 q_ROOT_PARTS_3, .int 8 q_ROOT_PARTS_4, .int 4 q_ROOT_PARTS_5, .int 2 q_ROOT_PARTS_6, .int 1 q_ROOT_PARTS_7])
    (a_HANDLERS : PySem.W.nsIn K mainGlobals "HANDLERS" = some (some (.ref p_HANDLERS)))
    (w_HANDLERS : K.lookup p_HANDLERS = some ⟨.type "tuple", od_HANDLERS, .seq us_HANDLERS.toArray n_HANDLERS, sl_HANDLERS⟩) (e_HANDLERS : us_HANDLERS = [.ref f_answer_page, .ref f_answer_box, .ref f_answer_disk, .ref f_answer_over, .ref f_answer_grow, .ref f_answer_shrink, .ref f_answer_ring, .ref f_answer_fill, .ref f_answer_keep, .ref f_answer_far, .ref f_answer_soft, .ref f_answer_runs, .ref f_answer_counts, .ref f_answer_pieces, .ref f_answer_holes])
    (a_COUNTS : PySem.W.nsIn K mainGlobals "HOW_MANY_NUMBERS" = some (some (.ref p_COUNTS)))
    (w_COUNTS : K.lookup p_COUNTS = some ⟨.type "tuple", od_COUNTS, .seq us_COUNTS.toArray n_COUNTS, sl_COUNTS⟩) (e_COUNTS : us_COUNTS = [.int 2 u_0, .int 5 u_1, .int 4 u_2, .int 0 u_3, .int 1 u_4, .int 2 u_5, .int 1 u_6, .int 0 u_7, .int 2 u_8, .int 2 u_9, .int 1 u_10, .int 0 u_11, .int 0 u_12, .int 0 u_13, .int 0 u_14])
    : ∃ fd : FuncData, (∀ (s : Shared) (us : List Value), us.length = (["calls"] : List Str).length → BindsTo s fd ⟨us, []⟩ ((["calls"] : List Str).zip us)) ∧ ∀ base : Heap, K.In base → base.Ns mainGlobals mg → FnOk P w K mg base CX0 9 fa fd ["calls"] (spAns K) := by
  have e := hfa.symm.trans (PySem.W.mg_of X G a_answers)
  cases e
  subst e_SIDES
  subst e_SIDES_0
  subst e_SIDES_1
  subst e_SIDES_2
  subst e_SIDES_3
  subst e_WITH_CORNERS
  subst e_WITH_CORNERS_0
  subst e_WITH_CORNERS_1
  subst e_WITH_CORNERS_2
  subst e_WITH_CORNERS_3
  subst e_WITH_CORNERS_4
  subst e_WITH_CORNERS_5
  subst e_WITH_CORNERS_6
  subst e_WITH_CORNERS_7
  subst e_ROOT_PARTS
  subst e_HANDLERS
  subst e_COUNTS
  have t_SIDES := tup_mk w_SIDES
  have t_SIDES_0 := tup_mk w_SIDES_0
  have t_SIDES_1 := tup_mk w_SIDES_1
  have t_SIDES_2 := tup_mk w_SIDES_2
  have t_SIDES_3 := tup_mk w_SIDES_3
  have t_WITH_CORNERS := tup_mk w_WITH_CORNERS
  have t_WITH_CORNERS_0 := tup_mk w_WITH_CORNERS_0
  have t_WITH_CORNERS_1 := tup_mk w_WITH_CORNERS_1
  have t_WITH_CORNERS_2 := tup_mk w_WITH_CORNERS_2
  have t_WITH_CORNERS_3 := tup_mk w_WITH_CORNERS_3
  have t_WITH_CORNERS_4 := tup_mk w_WITH_CORNERS_4
  have t_WITH_CORNERS_5 := tup_mk w_WITH_CORNERS_5
  have t_WITH_CORNERS_6 := tup_mk w_WITH_CORNERS_6
  have t_WITH_CORNERS_7 := tup_mk w_WITH_CORNERS_7
  have t_ROOT_PARTS := tup_mk w_ROOT_PARTS
  have t_HANDLERS := tup_mk w_HANDLERS
  have t_COUNTS := tup_mk w_COUNTS
  have T : Txt K mg C := ⟨⟨pg, hd, po, sa⟩, nC, nR, nE, nH, PySem.W.mg_of X G a_Page⟩
  have n_len := PySem.W.mg_none_of X G z_len
  have n_zip := PySem.W.mg_none_of X G z_zip
  have n_range := PySem.W.mg_none_of X G z_range
  have n_min := PySem.W.mg_none_of X G z_min
  have n_max := PySem.W.mg_none_of X G z_max
  have n_sum := PySem.W.mg_none_of X G z_sum
  have n_any := PySem.W.mg_none_of X G z_any
  have n_list := PySem.W.mg_none_of X G z_list
  have k_LEAST_DEGREE := PySem.W.mg_of X G v_LEAST_DEGREE
  have k_GREATEST_DEGREE := PySem.W.mg_of X G v_GREATEST_DEGREE
  have k_MOST_COLUMNS_OR_ROWS := PySem.W.mg_of X G v_MOST_COLUMNS_OR_ROWS
  have k_LAST_HOW := PySem.W.mg_of X G v_LAST_HOW
  have k_GREATEST_WIDTH := PySem.W.mg_of X G v_GREATEST_WIDTH
  have k_BAD_SIZE := PySem.W.mg_of X G v_BAD_SIZE
  have k_BAD_HOW := PySem.W.mg_of X G v_BAD_HOW
  have k_BAD_OUTSIDE := PySem.W.mg_of X G v_BAD_OUTSIDE
  have k_NOT_CHOSEN := PySem.W.mg_of X G v_NOT_CHOSEN
  have k_NO_SUCH_CELL := PySem.W.mg_of X G v_NO_SUCH_CELL
  have k_NOTHING_CHOSEN := PySem.W.mg_of X G v_NOTHING_CHOSEN
  have k_BAD_WIDTH := PySem.W.mg_of X G v_BAD_WIDTH
  have g_SIDES := PySem.W.mg_of X G a_SIDES
  have s_SIDES : StepsK K [.ref p_SIDES_0, .ref p_SIDES_1, .ref p_SIDES_2, .ref p_SIDES_3] sidesIn := .cons t_SIDES_0 (.cons t_SIDES_1 (.cons t_SIDES_2 (.cons t_SIDES_3 .nil)))
  have l_SIDES : ([.ref p_SIDES_0, .ref p_SIDES_1, .ref p_SIDES_2, .ref p_SIDES_3] : List Value).length ≤ 1000 := by show 4 ≤ 1000; decide
  have g_WITH_CORNERS := PySem.W.mg_of X G a_WITH_CORNERS
  have s_WITH_CORNERS : StepsK K [.ref p_WITH_CORNERS_0, .ref p_WITH_CORNERS_1, .ref p_WITH_CORNERS_2, .ref p_WITH_CORNERS_3, .ref p_WITH_CORNERS_4, .ref p_WITH_CORNERS_5, .ref p_WITH_CORNERS_6, .ref p_WITH_CORNERS_7] corners8 := .cons t_WITH_CORNERS_0 (.cons t_WITH_CORNERS_1 (.cons t_WITH_CORNERS_2 (.cons t_WITH_CORNERS_3 (.cons t_WITH_CORNERS_4 (.cons t_WITH_CORNERS_5 (.cons t_WITH_CORNERS_6 (.cons t_WITH_CORNERS_7 .nil)))))))
  have l_WITH_CORNERS : ([.ref p_WITH_CORNERS_0, .ref p_WITH_CORNERS_1, .ref p_WITH_CORNERS_2, .ref p_WITH_CORNERS_3, .ref p_WITH_CORNERS_4, .ref p_WITH_CORNERS_5, .ref p_WITH_CORNERS_6, .ref p_WITH_CORNERS_7] : List Value).length ≤ 1000 := by show 8 ≤ 1000; decide
  have g_ROOT_PARTS := PySem.W.mg_of X G a_ROOT_PARTS
  have h_ROOT_PARTS : ∀ H, SqT K H p_ROOT_PARTS (natV rootParts) := t_ROOT_PARTS.sq (xs := natV rootParts) (.cons ⟨_, rfl⟩ (.cons ⟨_, rfl⟩ (.cons ⟨_, rfl⟩ (.cons ⟨_, rfl⟩ (.cons ⟨_, rfl⟩ (.cons ⟨_, rfl⟩ (.cons ⟨_, rfl⟩ (.cons ⟨_, rfl⟩ (.nil))))))))) (by show 8 ≤ 1000; decide)
  have b_init := F_init.binds (ps := ["self"]) fun _ _ _ _ _ _ us hl => match us, hl with | [_], _ => rfl
  have b_lay := F_lay.binds (ps := ["self", "columns", "rows"]) fun _ _ _ _ _ _ us hl => match us, hl with | [_, _, _], _ => rfl
  have b_apart := F_apart.binds (ps := ["one", "other"]) fun _ _ _ _ _ _ us hl => match us, hl with | [_, _], _ => rfl
  have g_apart := PySem.W.mg_of X G a_apart
  have b_nearest := F_nearest.binds (ps := ["cell", "others"]) fun _ _ _ _ _ _ us hl => match us, hl with | [_, _], _ => rfl
  have g_nearest := PySem.W.mg_of X G a_nearest
  have b_moved := F_moved.binds (ps := ["cell", "step"]) fun _ _ _ _ _ _ us hl => match us, hl with | [_, _], _ => rfl
  have g_moved := PySem.W.mg_of X G a_moved
  have b_marked_cells := F_marked_cells.binds (ps := ["cells", "marks"]) fun _ _ _ _ _ _ us hl => match us, hl with | [_, _], _ => rfl
  have g_marked_cells := PySem.W.mg_of X G a_marked_cells
  have b_turned_over := F_turned_over.binds (ps := ["marks"]) fun _ _ _ _ _ _ us hl => match us, hl with | [_], _ => rfl
  have g_turned_over := PySem.W.mg_of X G a_turned_over
  have b_chosen_cells := F_chosen_cells.binds (ps := ["page"]) fun _ _ _ _ _ _ us hl => match us, hl with | [_], _ => rfl
  have g_chosen_cells := PySem.W.mg_of X G a_chosen_cells
  have b_unchosen_cells := F_unchosen_cells.binds (ps := ["page"]) fun _ _ _ _ _ _ us hl => match us, hl with | [_], _ => rfl
  have g_unchosen_cells := PySem.W.mg_of X G a_unchosen_cells
  have b_put_all := F_put_all.binds (ps := ["members", "cells"]) fun _ _ _ _ _ _ us hl => match us, hl with | [_, _], _ => rfl
  have g_put_all := PySem.W.mg_of X G a_put_all
  have b_members_of := F_members_of.binds (ps := ["cells"]) fun _ _ _ _ _ _ us hl => match us, hl with | [_], _ => rfl
  have g_members_of := PySem.W.mg_of X G a_members_of
  have b_is_near := F_is_near.binds (ps := ["cell", "others", "r"]) fun _ _ _ _ _ _ us hl => match us, hl with | [_, _, _], _ => rfl
  have g_is_near := PySem.W.mg_of X G a_is_near
  have b_grown := F_grown.binds (ps := ["cells", "marks", "r"]) fun _ _ _ _ _ _ us hl => match us, hl with | [_, _, _], _ => rfl
  have g_grown := PySem.W.mg_of X G a_grown
  have b_shrunk := F_shrunk.binds (ps := ["cells", "marks", "r"]) fun _ _ _ _ _ _ us hl => match us, hl with | [_, _, _], _ => rfl
  have g_shrunk := PySem.W.mg_of X G a_shrunk
  have b_outside_apart := F_outside_apart.binds (ps := ["page", "cell"]) fun _ _ _ _ _ _ us hl => match us, hl with | [_, _], _ => rfl
  have g_outside_apart := PySem.W.mg_of X G a_outside_apart
  have b_shrunk_from_outside := F_shrunk_from_outside.binds (ps := ["page", "marks", "r"]) fun _ _ _ _ _ _ us hl => match us, hl with | [_, _, _], _ => rfl
  have g_shrunk_from_outside := PySem.W.mg_of X G a_shrunk_from_outside
  have b_ring_marks := F_ring_marks.binds (ps := ["cells", "marks", "r"]) fun _ _ _ _ _ _ us hl => match us, hl with | [_, _, _], _ => rfl
  have g_ring_marks := PySem.W.mg_of X G a_ring_marks
  have b_piece_from := F_piece_from.binds (ps := ["start", "members", "steps"]) fun _ _ _ _ _ _ us hl => match us, hl with | [_, _, _], _ => rfl
  have g_piece_from := PySem.W.mg_of X G a_piece_from
  have b_pieces_of := F_pieces_of.binds (ps := ["cells", "steps"]) fun _ _ _ _ _ _ us hl => match us, hl with | [_, _], _ => rfl
  have g_pieces_of := PySem.W.mg_of X G a_pieces_of
  have b_chosen_pieces := F_chosen_pieces.binds (ps := ["page"]) fun _ _ _ _ _ _ us hl => match us, hl with | [_], _ => rfl
  have g_chosen_pieces := PySem.W.mg_of X G a_chosen_pieces
  have b_kept := F_kept.binds (ps := ["page", "cell"]) fun _ _ _ _ _ _ us hl => match us, hl with | [_, _], _ => rfl
  have g_kept := PySem.W.mg_of X G a_kept
  have b_pieces_told := F_pieces_told.binds (ps := ["pieces"]) fun _ _ _ _ _ _ us hl => match us, hl with | [_], _ => rfl
  have g_pieces_told := PySem.W.mg_of X G a_pieces_told
  have b_is_on_rim := F_is_on_rim.binds (ps := ["page", "cell"]) fun _ _ _ _ _ _ us hl => match us, hl with | [_, _], _ => rfl
  have g_is_on_rim := PySem.W.mg_of X G a_is_on_rim
  have b_reaches_rim := F_reaches_rim.binds (ps := ["page", "piece"]) fun _ _ _ _ _ _ us hl => match us, hl with | [_, _], _ => rfl
  have g_reaches_rim := PySem.W.mg_of X G a_reaches_rim
  have b_holes_of := F_holes_of.binds (ps := ["page"]) fun _ _ _ _ _ _ us hl => match us, hl with | [_], _ => rfl
  have g_holes_of := PySem.W.mg_of X G a_holes_of
  have b_filled := F_filled.binds (ps := ["page"]) fun _ _ _ _ _ _ us hl => match us, hl with | [_], _ => rfl
  have g_filled := PySem.W.mg_of X G a_filled
  have b_without_beside := F_without_beside.binds (ps := ["cells", "step"]) fun _ _ _ _ _ _ us hl => match us, hl with | [_, _], _ => rfl
  have g_without_beside := PySem.W.mg_of X G a_without_beside
  have b_runs_told := F_runs_told.binds (ps := ["cells"]) fun _ _ _ _ _ _ us hl => match us, hl with | [_], _ => rfl
  have g_runs_told := PySem.W.mg_of X G a_runs_told
  have b_bounds := F_bounds.binds (ps := ["cells"]) fun _ _ _ _ _ _ us hl => match us, hl with | [_], _ => rfl
  have g_bounds := PySem.W.mg_of X G a_bounds
  have b_open_sides := F_open_sides.binds (ps := ["cells"]) fun _ _ _ _ _ _ us hl => match us, hl with | [_], _ => rfl
  have g_open_sides := PySem.W.mg_of X G a_open_sides
  have b_box_marks := F_box_marks.binds (ps := ["cells", "x", "y", "u", "v"]) fun _ _ _ _ _ _ us hl => match us, hl with | [_, _, _, _, _], _ => rfl
  have g_box_marks := PySem.W.mg_of X G a_box_marks
  have b_disk_marks := F_disk_marks.binds (ps := ["cells", "x", "y", "r"]) fun _ _ _ _ _ _ us hl => match us, hl with | [_, _, _, _], _ => rfl
  have g_disk_marks := PySem.W.mg_of X G a_disk_marks
  have b_is_chosen_then := F_is_chosen_then.binds (ps := ["was", "covered", "how"]) fun _ _ _ _ _ _ us hl => match us, hl with | [_, _, _], _ => rfl
  have g_is_chosen_then := PySem.W.mg_of X G a_is_chosen_then
  have b_joined := F_joined.binds (ps := ["chosen", "new", "how"]) fun _ _ _ _ _ _ us hl => match us, hl with | [_, _, _], _ => rfl
  have g_joined := PySem.W.mg_of X G a_joined
  have b_root := F_root.binds (ps := ["number"]) fun _ _ _ _ _ _ us hl => match us, hl with | [_], _ => rfl
  have g_root := PySem.W.mg_of X G a_root
  have b_steps_off := F_steps_off.binds (ps := ["cell", "others", "k"]) fun _ _ _ _ _ _ us hl => match us, hl with | [_, _, _], _ => rfl
  have g_steps_off := PySem.W.mg_of X G a_steps_off
  have b_chosen_degree := F_chosen_degree.binds (ps := ["cell", "unchosen", "k"]) fun _ _ _ _ _ _ us hl => match us, hl with | [_, _, _], _ => rfl
  have g_chosen_degree := PySem.W.mg_of X G a_chosen_degree
  have b_unchosen_degree := F_unchosen_degree.binds (ps := ["cell", "chosen", "k"]) fun _ _ _ _ _ _ us hl => match us, hl with | [_, _, _], _ => rfl
  have g_unchosen_degree := PySem.W.mg_of X G a_unchosen_degree
  have b_degrees := F_degrees.binds (ps := ["page", "k"]) fun _ _ _ _ _ _ us hl => match us, hl with | [_, _], _ => rfl
  have g_degrees := PySem.W.mg_of X G a_degrees
  have b_choose := F_choose.binds (ps := ["page", "chosen"]) fun _ _ _ _ _ _ us hl => match us, hl with | [_, _], _ => rfl
  have g_choose := PySem.W.mg_of X G a_choose
  have b_is_size := F_is_size.binds (ps := ["number"]) fun _ _ _ _ _ _ us hl => match us, hl with | [_], _ => rfl
  have g_is_size := PySem.W.mg_of X G a_is_size
  have b_answer_page := F_answer_page.binds (ps := ["page", "numbers"]) fun _ _ _ _ _ _ us hl => match us, hl with | [_, _], _ => rfl
  have g_answer_page := PySem.W.mg_of X G a_answer_page
  have b_answer_box := F_answer_box.binds (ps := ["page", "numbers"]) fun _ _ _ _ _ _ us hl => match us, hl with | [_, _], _ => rfl
  have g_answer_box := PySem.W.mg_of X G a_answer_box
  have b_answer_disk := F_answer_disk.binds (ps := ["page", "numbers"]) fun _ _ _ _ _ _ us hl => match us, hl with | [_, _], _ => rfl
  have g_answer_disk := PySem.W.mg_of X G a_answer_disk
  have b_answer_over := F_answer_over.binds (ps := ["page", "numbers"]) fun _ _ _ _ _ _ us hl => match us, hl with | [_, _], _ => rfl
  have g_answer_over := PySem.W.mg_of X G a_answer_over
  have b_answer_grow := F_answer_grow.binds (ps := ["page", "numbers"]) fun _ _ _ _ _ _ us hl => match us, hl with | [_, _], _ => rfl
  have g_answer_grow := PySem.W.mg_of X G a_answer_grow
  have b_answer_shrink := F_answer_shrink.binds (ps := ["page", "numbers"]) fun _ _ _ _ _ _ us hl => match us, hl with | [_, _], _ => rfl
  have g_answer_shrink := PySem.W.mg_of X G a_answer_shrink
  have b_answer_ring := F_answer_ring.binds (ps := ["page", "numbers"]) fun _ _ _ _ _ _ us hl => match us, hl with | [_, _], _ => rfl
  have g_answer_ring := PySem.W.mg_of X G a_answer_ring
  have b_answer_fill := F_answer_fill.binds (ps := ["page", "numbers"]) fun _ _ _ _ _ _ us hl => match us, hl with | [_, _], _ => rfl
  have g_answer_fill := PySem.W.mg_of X G a_answer_fill
  have b_answer_keep := F_answer_keep.binds (ps := ["page", "numbers"]) fun _ _ _ _ _ _ us hl => match us, hl with | [_, _], _ => rfl
  have g_answer_keep := PySem.W.mg_of X G a_answer_keep
  have b_answer_far := F_answer_far.binds (ps := ["page", "numbers"]) fun _ _ _ _ _ _ us hl => match us, hl with | [_, _], _ => rfl
  have g_answer_far := PySem.W.mg_of X G a_answer_far
  have b_answer_soft := F_answer_soft.binds (ps := ["page", "numbers"]) fun _ _ _ _ _ _ us hl => match us, hl with | [_, _], _ => rfl
  have g_answer_soft := PySem.W.mg_of X G a_answer_soft
  have b_answer_runs := F_answer_runs.binds (ps := ["page", "numbers"]) fun _ _ _ _ _ _ us hl => match us, hl with | [_, _], _ => rfl
  have g_answer_runs := PySem.W.mg_of X G a_answer_runs
  have b_answer_counts := F_answer_counts.binds (ps := ["page", "numbers"]) fun _ _ _ _ _ _ us hl => match us, hl with | [_, _], _ => rfl
  have g_answer_counts := PySem.W.mg_of X G a_answer_counts
  have b_answer_pieces := F_answer_pieces.binds (ps := ["page", "numbers"]) fun _ _ _ _ _ _ us hl => match us, hl with | [_, _], _ => rfl
  have g_answer_pieces := PySem.W.mg_of X G a_answer_pieces
  have b_answer_holes := F_answer_holes.binds (ps := ["page", "numbers"]) fun _ _ _ _ _ _ us hl => match us, hl with | [_, _], _ => rfl
  have g_answer_holes := PySem.W.mg_of X G a_answer_holes
  obtain ⟨_, _, kV, dc, pm, an, cdv, ct, _, efd, _⟩ := F_answers.ex
  refine ⟨fd_answers, fun s us hu => ?_, fun base _ _ => ?_⟩
  · subst efd
    exact match us, hu with | [_], _ => .of_eq rfl
  have m_lay : C8.Met P w K mg base 1 C "lay" (spLay C) [] := ⟨f_lay, fd_lay, _, [], T.cl, ⟨a_lay, i_lay, F_lay.kp⟩, ok_lay F_lay T n_range, b_lay, .nil⟩
  have G_apart : FnOk P w K mg base CX0 1 f_apart fd_apart ["one", "other"] spApart := ok_apart F_apart
  have c_apart : C8.Cal P w K mg base 1 "apart" spApart [] := cal_of F_apart G_apart g_apart b_apart
  have G_nearest : FnOk P w K mg base CX0 2 f_nearest fd_nearest ["cell", "others"] spNearest := ok_nearest F_nearest c_apart
  have c_nearest : C8.Cal P w K mg base 2 "nearest" spNearest [] := cal_of F_nearest G_nearest g_nearest b_nearest
  have G_moved : FnOk P w K mg base CX0 1 f_moved fd_moved ["cell", "step"] (spMoved K) := ok_moved F_moved
  have c_moved : C8.Cal P w K mg base 1 "moved" (spMoved K) [] := cal_of F_moved G_moved g_moved b_moved
  have G_marked_cells : FnOk P w K mg base CX0 1 f_marked_cells fd_marked_cells ["cells", "marks"] spMarked := ok_marked F_marked_cells n_zip
  have c_marked_cells : C8.Cal P w K mg base 1 "marked_cells" spMarked [] := cal_of F_marked_cells G_marked_cells g_marked_cells b_marked_cells
  have G_turned_over : FnOk P w K mg base CX0 1 f_turned_over fd_turned_over ["marks"] spOver := ok_over F_turned_over
  have c_turned_over : C8.Cal P w K mg base 1 "turned_over" spOver [] := cal_of F_turned_over G_turned_over g_turned_over b_turned_over
  have G_chosen_cells : FnOk P w K mg base CX0 2 f_chosen_cells fd_chosen_cells ["page"] (spChosen C) := ok_chosen F_chosen_cells T c_marked_cells
  have c_chosen_cells : C8.Cal P w K mg base 2 "chosen_cells" (spChosen C) [] := cal_of F_chosen_cells G_chosen_cells g_chosen_cells b_chosen_cells
  have G_unchosen_cells : FnOk P w K mg base CX0 2 f_unchosen_cells fd_unchosen_cells ["page"] (spUnchosen C) := ok_unchosen F_unchosen_cells T c_marked_cells c_turned_over
  have c_unchosen_cells : C8.Cal P w K mg base 2 "unchosen_cells" (spUnchosen C) [] := cal_of F_unchosen_cells G_unchosen_cells g_unchosen_cells b_unchosen_cells
  have G_put_all : FnOk P w K mg base CX0 1 f_put_all fd_put_all ["members", "cells"] spPutL := ok_putL F_put_all
  have c_put_all : C8.Cal P w K mg base 1 "put_all" spPutL [] := cal_of F_put_all G_put_all g_put_all b_put_all
  have G_put_allD : FnOk P w K mg base CX0 1 f_put_all fd_put_all ["members", "cells"] spPutD := ok_putD F_put_all
  have c_put_allD : C8.Cal P w K mg base 1 "put_all" spPutD [] := cal_of F_put_all G_put_allD g_put_all b_put_all
  have G_members_of : FnOk P w K mg base CX0 2 f_members_of fd_members_of ["cells"] spMembers := ok_members F_members_of c_put_all
  have c_members_of : C8.Cal P w K mg base 2 "members_of" spMembers [] := cal_of F_members_of G_members_of g_members_of b_members_of
  have G_is_near : FnOk P w K mg base CX0 2 f_is_near fd_is_near ["cell", "others", "r"] spNear := ok_near F_is_near c_apart
  have c_is_near : C8.Cal P w K mg base 2 "is_near" spNear [] := cal_of F_is_near G_is_near g_is_near b_is_near
  have G_grown : FnOk P w K mg base CX0 3 f_grown fd_grown ["cells", "marks", "r"] spGrown := ok_grown F_grown n_zip c_marked_cells c_is_near
  have c_grown : C8.Cal P w K mg base 3 "grown" spGrown [] := cal_of F_grown G_grown g_grown b_grown
  have G_shrunk : FnOk P w K mg base CX0 4 f_shrunk fd_shrunk ["cells", "marks", "r"] spShrunk := ok_shrunk F_shrunk c_turned_over c_grown
  have c_shrunk : C8.Cal P w K mg base 4 "shrunk" spShrunk [] := cal_of F_shrunk G_shrunk g_shrunk b_shrunk
  have G_outside_apart : FnOk P w K mg base CX0 1 f_outside_apart fd_outside_apart ["page", "cell"] (spOut C) := ok_out F_outside_apart T n_min
  have c_outside_apart : C8.Cal P w K mg base 1 "outside_apart" (spOut C) [] := cal_of F_outside_apart G_outside_apart g_outside_apart b_outside_apart
  have G_shrunk_from_outside : FnOk P w K mg base CX0 2 f_shrunk_from_outside fd_shrunk_from_outside ["page", "marks", "r"] (spSfo C) := ok_sfo F_shrunk_from_outside T n_zip c_outside_apart
  have c_shrunk_from_outside : C8.Cal P w K mg base 2 "shrunk_from_outside" (spSfo C) [] := cal_of F_shrunk_from_outside G_shrunk_from_outside g_shrunk_from_outside b_shrunk_from_outside
  have G_ring_marks : FnOk P w K mg base CX0 4 f_ring_marks fd_ring_marks ["cells", "marks", "r"] spRing := ok_ring F_ring_marks n_zip c_grown
  have c_ring_marks : C8.Cal P w K mg base 4 "ring_marks" spRing [] := cal_of F_ring_marks G_ring_marks g_ring_marks b_ring_marks
  have G_piece_from : FnOk P w K mg base CX0 2 f_piece_from fd_piece_from ["start", "members", "steps"] (spPiece K) := ok_piece F_piece_from c_moved
  have c_piece_from : C8.Cal P w K mg base 2 "piece_from" (spPiece K) [] := cal_of F_piece_from G_piece_from g_piece_from b_piece_from
  have G_pieces_of : FnOk P w K mg base CX0 3 f_pieces_of fd_pieces_of ["cells", "steps"] (spPieces K) := ok_pieces F_pieces_of c_members_of c_put_allD c_piece_from
  have c_pieces_of : C8.Cal P w K mg base 3 "pieces_of" (spPieces K) [] := cal_of F_pieces_of G_pieces_of g_pieces_of b_pieces_of
  have G_chosen_pieces : FnOk P w K mg base CX0 4 f_chosen_pieces fd_chosen_pieces ["page"] (spCPieces C) := ok_cpieces F_chosen_pieces g_SIDES (steps_at t_SIDES s_SIDES l_SIDES) c_chosen_cells c_pieces_of
  have c_chosen_pieces : C8.Cal P w K mg base 4 "chosen_pieces" (spCPieces C) [] := cal_of F_chosen_pieces G_chosen_pieces g_chosen_pieces b_chosen_pieces
  have G_kept : FnOk P w K mg base CX0 3 f_kept fd_kept ["page", "cell"] (spKept C) := ok_kept F_kept T g_SIDES (steps_at t_SIDES s_SIDES l_SIDES) c_chosen_cells c_members_of c_piece_from
  have c_kept : C8.Cal P w K mg base 3 "kept" (spKept C) [] := cal_of F_kept G_kept g_kept b_kept
  have G_pieces_told : FnOk P w K mg base CX0 1 f_pieces_told fd_pieces_told ["pieces"] spPTold := ok_ptold F_pieces_told n_len n_list
  have c_pieces_told : C8.Cal P w K mg base 1 "pieces_told" spPTold [] := cal_of F_pieces_told G_pieces_told g_pieces_told b_pieces_told
  have G_is_on_rim : FnOk P w K mg base CX0 1 f_is_on_rim fd_is_on_rim ["page", "cell"] (spRim C) := ok_rim F_is_on_rim T
  have c_is_on_rim : C8.Cal P w K mg base 1 "is_on_rim" (spRim C) [] := cal_of F_is_on_rim G_is_on_rim g_is_on_rim b_is_on_rim
  have G_reaches_rim : FnOk P w K mg base CX0 2 f_reaches_rim fd_reaches_rim ["page", "piece"] (spReach C) := ok_reach F_reaches_rim n_any c_is_on_rim
  have c_reaches_rim : C8.Cal P w K mg base 2 "reaches_rim" (spReach C) [] := cal_of F_reaches_rim G_reaches_rim g_reaches_rim b_reaches_rim
  have G_holes_of : FnOk P w K mg base CX0 4 f_holes_of fd_holes_of ["page"] (spHoles C) := ok_holes F_holes_of g_WITH_CORNERS (steps_at t_WITH_CORNERS s_WITH_CORNERS l_WITH_CORNERS) leads8 c_unchosen_cells c_pieces_of c_reaches_rim
  have c_holes_of : C8.Cal P w K mg base 4 "holes_of" (spHoles C) [] := cal_of F_holes_of G_holes_of g_holes_of b_holes_of
  have G_filled : FnOk P w K mg base CX0 5 f_filled fd_filled ["page"] (spFilled C) := ok_filled F_filled T n_zip c_holes_of c_put_allD
  have c_filled : C8.Cal P w K mg base 5 "filled" (spFilled C) [] := cal_of F_filled G_filled g_filled b_filled
  have G_without_beside : FnOk P w K mg base CX0 3 f_without_beside fd_without_beside ["cells", "step"] (spWithout K) := ok_without F_without_beside c_moved c_members_of
  have c_without_beside : C8.Cal P w K mg base 3 "without_beside" (spWithout K) [] := cal_of F_without_beside G_without_beside g_without_beside b_without_beside
  have G_runs_told : FnOk P w K mg base CX0 4 f_runs_told fd_runs_told ["cells"] spRTold := ok_rtold F_runs_told n_len n_zip c_without_beside
  have c_runs_told : C8.Cal P w K mg base 4 "runs_told" spRTold [] := cal_of F_runs_told G_runs_told g_runs_told b_runs_told
  have G_bounds : FnOk P w K mg base CX0 1 f_bounds fd_bounds ["cells"] spBounds := ok_bounds F_bounds n_min n_max
  have c_bounds : C8.Cal P w K mg base 1 "bounds" spBounds [] := cal_of F_bounds G_bounds g_bounds b_bounds
  have G_open_sides : FnOk P w K mg base CX0 4 f_open_sides fd_open_sides ["cells"] spSides := ok_sides F_open_sides n_len n_sum g_SIDES (steps_at t_SIDES s_SIDES l_SIDES) c_without_beside
  have c_open_sides : C8.Cal P w K mg base 4 "open_sides" spSides [] := cal_of F_open_sides G_open_sides g_open_sides b_open_sides
  have G_box_marks : FnOk P w K mg base CX0 1 f_box_marks fd_box_marks ["cells", "x", "y", "u", "v"] spBox := ok_box F_box_marks
  have c_box_marks : C8.Cal P w K mg base 1 "box_marks" spBox [] := cal_of F_box_marks G_box_marks g_box_marks b_box_marks
  have G_disk_marks : FnOk P w K mg base CX0 2 f_disk_marks fd_disk_marks ["cells", "x", "y", "r"] spDisk := ok_disk F_disk_marks c_apart
  have c_disk_marks : C8.Cal P w K mg base 2 "disk_marks" spDisk [] := cal_of F_disk_marks G_disk_marks g_disk_marks b_disk_marks
  have G_is_chosen_then : FnOk P w K mg base CX0 1 f_is_chosen_then fd_is_chosen_then ["was", "covered", "how"] spThen := ok_then F_is_chosen_then
  have c_is_chosen_then : C8.Cal P w K mg base 1 "is_chosen_then" spThen [] := cal_of F_is_chosen_then G_is_chosen_then g_is_chosen_then b_is_chosen_then
  have G_joined : FnOk P w K mg base CX0 2 f_joined fd_joined ["chosen", "new", "how"] spJoined := ok_joined F_joined n_zip c_is_chosen_then
  have c_joined : C8.Cal P w K mg base 2 "joined" spJoined [] := cal_of F_joined G_joined g_joined b_joined
  have G_root : FnOk P w K mg base CX0 1 f_root fd_root ["number"] spRoot := ok_root F_root g_ROOT_PARTS h_ROOT_PARTS
  have c_root : C8.Cal P w K mg base 1 "root" spRoot [] := cal_of F_root G_root g_root b_root
  have G_steps_off : FnOk P w K mg base CX0 3 f_steps_off fd_steps_off ["cell", "others", "k"] spSteps := ok_steps F_steps_off c_apart c_nearest c_root
  have c_steps_off : C8.Cal P w K mg base 3 "steps_off" spSteps [] := cal_of F_steps_off G_steps_off g_steps_off b_steps_off
  have G_chosen_degree : FnOk P w K mg base CX0 4 f_chosen_degree fd_chosen_degree ["cell", "unchosen", "k"] (spDeg chosenDeg) := ok_cdeg F_chosen_degree k_GREATEST_DEGREE n_min c_steps_off
  have c_chosen_degree : C8.Cal P w K mg base 4 "chosen_degree" (spDeg chosenDeg) [] := cal_of F_chosen_degree G_chosen_degree g_chosen_degree b_chosen_degree
  have G_unchosen_degree : FnOk P w K mg base CX0 4 f_unchosen_degree fd_unchosen_degree ["cell", "chosen", "k"] (spDeg unchosenDeg) := ok_udeg F_unchosen_degree k_LEAST_DEGREE n_max c_steps_off
  have c_unchosen_degree : C8.Cal P w K mg base 4 "unchosen_degree" (spDeg unchosenDeg) [] := cal_of F_unchosen_degree G_unchosen_degree g_unchosen_degree b_unchosen_degree
  have G_degrees : FnOk P w K mg base CX0 5 f_degrees fd_degrees ["page", "k"] (spDegs C) := ok_degs F_degrees T n_zip c_chosen_cells c_unchosen_cells c_chosen_degree c_unchosen_degree
  have c_degrees : C8.Cal P w K mg base 5 "degrees" (spDegs C) [] := cal_of F_degrees G_degrees g_degrees b_degrees
  have G_choose : FnOk P w K mg base CX0 1 f_choose fd_choose ["page", "chosen"] (spChoose C) := ok_choose F_choose T
  have c_choose : C8.Cal P w K mg base 1 "choose" (spChoose C) [] := cal_of F_choose G_choose g_choose b_choose
  have G_is_size : FnOk P w K mg base CX0 1 f_is_size fd_is_size ["number"] spSize := ok_size F_is_size k_MOST_COLUMNS_OR_ROWS
  have c_is_size : C8.Cal P w K mg base 1 "is_size" spSize [] := cal_of F_is_size G_is_size g_is_size b_is_size
  have G_answer_page : FnOk P w K mg base CX0 8 f_answer_page fd_answer_page ["page", "numbers"] (spHand C 0) := ok_hpage F_answer_page k_BAD_SIZE c_is_size m_lay
  have c_answer_page : C8.Cal P w K mg base 8 "answer_page" (spHand C 0) [] := cal_of F_answer_page G_answer_page g_answer_page b_answer_page
  have G_answer_box : FnOk P w K mg base CX0 8 f_answer_box fd_answer_box ["page", "numbers"] (spHand C 1) := ok_hbox F_answer_box T k_LAST_HOW k_BAD_HOW c_box_marks c_joined c_choose
  have c_answer_box : C8.Cal P w K mg base 8 "answer_box" (spHand C 1) [] := cal_of F_answer_box G_answer_box g_answer_box b_answer_box
  have G_answer_disk : FnOk P w K mg base CX0 8 f_answer_disk fd_answer_disk ["page", "numbers"] (spHand C 2) := ok_hdisk F_answer_disk T k_LAST_HOW k_BAD_HOW c_disk_marks c_joined c_choose
  have c_answer_disk : C8.Cal P w K mg base 8 "answer_disk" (spHand C 2) [] := cal_of F_answer_disk G_answer_disk g_answer_disk b_answer_disk
  have G_answer_over : FnOk P w K mg base CX0 8 f_answer_over fd_answer_over ["page", "numbers"] (spHand C 3) := ok_hover F_answer_over T c_turned_over c_choose
  have c_answer_over : C8.Cal P w K mg base 8 "answer_over" (spHand C 3) [] := cal_of F_answer_over G_answer_over g_answer_over b_answer_over
  have G_answer_grow : FnOk P w K mg base CX0 8 f_answer_grow fd_answer_grow ["page", "numbers"] (spHand C 4) := ok_hgrow F_answer_grow T c_grown c_choose
  have c_answer_grow : C8.Cal P w K mg base 8 "answer_grow" (spHand C 4) [] := cal_of F_answer_grow G_answer_grow g_answer_grow b_answer_grow
  have G_answer_shrink : FnOk P w K mg base CX0 8 f_answer_shrink fd_answer_shrink ["page", "numbers"] (spHand C 5) := ok_hshrink F_answer_shrink T k_BAD_OUTSIDE c_shrunk c_shrunk_from_outside c_choose
  have c_answer_shrink : C8.Cal P w K mg base 8 "answer_shrink" (spHand C 5) [] := cal_of F_answer_shrink G_answer_shrink g_answer_shrink b_answer_shrink
  have G_answer_ring : FnOk P w K mg base CX0 8 f_answer_ring fd_answer_ring ["page", "numbers"] (spHand C 6) := ok_hring F_answer_ring T c_ring_marks c_choose
  have c_answer_ring : C8.Cal P w K mg base 8 "answer_ring" (spHand C 6) [] := cal_of F_answer_ring G_answer_ring g_answer_ring b_answer_ring
  have G_answer_fill : FnOk P w K mg base CX0 8 f_answer_fill fd_answer_fill ["page", "numbers"] (spHand C 7) := ok_hfill F_answer_fill c_filled c_choose
  have c_answer_fill : C8.Cal P w K mg base 8 "answer_fill" (spHand C 7) [] := cal_of F_answer_fill G_answer_fill g_answer_fill b_answer_fill
  have G_answer_keep : FnOk P w K mg base CX0 8 f_answer_keep fd_answer_keep ["page", "numbers"] (spHand C 8) := ok_hkeep F_answer_keep k_NOT_CHOSEN c_chosen_cells c_kept c_choose
  have c_answer_keep : C8.Cal P w K mg base 8 "answer_keep" (spHand C 8) [] := cal_of F_answer_keep G_answer_keep g_answer_keep b_answer_keep
  have G_answer_far : FnOk P w K mg base CX0 8 f_answer_far fd_answer_far ["page", "numbers"] (spHand C 9) := ok_hfar F_answer_far T k_NO_SUCH_CELL k_NOTHING_CHOSEN c_chosen_cells c_nearest c_apart
  have c_answer_far : C8.Cal P w K mg base 8 "answer_far" (spHand C 9) [] := cal_of F_answer_far G_answer_far g_answer_far b_answer_far
  have G_answer_soft : FnOk P w K mg base CX0 8 f_answer_soft fd_answer_soft ["page", "numbers"] (spHand C 10) := ok_hsoft F_answer_soft k_GREATEST_WIDTH k_BAD_WIDTH c_degrees
  have c_answer_soft : C8.Cal P w K mg base 8 "answer_soft" (spHand C 10) [] := cal_of F_answer_soft G_answer_soft g_answer_soft b_answer_soft
  have G_answer_runs : FnOk P w K mg base CX0 8 f_answer_runs fd_answer_runs ["page", "numbers"] (spHand C 11) := ok_hruns F_answer_runs c_chosen_cells c_runs_told
  have c_answer_runs : C8.Cal P w K mg base 8 "answer_runs" (spHand C 11) [] := cal_of F_answer_runs G_answer_runs g_answer_runs b_answer_runs
  have G_answer_counts : FnOk P w K mg base CX0 8 f_answer_counts fd_answer_counts ["page", "numbers"] (spHand C 12) := ok_hcounts F_answer_counts n_len c_chosen_cells c_bounds c_open_sides c_chosen_pieces c_holes_of
  have c_answer_counts : C8.Cal P w K mg base 8 "answer_counts" (spHand C 12) [] := cal_of F_answer_counts G_answer_counts g_answer_counts b_answer_counts
  have G_answer_pieces : FnOk P w K mg base CX0 8 f_answer_pieces fd_answer_pieces ["page", "numbers"] (spHand C 13) := ok_hpieces F_answer_pieces c_chosen_pieces c_pieces_told
  have c_answer_pieces : C8.Cal P w K mg base 8 "answer_pieces" (spHand C 13) [] := cal_of F_answer_pieces G_answer_pieces g_answer_pieces b_answer_pieces
  have G_answer_holes : FnOk P w K mg base CX0 8 f_answer_holes fd_answer_holes ["page", "numbers"] (spHand C 14) := ok_hholes F_answer_holes c_holes_of c_pieces_told
  have c_answer_holes : C8.Cal P w K mg base 8 "answer_holes" (spHand C 14) [] := cal_of F_answer_holes G_answer_holes g_answer_holes b_answer_holes
  refine ok_ans F_answers T ⟨mk, a_init, i_init, kc⟩ (ok_init F_init m_lay) b_init n_len (PySem.W.mg_of X G a_HANDLERS) (PySem.W.mg_of X G a_COUNTS)
    (t_HANDLERS.sq (xs := [.ref f_answer_page, .ref f_answer_box, .ref f_answer_disk, .ref f_answer_over, .ref f_answer_grow, .ref f_answer_shrink, .ref f_answer_ring, .ref f_answer_fill, .ref f_answer_keep, .ref f_answer_far, .ref f_answer_soft, .ref f_answer_runs, .ref f_answer_counts, .ref f_answer_pieces, .ref f_answer_holes]) (.cons rfl (.cons rfl (.cons rfl (.cons rfl (.cons rfl (.cons rfl (.cons rfl (.cons rfl (.cons rfl (.cons rfl (.cons rfl (.cons rfl (.cons rfl (.cons rfl (.cons rfl (.nil)))))))))))))))) (by show 15 ≤ 1000; decide))
    (t_COUNTS.sq (xs := [.int 2, .int 5, .int 4, .int 0, .int 1, .int 2, .int 1, .int 0, .int 2, .int 2, .int 1, .int 0, .int 0, .int 0, .int 0]) (.cons ⟨_, rfl⟩ (.cons ⟨_, rfl⟩ (.cons ⟨_, rfl⟩ (.cons ⟨_, rfl⟩ (.cons ⟨_, rfl⟩ (.cons ⟨_, rfl⟩ (.cons ⟨_, rfl⟩ (.cons ⟨_, rfl⟩ (.cons ⟨_, rfl⟩ (.cons ⟨_, rfl⟩ (.cons ⟨_, rfl⟩ (.cons ⟨_, rfl⟩ (.cons ⟨_, rfl⟩ (.cons ⟨_, rfl⟩ (.cons ⟨_, rfl⟩ (.nil)))))))))))))))) (by show 15 ≤ 1000; decide)) ?_ ?_
  · intro k hk
    have hk' : k = 0 ∨ k = 1 ∨ k = 2 ∨ k = 3 ∨ k = 4 ∨ k = 5 ∨ k = 6 ∨ k = 7 ∨ k = 8 ∨ k = 9 ∨ k = 10 ∨ k = 11 ∨ k = 12 ∨ k = 13 ∨ k = 14 := by omega
    rcases hk' with rfl | rfl | rfl | rfl | rfl | rfl | rfl | rfl | rfl | rfl | rfl | rfl | rfl | rfl | rfl
    · exact ⟨f_answer_page, rfl, ⟨fd_answer_page, _, G_answer_page, F_answer_page.kp, b_answer_page⟩⟩
    · exact ⟨f_answer_box, rfl, ⟨fd_answer_box, _, G_answer_box, F_answer_box.kp, b_answer_box⟩⟩
    · exact ⟨f_answer_disk, rfl, ⟨fd_answer_disk, _, G_answer_disk, F_answer_disk.kp, b_answer_disk⟩⟩
    · exact ⟨f_answer_over, rfl, ⟨fd_answer_over, _, G_answer_over, F_answer_over.kp, b_answer_over⟩⟩
    · exact ⟨f_answer_grow, rfl, ⟨fd_answer_grow, _, G_answer_grow, F_answer_grow.kp, b_answer_grow⟩⟩
    · exact ⟨f_answer_shrink, rfl, ⟨fd_answer_shrink, _, G_answer_shrink, F_answer_shrink.kp, b_answer_shrink⟩⟩
    · exact ⟨f_answer_ring, rfl, ⟨fd_answer_ring, _, G_answer_ring, F_answer_ring.kp, b_answer_ring⟩⟩
    · exact ⟨f_answer_fill, rfl, ⟨fd_answer_fill, _, G_answer_fill, F_answer_fill.kp, b_answer_fill⟩⟩
    · exact ⟨f_answer_keep, rfl, ⟨fd_answer_keep, _, G_answer_keep, F_answer_keep.kp, b_answer_keep⟩⟩
    · exact ⟨f_answer_far, rfl, ⟨fd_answer_far, _, G_answer_far, F_answer_far.kp, b_answer_far⟩⟩
    · exact ⟨f_answer_soft, rfl, ⟨fd_answer_soft, _, G_answer_soft, F_answer_soft.kp, b_answer_soft⟩⟩
    · exact ⟨f_answer_runs, rfl, ⟨fd_answer_runs, _, G_answer_runs, F_answer_runs.kp, b_answer_runs⟩⟩
    · exact ⟨f_answer_counts, rfl, ⟨fd_answer_counts, _, G_answer_counts, F_answer_counts.kp, b_answer_counts⟩⟩
    · exact ⟨f_answer_pieces, rfl, ⟨fd_answer_pieces, _, G_answer_pieces, F_answer_pieces.kp, b_answer_pieces⟩⟩
    · exact ⟨f_answer_holes, rfl, ⟨fd_answer_holes, _, G_answer_holes, F_answer_holes.kp, b_answer_holes⟩⟩
  · intro k hk
    have hk' : k = 0 ∨ k = 1 ∨ k = 2 ∨ k = 3 ∨ k = 4 ∨ k = 5 ∨ k = 6 ∨ k = 7 ∨ k = 8 ∨ k = 9 ∨ k = 10 ∨ k = 11 ∨ k = 12 ∨ k = 13 ∨ k = 14 := by omega
    rcases hk' with rfl | rfl | rfl | rfl | rfl | rfl | rfl | rfl | rfl | rfl | rfl | rfl | rfl | rfl | rfl <;> rfl
end SE
open PySem PySem.W PyProof.Rows
set_option maxRecDepth 100000 in
set_option maxHeartbeats 8000000 in
theorem PySem.Challenge.cw_softedges_s01_answers_holds : PySem.Challenge.rw_softedges_s01_answers.Holds := by
  w_on; k_headS; (case hw => exact ⟨[.list [.int 3]], by decide +kernel, by decide +kernel⟩)
  k_fillS
  refine L2.walk_specK (r := PySem.Challenge.rw_softedges_s01_answers) (k := 9) (CX := L2.CX0) (ps := ["calls"]) (sp := SE.spAns) (by decide +kernel) rfl rfl ⟨rfl, by decide, by decide⟩ (fun w h Y => PySem.W.kIn_of Y) ?F ?S (fun _ _ _ _ z => z)
  case F =>
    intro w mg fa h Y KX G hmg
    refine' SE.all_mk KX G hmg ?a_Page ?a_init ?i_init ?F_init ?a_lay ?i_lay ?F_lay ?pg ?hd ?po ?sa ?mk ?kc ?nC ?nR ?nE ?nH ?a_apart ?F_apart ?a_nearest ?F_nearest ?a_moved ?F_moved ?a_marked_cells ?F_marked_cells ?a_turned_over ?F_turned_over ?a_chosen_cells ?F_chosen_cells ?a_unchosen_cells ?F_unchosen_cells ?a_put_all ?F_put_all ?a_members_of ?F_members_of ?a_is_near ?F_is_near ?a_grown ?F_grown ?a_shrunk ?F_shrunk ?a_outside_apart ?F_outside_apart ?a_shrunk_from_outside ?F_shrunk_from_outside ?a_ring_marks ?F_ring_marks ?a_piece_from ?F_piece_from ?a_pieces_of ?F_pieces_of ?a_chosen_pieces ?F_chosen_pieces ?a_kept ?F_kept ?a_pieces_told ?F_pieces_told ?a_is_on_rim ?F_is_on_rim ?a_reaches_rim ?F_reaches_rim ?a_holes_of ?F_holes_of ?a_filled ?F_filled ?a_without_beside ?F_without_beside ?a_runs_told ?F_runs_told ?a_bounds ?F_bounds ?a_open_sides ?F_open_sides ?a_box_marks ?F_box_marks ?a_disk_marks ?F_disk_marks ?a_is_chosen_then ?F_is_chosen_then ?a_joined ?F_joined ?a_root ?F_root ?a_steps_off ?F_steps_off ?a_chosen_degree ?F_chosen_degree ?a_unchosen_degree ?F_unchosen_degree ?a_degrees ?F_degrees ?a_choose ?F_choose ?a_is_size ?F_is_size ?a_answer_page ?F_answer_page ?a_answer_box ?F_answer_box ?a_answer_disk ?F_answer_disk ?a_answer_over ?F_answer_over ?a_answer_grow ?F_answer_grow ?a_answer_shrink ?F_answer_shrink ?a_answer_ring ?F_answer_ring ?a_answer_fill ?F_answer_fill ?a_answer_keep ?F_answer_keep ?a_answer_far ?F_answer_far ?a_answer_soft ?F_answer_soft ?a_answer_runs ?F_answer_runs ?a_answer_counts ?F_answer_counts ?a_answer_pieces ?F_answer_pieces ?a_answer_holes ?F_answer_holes ?a_answers ?F_answers ?v_LEAST_DEGREE ?v_GREATEST_DEGREE ?v_MOST_COLUMNS_OR_ROWS ?v_LAST_HOW ?v_GREATEST_WIDTH ?v_BAD_SIZE ?v_BAD_HOW ?v_BAD_OUTSIDE ?v_NOT_CHOSEN ?v_NO_SUCH_CELL ?v_NOTHING_CHOSEN ?v_BAD_WIDTH ?z_len ?z_zip ?z_range ?z_min ?z_max ?z_sum ?z_any ?z_list ?a_SIDES ?w_SIDES ?e_SIDES ?w_SIDES_0 ?e_SIDES_0 ?w_SIDES_1 ?e_SIDES_1 ?w_SIDES_2 ?e_SIDES_2 ?w_SIDES_3 ?e_SIDES_3 ?a_WITH_CORNERS ?w_WITH_CORNERS ?e_WITH_CORNERS ?w_WITH_CORNERS_0 ?e_WITH_CORNERS_0 ?w_WITH_CORNERS_1 ?e_WITH_CORNERS_1 ?w_WITH_CORNERS_2 ?e_WITH_CORNERS_2 ?w_WITH_CORNERS_3 ?e_WITH_CORNERS_3 ?w_WITH_CORNERS_4 ?e_WITH_CORNERS_4 ?w_WITH_CORNERS_5 ?e_WITH_CORNERS_5 ?w_WITH_CORNERS_6 ?e_WITH_CORNERS_6 ?w_WITH_CORNERS_7 ?e_WITH_CORNERS_7 ?a_ROOT_PARTS ?w_ROOT_PARTS ?e_ROOT_PARTS ?a_HANDLERS ?w_HANDLERS ?e_HANDLERS ?a_COUNTS ?w_COUNTS ?e_COUNTS
    (case a_Page => k_is)
    (case a_init => k_is)
    (case i_init => k_is)
    (case F_init => refine' L2.fun_mk ?l ?c ?k; (case l => k_is); (case c => k_is); (case k => k_is))
    (case a_lay => k_is)
    (case i_lay => k_is)
    (case F_lay => refine' L2.fun_mk ?l ?c ?k; (case l => k_is); (case c => k_is); (case k => k_is))
    (case pg => k_is)
    (case hd => k_is)
    (case po => k_is)
    (case sa => k_is)
    (case mk => k_is)
    (case kc => k_is)
    (case nC => k_is)
    (case nR => k_is)
    (case nE => k_is)
    (case nH => k_is)
    (case a_apart => k_is)
    (case F_apart => refine' L2.fun_mk ?l ?c ?k; (case l => k_is); (case c => k_is); (case k => k_is))
    (case a_nearest => k_is)
    (case F_nearest => refine' L2.fun_mk ?l ?c ?k; (case l => k_is); (case c => k_is); (case k => k_is))
    (case a_moved => k_is)
    (case F_moved => refine' L2.fun_mk ?l ?c ?k; (case l => k_is); (case c => k_is); (case k => k_is))
    (case a_marked_cells => k_is)
    (case F_marked_cells => refine' L2.fun_mk ?l ?c ?k; (case l => k_is); (case c => k_is); (case k => k_is))
    (case a_turned_over => k_is)
    (case F_turned_over => refine' L2.fun_mk ?l ?c ?k; (case l => k_is); (case c => k_is); (case k => k_is))
    (case a_chosen_cells => k_is)
    (case F_chosen_cells => refine' L2.fun_mk ?l ?c ?k; (case l => k_is); (case c => k_is); (case k => k_is))
    (case a_unchosen_cells => k_is)
    (case F_unchosen_cells => refine' L2.fun_mk ?l ?c ?k; (case l => k_is); (case c => k_is); (case k => k_is))
    (case a_put_all => k_is)
    (case F_put_all => refine' L2.fun_mk ?l ?c ?k; (case l => k_is); (case c => k_is); (case k => k_is))
    (case a_members_of => k_is)
    (case F_members_of => refine' L2.fun_mk ?l ?c ?k; (case l => k_is); (case c => k_is); (case k => k_is))
    (case a_is_near => k_is)
    (case F_is_near => refine' L2.fun_mk ?l ?c ?k; (case l => k_is); (case c => k_is); (case k => k_is))
    (case a_grown => k_is)
    (case F_grown => refine' L2.fun_mk ?l ?c ?k; (case l => k_is); (case c => k_is); (case k => k_is))
    (case a_shrunk => k_is)
    (case F_shrunk => refine' L2.fun_mk ?l ?c ?k; (case l => k_is); (case c => k_is); (case k => k_is))
    (case a_outside_apart => k_is)
    (case F_outside_apart => refine' L2.fun_mk ?l ?c ?k; (case l => k_is); (case c => k_is); (case k => k_is))
    (case a_shrunk_from_outside => k_is)
    (case F_shrunk_from_outside => refine' L2.fun_mk ?l ?c ?k; (case l => k_is); (case c => k_is); (case k => k_is))
    (case a_ring_marks => k_is)
    (case F_ring_marks => refine' L2.fun_mk ?l ?c ?k; (case l => k_is); (case c => k_is); (case k => k_is))
    (case a_piece_from => k_is)
    (case F_piece_from => refine' L2.fun_mk ?l ?c ?k; (case l => k_is); (case c => k_is); (case k => k_is))
    (case a_pieces_of => k_is)
    (case F_pieces_of => refine' L2.fun_mk ?l ?c ?k; (case l => k_is); (case c => k_is); (case k => k_is))
    (case a_chosen_pieces => k_is)
    (case F_chosen_pieces => refine' L2.fun_mk ?l ?c ?k; (case l => k_is); (case c => k_is); (case k => k_is))
    (case a_kept => k_is)
    (case F_kept => refine' L2.fun_mk ?l ?c ?k; (case l => k_is); (case c => k_is); (case k => k_is))
    (case a_pieces_told => k_is)
    (case F_pieces_told => refine' L2.fun_mk ?l ?c ?k; (case l => k_is); (case c => k_is); (case k => k_is))
    (case a_is_on_rim => k_is)
    (case F_is_on_rim => refine' L2.fun_mk ?l ?c ?k; (case l => k_is); (case c => k_is); (case k => k_is))
    (case a_reaches_rim => k_is)
    (case F_reaches_rim => refine' L2.fun_mk ?l ?c ?k; (case l => k_is); (case c => k_is); (case k => k_is))
    (case a_holes_of => k_is)
    (case F_holes_of => refine' L2.fun_mk ?l ?c ?k; (case l => k_is); (case c => k_is); (case k => k_is))
    (case a_filled => k_is)
    (case F_filled => refine' L2.fun_mk ?l ?c ?k; (case l => k_is); (case c => k_is); (case k => k_is))
    (case a_without_beside => k_is)
    (case F_without_beside => refine' L2.fun_mk ?l ?c ?k; (case l => k_is); (case c => k_is); (case k => k_is))
    (case a_runs_told => k_is)
    (case F_runs_told => refine' L2.fun_mk ?l ?c ?k; (case l => k_is); (case c => k_is); (case k => k_is))
    (case a_bounds => k_is)
    (case F_bounds => refine' L2.fun_mk ?l ?c ?k; (case l => k_is); (case c => k_is); (case k => k_is))
    (case a_open_sides => k_is)
    (case F_open_sides => refine' L2.fun_mk ?l ?c ?k; (case l => k_is); (case c => k_is); (case k => k_is))
    (case a_box_marks => k_is)
    (case F_box_marks => refine' L2.fun_mk ?l ?c ?k; (case l => k_is); (case c => k_is); (case k => k_is))
    (case a_disk_marks => k_is)
    (case F_disk_marks => refine' L2.fun_mk ?l ?c ?k; (case l => k_is); (case c => k_is); (case k => k_is))
    (case a_is_chosen_then => k_is)
    (case F_is_chosen_then => refine' L2.fun_mk ?l ?c ?k; (case l => k_is); (case c => k_is); (case k => k_is))
    (case a_joined => k_is)
    (case F_joined => refine' L2.fun_mk ?l ?c ?k; (case l => k_is); (case c => k_is); (case k => k_is))
    (case a_root => k_is)
    (case F_root => refine' L2.fun_mk ?l ?c ?k; (case l => k_is); (case c => k_is); (case k => k_is))
    (case a_steps_off => k_is)
    (case F_steps_off => refine' L2.fun_mk ?l ?c ?k; (case l => k_is); (case c => k_is); (case k => k_is))
    (case a_chosen_degree => k_is)
    (case F_chosen_degree => refine' L2.fun_mk ?l ?c ?k; (case l => k_is); (case c => k_is); (case k => k_is))
    (case a_unchosen_degree => k_is)
    (case F_unchosen_degree => refine' L2.fun_mk ?l ?c ?k; (case l => k_is); (case c => k_is); (case k => k_is))
    (case a_degrees => k_is)
    (case F_degrees => refine' L2.fun_mk ?l ?c ?k; (case l => k_is); (case c => k_is); (case k => k_is))
    (case a_choose => k_is)
    (case F_choose => refine' L2.fun_mk ?l ?c ?k; (case l => k_is); (case c => k_is); (case k => k_is))
    (case a_is_size => k_is)
    (case F_is_size => refine' L2.fun_mk ?l ?c ?k; (case l => k_is); (case c => k_is); (case k => k_is))
    (case a_answer_page => k_is)
    (case F_answer_page => refine' L2.fun_mk ?l ?c ?k; (case l => k_is); (case c => k_is); (case k => k_is))
    (case a_answer_box => k_is)
    (case F_answer_box => refine' L2.fun_mk ?l ?c ?k; (case l => k_is); (case c => k_is); (case k => k_is))
    (case a_answer_disk => k_is)
    (case F_answer_disk => refine' L2.fun_mk ?l ?c ?k; (case l => k_is); (case c => k_is); (case k => k_is))
    (case a_answer_over => k_is)
    (case F_answer_over => refine' L2.fun_mk ?l ?c ?k; (case l => k_is); (case c => k_is); (case k => k_is))
    (case a_answer_grow => k_is)
    (case F_answer_grow => refine' L2.fun_mk ?l ?c ?k; (case l => k_is); (case c => k_is); (case k => k_is))
    (case a_answer_shrink => k_is)
    (case F_answer_shrink => refine' L2.fun_mk ?l ?c ?k; (case l => k_is); (case c => k_is); (case k => k_is))
    (case a_answer_ring => k_is)
    (case F_answer_ring => refine' L2.fun_mk ?l ?c ?k; (case l => k_is); (case c => k_is); (case k => k_is))
    (case a_answer_fill => k_is)
    (case F_answer_fill => refine' L2.fun_mk ?l ?c ?k; (case l => k_is); (case c => k_is); (case k => k_is))
    (case a_answer_keep => k_is)
    (case F_answer_keep => refine' L2.fun_mk ?l ?c ?k; (case l => k_is); (case c => k_is); (case k => k_is))
    (case a_answer_far => k_is)
    (case F_answer_far => refine' L2.fun_mk ?l ?c ?k; (case l => k_is); (case c => k_is); (case k => k_is))
    (case a_answer_soft => k_is)
    (case F_answer_soft => refine' L2.fun_mk ?l ?c ?k; (case l => k_is); (case c => k_is); (case k => k_is))
    (case a_answer_runs => k_is)
    (case F_answer_runs => refine' L2.fun_mk ?l ?c ?k; (case l => k_is); (case c => k_is); (case k => k_is))
    (case a_answer_counts => k_is)
    (case F_answer_counts => refine' L2.fun_mk ?l ?c ?k; (case l => k_is); (case c => k_is); (case k => k_is))
    (case a_answer_pieces => k_is)
    (case F_answer_pieces => refine' L2.fun_mk ?l ?c ?k; (case l => k_is); (case c => k_is); (case k => k_is))
    (case a_answer_holes => k_is)
    (case F_answer_holes => refine' L2.fun_mk ?l ?c ?k; (case l => k_is); (case c => k_is); (case k => k_is))
    (case a_answers => k_is)
    (case F_answers => refine' L2.fun_mk ?l ?c ?k; (case l => k_is); (case c => k_is); (case k => k_is))
    (case v_LEAST_DEGREE => k_is)
    (case v_GREATEST_DEGREE => k_is)
    (case v_MOST_COLUMNS_OR_ROWS => k_is)
    (case v_LAST_HOW => k_is)
    (case v_GREATEST_WIDTH => k_is)
    (case v_BAD_SIZE => k_is)
    (case v_BAD_HOW => k_is)
    (case v_BAD_OUTSIDE => k_is)
    (case v_NOT_CHOSEN => k_is)
    (case v_NO_SUCH_CELL => k_is)
    (case v_NOTHING_CHOSEN => k_is)
    (case v_BAD_WIDTH => k_is)
    (case z_len => k_is)
    (case z_zip => k_is)
    (case z_range => k_is)
    (case z_min => k_is)
    (case z_max => k_is)
    (case z_sum => k_is)
    (case z_any => k_is)
    (case z_list => k_is)
    (case a_SIDES => k_is)
    (case w_SIDES => k_is)
    (case e_SIDES => rfl)
    (case w_SIDES_0 => k_is)
    (case e_SIDES_0 => rfl)
    (case w_SIDES_1 => k_is)
    (case e_SIDES_1 => rfl)
    (case w_SIDES_2 => k_is)
    (case e_SIDES_2 => rfl)
    (case w_SIDES_3 => k_is)
    (case e_SIDES_3 => rfl)
    (case a_WITH_CORNERS => k_is)
    (case w_WITH_CORNERS => k_is)
    (case e_WITH_CORNERS => rfl)
    (case w_WITH_CORNERS_0 => k_is)
    (case e_WITH_CORNERS_0 => rfl)
    (case w_WITH_CORNERS_1 => k_is)
    (case e_WITH_CORNERS_1 => rfl)
    (case w_WITH_CORNERS_2 => k_is)
    (case e_WITH_CORNERS_2 => rfl)
    (case w_WITH_CORNERS_3 => k_is)
    (case e_WITH_CORNERS_3 => rfl)
    (case w_WITH_CORNERS_4 => k_is)
    (case e_WITH_CORNERS_4 => rfl)
    (case w_WITH_CORNERS_5 => k_is)
    (case e_WITH_CORNERS_5 => rfl)
    (case w_WITH_CORNERS_6 => k_is)
    (case e_WITH_CORNERS_6 => rfl)
    (case w_WITH_CORNERS_7 => k_is)
    (case e_WITH_CORNERS_7 => rfl)
    (case a_ROOT_PARTS => k_is)
    (case w_ROOT_PARTS => k_is)
    (case e_ROOT_PARTS => rfl)
    (case a_HANDLERS => k_is)
    (case w_HANDLERS => k_is)
    (case e_HANDLERS => rfl)
    (case a_COUNTS => k_is)
    (case w_COUNTS => k_is)
    (case e_COUNTS => rfl)
  case S =>
    intro K H xs a hO hwi hask hx
    cases hx with
    | cons h1 h2 =>
      cases h2
      cases h1 with
      | lst hs ha =>
        have e := L2.ints_dw a.1 _ ha
        subst e
        exact ⟨_, a.1, rfl, hs, hask, fun H' p hp => .lst (L2.SqL.of hp) (L2.dw_ints _)⟩
