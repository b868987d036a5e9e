import PyProof.Rows.All
import Wide.All
import OpenK.AllK
import Wide.FinOn
import HandS.ForMost
import HandS.EndBits
import HandS.Walk
import HandS.Wide
import HandS.IsInst
import HandS.Conv
import HandS.SortRule
import HandS.TupSets
import KE.KDictSum
import HandS.AnyAll
import PyProof.SumAny
import HandS.Nested
import HandS.EndTab
import HandS.Deep
import KE.KDictPairs
import HandS.Style
import KE.KNest
import KE.KNestM
import PySem.Challenge.RW_doneranges_k02_sets
set_option Elab.async false
set_option linter.all false
set_option maxRecDepth 100000
set_option autoImplicit false
namespace Rw
/-! rows (house, first, last), points (house, number), by the order of pairs -/
abbrev Row := Int × Int × Int
abbrev Pt := Int × Int
def lt2 (p q : Pt) : Prop := p.1 < q.1 ∨ (p.1 = q.1 ∧ p.2 < q.2)
def le2 (p q : Pt) : Prop := p.1 < q.1 ∨ (p.1 = q.1 ∧ p.2 ≤ q.2)
instance (p q : Pt) : Decidable (lt2 p q) := by unfold lt2; infer_instance
instance (p q : Pt) : Decidable (le2 p q) := by unfold le2; infer_instance
def inRow (r : Row) (p : Pt) : Prop := r.1 = p.1 ∧ r.2.1 ≤ p.2 ∧ p.2 ≤ r.2.2
instance (r : Row) (p : Pt) : Decidable (inRow r p) := by unfold inRow; infer_instance
def mem (rs : List Row) (p : Pt) : Prop := ∃ r ∈ rs, inRow r p
def before (r s : Row) : Prop := r.1 < s.1 ∨ (r.1 = s.1 ∧ r.2.2 + 1 < s.2.1)
structure Canon (rs : List Row) : Prop where
  ok : ∀ r ∈ rs, r.2.1 ≤ r.2.2
  ord : rs.Pairwise before
theorem Canon.nil : Canon [] := ⟨fun _ h => absurd h (by simp), .nil⟩
theorem Canon.tail {r : Row} {rs : List Row} (c : Canon (r :: rs)) : Canon rs :=
  ⟨fun s h => c.ok s (List.mem_cons_of_mem _ h), (List.pairwise_cons.mp c.ord).2⟩
theorem mem_cons {r : Row} {rs : List Row} {p : Pt} : mem (r :: rs) p ↔ inRow r p ∨ mem rs p := by
  unfold mem; simp
theorem mem_nil {p : Pt} : ¬ mem [] p := by unfold mem; simp
theorem mem_append {as bs : List Row} {p : Pt} : mem (as ++ bs) p ↔ mem as p ∨ mem bs p := by
  unfold mem
  constructor
  · rintro ⟨r, h, e⟩
    rcases List.mem_append.mp h with h | h
    · exact .inl ⟨r, h, e⟩
    · exact .inr ⟨r, h, e⟩
  · rintro (⟨r, h, e⟩ | ⟨r, h, e⟩)
    · exact ⟨r, List.mem_append_left _ h, e⟩
    · exact ⟨r, List.mem_append_right _ h, e⟩
/-- whatever is in a later row lies behind the first one, with a gap -/
theorem Canon.later {r : Row} {rs : List Row} (c : Canon (r :: rs)) {p : Pt} (h : mem rs p) : r.1 < p.1 ∨ (r.1 = p.1 ∧ r.2.2 + 1 < p.2) := by
  obtain ⟨s, hs, e1, e2, e3⟩ := h
  have b := (List.pairwise_cons.mp c.ord).1 s hs
  unfold before at b
  omega
theorem Canon.uniq : ∀ {xs ys : List Row}, Canon xs → Canon ys → (∀ p, mem xs p ↔ mem ys p) → xs = ys
  | [], [], _, _, _ => rfl
  | [], y :: ys, _, cy, h => by
    have o := cy.ok y List.mem_cons_self
    exact absurd ((h (y.1, y.2.1)).mpr (mem_cons.mpr (.inl ⟨rfl, Int.le_refl _, o⟩))) mem_nil
  | x :: xs, [], cx, _, h => by
    have o := cx.ok x List.mem_cons_self
    exact absurd ((h (x.1, x.2.1)).mp (mem_cons.mpr (.inl ⟨rfl, Int.le_refl _, o⟩))) mem_nil
  | x :: xs, y :: ys, cx, cy, h => by
    have ox := cx.ok x List.mem_cons_self
    have oy := cy.ok y List.mem_cons_self
    have a1 := mem_cons.mp ((h (x.1, x.2.1)).mp (mem_cons.mpr (.inl ⟨rfl, Int.le_refl _, ox⟩)))
    have a2 := mem_cons.mp ((h (y.1, y.2.1)).mpr (mem_cons.mpr (.inl ⟨rfl, Int.le_refl _, oy⟩)))
    have b1 : le2 (y.1, y.2.1) (x.1, x.2.1) := by
      unfold le2
      rcases a1 with ⟨e1, e2, e3⟩ | a1
      · simp only at e1 e2 e3 ⊢; omega
      · have z := cy.later a1; simp only at z ⊢; omega
    have b2 : le2 (x.1, x.2.1) (y.1, y.2.1) := by
      unfold le2
      rcases a2 with ⟨e1, e2, e3⟩ | a2
      · simp only at e1 e2 e3 ⊢; omega
      · have z := cx.later a2; simp only at z ⊢; omega
    unfold le2 at b1 b2
    simp only at b1 b2
    have eh : x.1 = y.1 := by omega
    have ea : x.2.1 = y.2.1 := by omega
    have c1 := mem_cons.mp ((h (x.1, x.2.2)).mp (mem_cons.mpr (.inl ⟨rfl, ox, Int.le_refl _⟩)))
    have c2 := mem_cons.mp ((h (y.1, y.2.2)).mpr (mem_cons.mpr (.inl ⟨rfl, oy, Int.le_refl _⟩)))
    have eb : x.2.2 = y.2.2 := by
      rcases Int.lt_trichotomy x.2.2 y.2.2 with z | z | z
      · -- (x.1, x.2.2 + 1) is in y, so in x's tail
        have d := mem_cons.mp ((h (x.1, x.2.2 + 1)).mpr (mem_cons.mpr (.inl ⟨eh.symm, by simp only; omega, by simp only; omega⟩)))
        rcases d with ⟨_, _, e3⟩ | d
        · simp only at e3; omega
        · have u := cx.later d; simp only at u; omega
      · exact z
      · have d := mem_cons.mp ((h (y.1, y.2.2 + 1)).mp (mem_cons.mpr (.inl ⟨eh, by simp only; omega, by simp only; omega⟩)))
        rcases d with ⟨_, _, e3⟩ | d
        · simp only at e3; omega
        · have u := cy.later d; simp only at u; omega
    have exy : x = y := by
      obtain ⟨x1, x2, x3⟩ := x
      obtain ⟨y1, y2, y3⟩ := y
      simp only at eh ea eb
      subst eh ea eb
      rfl
    subst exy
    congr 1
    refine Canon.uniq cx.tail cy.tail fun p => ?_
    constructor
    · intro m
      rcases mem_cons.mp ((h p).mp (mem_cons.mpr (.inr m))) with ⟨e1, e2, e3⟩ | d
      · have u := cx.later m; omega
      · exact d
    · intro m
      rcases mem_cons.mp ((h p).mpr (mem_cons.mpr (.inr m))) with ⟨e1, e2, e3⟩ | d
      · have u := cy.later m; omega
      · exact d
theorem Canon.snoc {rs : List Row} {r : Row} (c : Canon rs) (o : r.2.1 ≤ r.2.2) (h : ∀ s ∈ rs, before s r) : Canon (rs ++ [r]) := by
  refine ⟨fun s hs => ?_, List.pairwise_append.mpr ⟨c.ord, List.pairwise_singleton _ _, fun s hs t ht => ?_⟩⟩
  · rcases List.mem_append.mp hs with hs | hs
    · exact c.ok s hs
    · rw [List.mem_singleton.mp hs]; exact o
  · rw [List.mem_singleton.mp ht]; exact h s hs

/-! ### sums over weighted rows -/
abbrev WRow := Row × Int
def S (f : Row → Int) : List WRow → Int
  | [] => 0
  | (r, w) :: ws => w * f r + S f ws
theorem S_append (f : Row → Int) : ∀ (as bs : List WRow), S f (as ++ bs) = S f as + S f bs
  | [], bs => by simp [S]
  | (r, w) :: as, bs => by
    show w * f r + S f (as ++ bs) = w * f r + S f as + S f bs
    rw [S_append f as bs]; omega
theorem S_congr {f g : Row → Int} : ∀ {ws : List WRow}, (∀ x ∈ ws, f x.1 = g x.1) → S f ws = S g ws
  | [], _ => rfl
  | (r, w) :: ws, h => by
    show w * f r + S f ws = w * g r + S g ws
    rw [h (r, w) List.mem_cons_self, S_congr (ws := ws) fun x hx => h x (List.mem_cons_of_mem _ hx)]
theorem S_add (f g : Row → Int) : ∀ ws : List WRow, S (fun r => f r + g r) ws = S f ws + S g ws
  | [] => rfl
  | (r, w) :: ws => by
    show w * (f r + g r) + S (fun r => f r + g r) ws = (w * f r + S f ws) + (w * g r + S g ws)
    rw [S_add f g ws, Int.mul_add]; omega
theorem S_zero {f : Row → Int} : ∀ {ws : List WRow}, (∀ x ∈ ws, f x.1 = 0) → S f ws = 0
  | [], _ => rfl
  | (r, w) :: ws, h => by
    show w * f r + S f ws = 0
    rw [h (r, w) List.mem_cons_self, S_zero (ws := ws) fun x hx => h x (List.mem_cons_of_mem _ hx)]; omega
def ind (c : Prop) [Decidable c] : Int := if c then 1 else 0
theorem ind_pos {c : Prop} [Decidable c] (h : c) : ind c = 1 := if_pos h
theorem ind_neg {c : Prop} [Decidable c] (h : ¬ c) : ind c = 0 := if_neg h
theorem ind_or (c : Prop) [Decidable c] : (c ∧ ind c = 1) ∨ (¬ c ∧ ind c = 0) := by
  by_cases h : c
  · exact .inl ⟨h, ind_pos h⟩
  · exact .inr ⟨h, ind_neg h⟩
def fstP (r : Row) : Pt := (r.1, r.2.1)
def endP (r : Row) : Pt := (r.1, r.2.2 + 1)
/-- what weighs on a point -/
def cover (ws : List WRow) (p : Pt) : Int := S (fun r => ind (inRow r p)) ws
/-- the change at a point -/
def chg (ws : List WRow) (p : Pt) : Int := S (fun r => ind (fstP r = p) - ind (endP r = p)) ws
def Wok (ws : List WRow) : Prop := ∀ x ∈ ws, x.1.2.1 ≤ x.1.2.2
theorem cover_eq {ws : List WRow} (h : Wok ws) (p : Pt) : cover ws p = S (fun r => ind (le2 (fstP r) p) - ind (le2 (endP r) p)) ws := by
  refine S_congr fun x hx => ?_
  have o := h x hx
  obtain ⟨⟨rh, ra, rb⟩, w⟩ := x
  obtain ⟨ph, pn⟩ := p
  rcases ind_or (inRow (rh, ra, rb) (ph, pn)) with ⟨a, ea⟩ | ⟨a, ea⟩ <;> rcases ind_or (le2 (fstP (rh, ra, rb)) (ph, pn)) with ⟨b, eb⟩ | ⟨b, eb⟩ <;>
    rcases ind_or (le2 (endP (rh, ra, rb)) (ph, pn)) with ⟨c, ec⟩ | ⟨c, ec⟩ <;> rw [ea, eb, ec] <;> simp only [inRow, le2, fstP, endP] at a b c o <;> omega
/-- all points of change are among ks -/
def Has (ks : List Pt) (ws : List WRow) : Prop := ∀ x ∈ ws, fstP x.1 ∈ ks ∧ endP x.1 ∈ ks
/-- from a point to the next one of change -/
theorem cover_step {ws : List WRow} (o : Wok ws) {c k : Pt} (hlt : lt2 c k) (hn : ∀ x ∈ ws, (le2 (fstP x.1) c ∨ le2 k (fstP x.1)) ∧ (le2 (endP x.1) c ∨ le2 k (endP x.1))) :
    cover ws k = cover ws c + chg ws k := by
  rw [cover_eq o, cover_eq o, chg, ← S_add]
  refine S_congr fun x hx => ?_
  obtain ⟨a, b⟩ := hn x hx
  obtain ⟨⟨rh, ra, rb⟩, w⟩ := x
  obtain ⟨kh, kn⟩ := k
  obtain ⟨ch, cn⟩ := c
  simp only [lt2, le2, fstP, endP] at a b hlt
  rcases ind_or (le2 (fstP (rh, ra, rb)) (kh, kn)) with ⟨u1, e1⟩ | ⟨u1, e1⟩ <;> rcases ind_or (le2 (endP (rh, ra, rb)) (kh, kn)) with ⟨u2, e2⟩ | ⟨u2, e2⟩ <;>
    rcases ind_or (le2 (fstP (rh, ra, rb)) (ch, cn)) with ⟨u3, e3⟩ | ⟨u3, e3⟩ <;> rcases ind_or (le2 (endP (rh, ra, rb)) (ch, cn)) with ⟨u4, e4⟩ | ⟨u4, e4⟩ <;>
    rcases ind_or (fstP (rh, ra, rb) = (kh, kn)) with ⟨u5, e5⟩ | ⟨u5, e5⟩ <;> rcases ind_or (endP (rh, ra, rb) = (kh, kn)) with ⟨u6, e6⟩ | ⟨u6, e6⟩ <;>
    rw [e1, e2, e3, e4, e5, e6] <;> simp only [le2, fstP, endP, Prod.mk.injEq] at u1 u2 u3 u4 u5 u6 <;> omega
theorem cover_same {ws : List WRow} (o : Wok ws) {c p : Pt} (hle : le2 c p) (hn : ∀ x ∈ ws, (le2 (fstP x.1) c ∨ lt2 p (fstP x.1)) ∧ (le2 (endP x.1) c ∨ lt2 p (endP x.1))) :
    cover ws p = cover ws c := by
  rw [cover_eq o, cover_eq o]
  refine S_congr fun x hx => ?_
  obtain ⟨a, b⟩ := hn x hx
  obtain ⟨⟨rh, ra, rb⟩, w⟩ := x
  obtain ⟨kh, kn⟩ := p
  obtain ⟨ch, cn⟩ := c
  simp only [lt2, le2, fstP, endP] at a b hle
  rcases ind_or (le2 (fstP (rh, ra, rb)) (kh, kn)) with ⟨u1, e1⟩ | ⟨u1, e1⟩ <;> rcases ind_or (le2 (endP (rh, ra, rb)) (kh, kn)) with ⟨u2, e2⟩ | ⟨u2, e2⟩ <;>
    rcases ind_or (le2 (fstP (rh, ra, rb)) (ch, cn)) with ⟨u3, e3⟩ | ⟨u3, e3⟩ <;> rcases ind_or (le2 (endP (rh, ra, rb)) (ch, cn)) with ⟨u4, e4⟩ | ⟨u4, e4⟩ <;>
    rw [e1, e2, e3, e4] <;> simp only [le2, fstP, endP] at u1 u2 u3 u4 <;> omega
theorem cover_first {ws : List WRow} (o : Wok ws) {k : Pt} (hn : ∀ x ∈ ws, le2 k (fstP x.1) ∧ le2 k (endP x.1)) : cover ws k = chg ws k := by
  rw [cover_eq o, chg]
  refine S_congr fun x hx => ?_
  obtain ⟨a, b⟩ := hn x hx
  obtain ⟨⟨rh, ra, rb⟩, w⟩ := x
  obtain ⟨kh, kn⟩ := k
  simp only [le2, fstP, endP] at a b
  rcases ind_or (le2 (fstP (rh, ra, rb)) (kh, kn)) with ⟨u1, e1⟩ | ⟨u1, e1⟩ <;> rcases ind_or (le2 (endP (rh, ra, rb)) (kh, kn)) with ⟨u2, e2⟩ | ⟨u2, e2⟩ <;>
    rcases ind_or (fstP (rh, ra, rb) = (kh, kn)) with ⟨u5, e5⟩ | ⟨u5, e5⟩ <;> rcases ind_or (endP (rh, ra, rb) = (kh, kn)) with ⟨u6, e6⟩ | ⟨u6, e6⟩ <;>
    rw [e1, e2, e5, e6] <;> simp only [le2, fstP, endP, Prod.mk.injEq] at u1 u2 u5 u6 <;> omega
theorem cover_none {ws : List WRow} {p : Pt} (hn : ∀ x ∈ ws, ¬ inRow x.1 p) : cover ws p = 0 := S_zero fun x hx => ind_neg (hn x hx)
/-- something covers: its end lies behind, in the same house -/
theorem cover_pos {ws : List WRow} {p : Pt} (h : cover ws p ≠ 0) : ∃ x ∈ ws, inRow x.1 p := by
  by_cases e : ∃ x ∈ ws, inRow x.1 p
  · exact e
  · exact absurd (cover_none fun x hx q => e ⟨x, hx, q⟩) h

/-! ### the sweep -/
structure St where
  out : List Row
  total : Int
  start : Int
def stepM (ch : Pt → Int) (least : Int) (s : St) (k : Pt) : St :=
  if s.total < least ∧ least ≤ s.total + ch k then ⟨s.out, s.total + ch k, k.2⟩
  else if s.total + ch k < least ∧ least ≤ s.total then ⟨s.out ++ [(k.1, s.start, k.2 - 1)], s.total + ch k, s.start⟩
  else ⟨s.out, s.total + ch k, s.start⟩
/-- behind the point c of change: what is out, and what is open -/
structure At (ws : List WRow) (least : Int) (c : Pt) (s : St) : Prop where
  tot : s.total = cover ws c
  can : Canon s.out
  cl : s.total < least → (∀ r ∈ s.out, le2 (endP r) c) ∧ ∀ p, le2 p c → (mem s.out p ↔ least ≤ cover ws p)
  op : least ≤ s.total → s.start ≤ c.2 ∧ (∀ r ∈ s.out, lt2 (endP r) (c.1, s.start)) ∧ (∀ n, s.start ≤ n → n ≤ c.2 → least ≤ cover ws (c.1, n)) ∧
    ∀ p, lt2 p (c.1, s.start) → (mem s.out p ↔ least ≤ cover ws p)
theorem not_mem_of_end {rs : List Row} {c p : Pt} (h : ∀ r ∈ rs, le2 (endP r) c) (hp : le2 c p) : ¬ mem rs p := by
  rintro ⟨r, hr, e1, e2, e3⟩
  have a := h r hr
  unfold le2 endP at a
  unfold le2 at hp
  simp only at a
  omega
theorem At.step {ws : List WRow} {least : Int} (hl : 0 < least) (o : Wok ws) {c k : Pt} {s : St} (a : At ws least c s) (hlt : lt2 c k)
    (hn : ∀ x ∈ ws, (le2 (fstP x.1) c ∨ le2 k (fstP x.1)) ∧ (le2 (endP x.1) c ∨ le2 k (endP x.1))) : At ws least k (stepM (chg ws) least s k) := by
  have tk : s.total + chg ws k = cover ws k := by rw [a.tot, cover_step o hlt hn]
  have same : ∀ p, le2 c p → lt2 p k → cover ws p = cover ws c := fun p h1 h2 => by
    refine cover_same o h1 fun x hx => ?_
    obtain ⟨u, v⟩ := hn x hx
    unfold lt2 le2 at *
    exact ⟨by omega, by omega⟩
  unfold stepM
  rw [tk]
  by_cases h1 : s.total < least
  · obtain ⟨c1, c2⟩ := a.cl h1
    have hm : ∀ p, lt2 p k → (mem s.out p ↔ least ≤ cover ws p) := fun p hp => by
      by_cases hc : le2 p c
      · exact c2 p hc
      · have hc' : le2 c p := by unfold le2 at *; omega
        have nm := not_mem_of_end c1 hc'
        have e := same p hc' hp
        rw [e, ← a.tot]
        exact ⟨fun z => absurd z nm, fun z => absurd h1 (by omega)⟩
    by_cases h2 : least ≤ cover ws k
    · rw [if_pos ⟨h1, h2⟩]
      refine ⟨rfl, a.can, fun z => absurd z (by simp only; omega), fun _ => ⟨Int.le_refl _, fun r hr => ?_, fun n z1 z2 => ?_, fun p hp => hm p hp⟩⟩
      · have q := c1 r hr
        unfold le2 lt2 at *
        simp only at *
        omega
      · have : n = k.2 := by simp only at z1 z2; omega
        rw [this]; exact h2
    · rw [if_neg (fun z => h2 z.2), if_neg (fun z => absurd z.2 (by omega))]
      refine ⟨rfl, a.can, fun _ => ⟨fun r hr => ?_, fun p hp => ?_⟩, fun z => absurd z (by simp only; omega)⟩
      · have q := c1 r hr
        unfold le2 lt2 at *
        omega
      · by_cases hpk : lt2 p k
        · exact hm p hpk
        · have e : p = k := by
            obtain ⟨p1, p2⟩ := p
            obtain ⟨k1, k2⟩ := k
            unfold le2 at hp
            unfold lt2 at hpk
            simp only at hp hpk
            have e1 : p1 = k1 := by omega
            have e2 : p2 = k2 := by omega
            rw [e1, e2]
          subst e
          have hck : le2 c p := by unfold lt2 at hlt; unfold le2; omega
          exact ⟨fun z => absurd z (not_mem_of_end c1 hck), fun z => absurd z h2⟩
  · have h1' : least ≤ s.total := by omega
    obtain ⟨o1, o2, o3, o4⟩ := a.op h1'
    rw [if_neg (fun z => h1 z.1)]
    -- a row that covers c ends behind c in its house: k lies in the same house
    have hk1 : k.1 = c.1 := by
      obtain ⟨x, hx, i1, i2, i3⟩ := cover_pos (ws := ws) (p := c) (by rw [← a.tot]; omega)
      obtain ⟨_, v⟩ := hn x hx
      unfold le2 endP at v
      unfold lt2 at hlt
      simp only at v
      omega
    have hk2 : c.2 < k.2 := by unfold lt2 at hlt; omega
    have seg : ∀ n, s.start ≤ n → n < k.2 → least ≤ cover ws (c.1, n) := fun n z1 z2 => by
      by_cases hc : n ≤ c.2
      · exact o3 n z1 hc
      · rw [same (c.1, n) (.inr ⟨rfl, by simp only; omega⟩) (.inr ⟨hk1.symm, z2⟩), ← a.tot]
        exact h1'
    by_cases h2 : cover ws k < least
    · rw [if_pos ⟨h2, h1'⟩]
      refine ⟨rfl, a.can.snoc (by simp only; omega) fun r hr => ?_, fun _ => ⟨fun r hr => ?_, fun p hp => ?_⟩, fun z => absurd z (show ¬ least ≤ cover ws k by omega)⟩
      · have q := o2 r hr
        unfold lt2 endP at q
        unfold before
        simp only at q ⊢
        omega
      · rcases List.mem_append.mp hr with hr | hr
        · have q := o2 r hr
          unfold lt2 at q
          unfold le2
          simp only at q ⊢
          omega
        · rw [List.mem_singleton.mp hr]
          exact .inr ⟨rfl, show k.2 - 1 + 1 ≤ k.2 by omega⟩
      · rw [mem_append]
        by_cases hb : lt2 p (c.1, s.start)
        · rw [← o4 p hb]
          constructor
          · rintro (z | ⟨r, hr, i1, i2, i3⟩)
            · exact z
            · rw [List.mem_singleton.mp hr] at i1 i2 i3
              unfold lt2 at hb
              simp only at i1 i2 i3 hb
              omega
          · exact .inl
        · by_cases hpk : lt2 p k
          · have e : p.1 = c.1 := by
              unfold lt2 at hb hpk
              simp only at hb
              omega
            have z1 : s.start ≤ p.2 := by
              unfold lt2 at hb
              simp only at hb
              omega
            have z2 : p.2 < k.2 := by
              unfold lt2 at hpk
              omega
            have q := seg p.2 z1 z2
            rw [← e] at q
            refine ⟨fun _ => q, fun _ => .inr ⟨_, List.mem_singleton.mpr rfl, ?_, ?_, ?_⟩⟩
            · simp only; omega
            · exact z1
            · simp only; omega
          · have e : p = k := by
              obtain ⟨p1, p2⟩ := p
              obtain ⟨k1, k2⟩ := k
              unfold le2 at hp
              unfold lt2 at hpk
              simp only at hp hpk
              have e1 : p1 = k1 := by omega
              have e2 : p2 = k2 := by omega
              rw [e1, e2]
            subst e
            refine ⟨fun z => ?_, fun z => absurd z (by omega)⟩
            exfalso
            rcases z with ⟨r, hr, i1, i2, i3⟩ | ⟨r, hr, i1, i2, i3⟩
            · have q := o2 r hr
              unfold lt2 endP at q
              simp only at q
              omega
            · rw [List.mem_singleton.mp hr] at i1 i2 i3
              simp only at i1 i2 i3
              omega
    · rw [if_neg (fun z => h2 z.1)]
      refine ⟨rfl, a.can, fun z => absurd z (by simp only; omega), fun _ => ⟨by simp only; omega, ?_, fun n z1 z2 => ?_, ?_⟩⟩
      · rw [hk1]; exact o2
      · rw [hk1]
        by_cases hn2 : n < k.2
        · exact seg n z1 hn2
        · have : n = k.2 := by omega
          rw [this, ← hk1]
          show least ≤ cover ws k
          omega
      · rw [hk1]; exact o4
/-- the first point -/
theorem At.start {ws : List WRow} {least : Int} (hl : 0 < least) (o : Wok ws) {k : Pt} (z : Int) (hn : ∀ x ∈ ws, le2 k (fstP x.1) ∧ le2 k (endP x.1)) :
    At ws least k (stepM (chg ws) least ⟨[], 0, z⟩ k) := by
  have tk : (0 : Int) + chg ws k = cover ws k := by rw [cover_first o hn]; omega
  have zero : ∀ p, lt2 p k → cover ws p = 0 := fun p hp => cover_none fun x hx ⟨i1, i2, i3⟩ => by
    obtain ⟨u, _⟩ := hn x hx
    unfold le2 fstP at u
    unfold lt2 at hp
    simp only at u
    omega
  unfold stepM
  simp only
  rw [tk]
  by_cases h2 : least ≤ cover ws k
  · rw [if_pos ⟨hl, h2⟩]
    refine ⟨rfl, .nil, fun z => absurd z (by simp only; omega), fun _ => ⟨Int.le_refl _, fun r hr => absurd hr (by simp), fun n z1 z2 => ?_, fun p hp => ?_⟩⟩
    · have : n = k.2 := by simp only at z1 z2; omega
      rw [this]; exact h2
    · rw [zero p hp]
      exact ⟨fun z => absurd z mem_nil, fun z => absurd z (by omega)⟩
  · rw [if_neg (fun z => h2 z.2), if_neg (fun z => absurd z.2 (by omega))]
    refine ⟨rfl, .nil, fun _ => ⟨fun r hr => absurd hr (by simp), fun p hp => ?_⟩, fun z => absurd z (by simp only; omega)⟩
    by_cases hpk : lt2 p k
    · rw [zero p hpk]
      exact ⟨fun z => absurd z mem_nil, fun z => absurd z (by omega)⟩
    · have e : p = k := by
        obtain ⟨p1, p2⟩ := p
        obtain ⟨k1, k2⟩ := k
        unfold le2 at hp
        unfold lt2 at hpk
        simp only at hp hpk
        have e1 : p1 = k1 := by omega
        have e2 : p2 = k2 := by omega
        rw [e1, e2]
      subst e
      exact ⟨fun z => absurd z mem_nil, fun z => absurd z h2⟩
theorem le2_of_not {p q : Pt} (h : ¬ lt2 p q) : le2 q p := by unfold lt2 at h; unfold le2; omega
theorem At.done {ws : List WRow} {least : Int} (hl : 0 < least) (o : Wok ws) {c : Pt} {s : St} (a : At ws least c s) (hn : ∀ x ∈ ws, le2 (fstP x.1) c ∧ le2 (endP x.1) c) :
    Canon s.out ∧ ∀ p, mem s.out p ↔ least ≤ cover ws p := by
  have far : ∀ p, le2 c p → cover ws p = 0 := fun p hp => cover_none fun x hx ⟨i1, i2, i3⟩ => by
    obtain ⟨_, v⟩ := hn x hx
    unfold le2 endP at v
    unfold le2 at hp
    simp only at v
    omega
  have ht : s.total < least := by
    rw [a.tot, far c (by unfold le2; omega)]; exact hl
  obtain ⟨c1, c2⟩ := a.cl ht
  refine ⟨a.can, fun p => ?_⟩
  by_cases hp : le2 p c
  · exact c2 p hp
  · have hp' : le2 c p := by unfold le2 at *; omega
    rw [far p hp']
    exact ⟨fun z => absurd z (not_mem_of_end c1 hp'), fun z => absurd z (by omega)⟩
theorem sweep_from {ws : List WRow} {least : Int} (hl : 0 < least) (o : Wok ws) : ∀ (ks : List Pt) (c : Pt) (s : St), At ws least c s → (c :: ks).Pairwise lt2 →
    (∀ x ∈ ws, (le2 (fstP x.1) c ∨ fstP x.1 ∈ ks) ∧ (le2 (endP x.1) c ∨ endP x.1 ∈ ks)) →
    Canon (ks.foldl (stepM (chg ws) least) s).out ∧ ∀ p, mem (ks.foldl (stepM (chg ws) least) s).out p ↔ least ≤ cover ws p
  | [], c, s, a, _, h => a.done hl o fun x hx => by
    obtain ⟨u, v⟩ := h x hx
    exact ⟨u.resolve_right (by simp), v.resolve_right (by simp)⟩
  | k :: ks, c, s, a, hp, h => by
    have h1 := (List.pairwise_cons.mp hp).1 k List.mem_cons_self
    have h2 := (List.pairwise_cons.mp hp).2
    have h3 := (List.pairwise_cons.mp h2).1
    have key : ∀ q : Pt, (le2 q c ∨ q ∈ k :: ks) → (le2 q c ∨ le2 k q) := fun q z => by
      rcases z with z | z
      · exact .inl z
      · rcases List.mem_cons.mp z with e | z
        · subst e; exact .inr (by unfold le2; omega)
        · have w := h3 q z
          exact .inr (by unfold lt2 at w; unfold le2; omega)
    refine sweep_from hl o ks k _ (a.step hl o h1 fun x hx => ⟨key _ (h x hx).1, key _ (h x hx).2⟩) h2 fun x hx => ?_
    have key2 : ∀ q : Pt, (le2 q c ∨ q ∈ k :: ks) → (le2 q k ∨ q ∈ ks) := fun q z => by
      rcases z with z | z
      · exact .inl (by unfold lt2 at h1; unfold le2 at *; omega)
      · rcases List.mem_cons.mp z with e | z
        · subst e; exact .inl (by unfold le2; omega)
        · exact .inr z
    exact ⟨key2 _ (h x hx).1, key2 _ (h x hx).2⟩
/-- THE SWEEP: the fewest rows of what weighs least or more -/
theorem sweep {ws : List WRow} {least : Int} (hl : 0 < least) (o : Wok ws) {ks : List Pt} (hp : ks.Pairwise lt2) (h : Has ks ws) (z : Int) :
    Canon (ks.foldl (stepM (chg ws) least) ⟨[], 0, z⟩).out ∧ ∀ p, mem (ks.foldl (stepM (chg ws) least) ⟨[], 0, z⟩).out p ↔ least ≤ cover ws p := by
  cases ks with
  | nil =>
    have e : ws = [] := by
      cases ws with
      | nil => rfl
      | cons x xs => exact absurd (h x List.mem_cons_self).1 (by simp)
    subst e
    refine ⟨.nil, fun p => ⟨fun z => absurd z mem_nil, fun z => absurd z ?_⟩⟩
    show ¬ least ≤ 0
    omega
  | cons k ks =>
    have h3 := (List.pairwise_cons.mp hp).1
    have key : ∀ q : Pt, q ∈ k :: ks → le2 k q := fun q z => by
      rcases List.mem_cons.mp z with e | z
      · subst e; unfold le2; omega
      · have w := h3 q z
        unfold lt2 at w; unfold le2; omega
    refine sweep_from hl o ks k _ (At.start hl o z fun x hx => ⟨key _ (h x hx).1, key _ (h x hx).2⟩) hp fun x hx => ?_
    have key2 : ∀ q : Pt, q ∈ k :: ks → (le2 q k ∨ q ∈ ks) := fun q z => by
      rcases List.mem_cons.mp z with e | z
      · subst e; exact .inl (by unfold le2; omega)
      · exact .inr z
    exact ⟨key2 _ (h x hx).1, key2 _ (h x hx).2⟩
end Rw
namespace Rw
open PySem L2
/-! ### kinds of data that never change -/
structure Kd (α : Type) where
  is : Hp → V → α → Prop
  mono : ∀ {F F' : Hp} {v : V} {x : α}, Same F F' → is F v x → is F' v x
def kInt : Kd Int := ⟨fun _ v x => v = .int x, fun _ h => h⟩
def kRow : Kd Row := ⟨fun F v r => ∃ t, v = .ref t ∧ F t = some (.tup [.int r.1, .int r.2.1, .int r.2.2]), fun s ⟨t, e, h⟩ => ⟨t, e, s _ _ h⟩⟩
def kPt : Kd Pt := ⟨fun F v p => ∃ t, v = .ref t ∧ F t = some (.tup [.int p.1, .int p.2]), fun s ⟨t, e, h⟩ => ⟨t, e, s _ _ h⟩⟩
def kW : Kd WRow := ⟨fun F v x => ∃ t u, v = .ref t ∧ F t = some (.tup [u, .int x.2]) ∧ kRow.is F u x.1, fun s ⟨t, u, e, h, k⟩ => ⟨t, u, e, s _ _ h, kRow.mono s k⟩⟩
theorem pr_mono {α : Type} {R S : V → α → Prop} (h : ∀ v x, R v x → S v x) : ∀ {vs : List V} {xs : List α}, Paired R vs xs → Paired S vs xs
  | _, _, .nil => .nil
  | _, _, .cons r t => .cons (h _ _ r) (pr_mono h t)
theorem pr_len {α : Type} {R : V → α → Prop} : ∀ {vs : List V} {xs : List α}, Paired R vs xs → vs.length = xs.length
  | _, _, .nil => rfl
  | _, _, .cons _ t => by rw [List.length_cons, List.length_cons, pr_len t]
theorem pr_get {α : Type} {R : V → α → Prop} : ∀ {vs : List V} {xs : List α} {i : Nat} {v : V}, Paired R vs xs → vs[i]? = some v → ∃ x, xs[i]? = some x ∧ R v x
  | _, _, _, _, .nil, e => by simp at e
  | _, _, 0, _, .cons r _, e => by simp at e; subst e; exact ⟨_, rfl, r⟩
  | _, _, i + 1, v, .cons _ t, e => by
    obtain ⟨x, h1, h2⟩ := pr_get (i := i) (v := v) t (by simpa using e)
    exact ⟨x, by simpa using h1, h2⟩
theorem pr_get' {α : Type} {R : V → α → Prop} : ∀ {vs : List V} {xs : List α} {i : Nat} {x : α}, Paired R vs xs → xs[i]? = some x → ∃ v, vs[i]? = some v ∧ R v x
  | _, _, _, _, .nil, e => by simp at e
  | _, _, 0, _, .cons r _, e => by simp at e; subst e; exact ⟨_, rfl, r⟩
  | _, _, i + 1, v, .cons _ t, e => by
    obtain ⟨x, h1, h2⟩ := pr_get' (i := i) t (by simpa using e)
    exact ⟨x, by simpa using h1, h2⟩
theorem pr_append {α : Type} {R : V → α → Prop} : ∀ {vs us : List V} {xs ys : List α}, Paired R vs xs → Paired R us ys → Paired R (vs ++ us) (xs ++ ys)
  | _, _, _, _, .nil, s => s
  | _, _, _, _, .cons r t, s => .cons r (pr_append t s)
theorem pr_snoc {α : Type} {R : V → α → Prop} {vs : List V} {xs : List α} {v : V} {x : α} (h : Paired R vs xs) (r : R v x) : Paired R (vs ++ [v]) (xs ++ [x]) := pr_append h (.cons r .nil)
theorem pr_take {α : Type} {R : V → α → Prop} : ∀ {vs : List V} {xs : List α} (n : Nat), Paired R vs xs → Paired R (vs.take n) (xs.take n)
  | _, _, 0, _ => .nil
  | _, _, _ + 1, .nil => .nil
  | _, _, n + 1, .cons r t => .cons r (pr_take n t)
theorem pr_drop {α : Type} {R : V → α → Prop} : ∀ {vs : List V} {xs : List α} (n : Nat), Paired R vs xs → Paired R (vs.drop n) (xs.drop n)
  | _, _, 0, r => r
  | _, _, _ + 1, .nil => .nil
  | _, _, n + 1, .cons _ t => pr_drop n t
theorem pr_map {α β : Type} {R : V → α → Prop} {S : V → β → Prop} {f : α → β} (h : ∀ v x, R v x → S v (f x)) : ∀ {vs : List V} {xs : List α}, Paired R vs xs → Paired S vs (xs.map f)
  | _, _, .nil => .nil
  | _, _, .cons r t => .cons (h _ _ r) (pr_map h t)
theorem pr_mem {α : Type} {R : V → α → Prop} {v : V} : ∀ {vs : List V} {xs : List α}, Paired R vs xs → v ∈ vs → ∃ x ∈ xs, R v x
  | _, _, .nil, h => by simp at h
  | _, _, .cons r t, h => by
    rcases List.mem_cons.mp h with e | h
    · subst e; exact ⟨_, List.mem_cons_self, r⟩
    · obtain ⟨x, hx, rx⟩ := pr_mem t h; exact ⟨x, List.mem_cons_of_mem _ hx, rx⟩
/-- lists of data -/
def kL {α : Type} (k : Kd α) : Kd (List α) := ⟨fun F v xs => ∃ a vs, v = .ref a ∧ F a = some (.lst vs) ∧ Paired (k.is F) vs xs, fun s ⟨a, vs, e, h, p⟩ => ⟨a, vs, e, s _ _ h, pr_mono (fun _ _ r => k.mono s r) p⟩⟩
/-! ### frames: F the part that never changes, H the whole; M the places that the step may change -/
structure Ext (M : Addr → Prop) (F H F' H' : Hp) : Prop where
  ff : Same F F'
  fh : Same F' H'
  hh : ∀ b o, H b = some o → ¬ M b → H' b = some o
  tr : ∀ b, H b ≠ none → H' b ≠ none
  new : ∀ b, H b ≠ none → F' b = F b
abbrev M0 : Addr → Prop := fun _ => False
section
variable {M M' : Addr → Prop} {F H F' H' F'' H'' : Hp} {p : Addr} {o : HO}
theorem Ext.refl (s : Same F H) : Ext M F H F H := ⟨Same.refl F, s, fun _ _ h _ => h, fun _ h => h, fun _ _ => rfl⟩
theorem Ext.trans (a : Ext M F H F' H') (b : Ext M F' H' F'' H'') : Ext M F H F'' H'' :=
  ⟨a.ff.trans b.ff, b.fh, fun c u h m => b.hh c u (a.hh c u h m) m, fun c h => b.tr c (a.tr c h), fun c h => (b.new c (a.tr c h)).trans (a.new c h)⟩
theorem Ext.mono (a : Ext M F H F' H') (h : ∀ b, M b → M' b) : Ext M' F H F' H' := ⟨a.ff, a.fh, fun c u e m => a.hh c u e fun z => m (h c z), a.tr, a.new⟩
theorem Ext.up (a : Ext M0 F H F' H') : Ext M F H F' H' := a.mono fun _ z => z.elim
theorem Ext.same (a : Ext M0 F H F' H') : Same H H' := fun b o h => a.hh b o h fun z => z
theorem Ext.free (a : Ext M F H F' H') (h : H' p = none) : H p = none := by
  cases q : H p with
  | none => rfl
  | some u => exact absurd h (a.tr p (by rw [q]; simp))
theorem Ext.ffree (a : Ext M F H F' H') (h : H' p = none) : F' p = none := a.fh.free h
/-- a new thing that never changes -/
theorem Ext.lay (a : Ext M F H F' H') (h : H' p = none) : Ext M F H (upd F' p o) (upd H' p o) := by
  have fp := a.ffree h
  have hp := a.free h
  refine ⟨fun b u e => ?_, fun b u e => ?_, fun b u e m => ?_, fun b e => ?_, fun b e => ?_⟩
  · rw [upd_ne (ne_of_none (a.ff b u e) fp)]; exact a.ff b u e
  · by_cases hb : b = p
    · subst hb; rw [upd_same] at e ⊢; exact e
    · rw [upd_ne hb] at e ⊢; exact a.fh b u e
  · rw [upd_ne (ne_of_none (a.hh b u e m) h)]; exact a.hh b u e m
  · by_cases hb : b = p
    · subst hb; exact absurd hp e
    · rw [upd_ne hb]; exact a.tr b e
  · by_cases hb : b = p
    · subst hb; exact absurd hp e
    · rw [upd_ne hb]; exact a.new b e
/-- a new thing outside of F, or a change of one -/
theorem Ext.put (a : Ext M F H F' H') (h : H p = none ∨ M p) (f : F' p = none) : Ext M F H F' (upd H' p o) := by
  refine ⟨a.ff, fun b u e => ?_, fun b u e m => ?_, fun b e => ?_, a.new⟩
  · rw [upd_ne (ne_of_none e f)]; exact a.fh b u e
  · have hb : b ≠ p := fun z => by
      subst z
      rcases h with h | h
      · rw [h] at e; cases e
      · exact m h
    rw [upd_ne hb]; exact a.hh b u e m
  · by_cases hb : b = p
    · subst hb; rw [upd_same]; simp
    · rw [upd_ne hb]; exact a.tr b e
theorem Ext.tmp (a : Ext M F H F' H') (h : H' p = none) : Ext M F H F' (upd H' p o) := a.put (.inl (a.free h)) (a.ffree h)
/-- what was made within, from now on never changes -/
theorem Ext.frz (a : Ext M F H F' H') (h : H p = none) (f : F' p = none) (e : H' p = some o) : Ext M F H (upd F' p o) H' := by
  refine ⟨fun b u z => ?_, fun b u z => ?_, a.hh, a.tr, fun b z => ?_⟩
  · rw [upd_ne (ne_of_none (a.ff b u z) f)]; exact a.ff b u z
  · by_cases hb : b = p
    · subst hb; rw [upd_same] at z; cases z; exact e
    · rw [upd_ne hb] at z; exact a.fh b u z
  · have hb : b ≠ p := fun q => by subst q; exact z h
    rw [upd_ne hb]; exact a.new b z
end
theorem same_upd {H : Hp} {p : Addr} {o : HO} (h : H p = none) : Same H (upd H p o) := fun b x e => by
  rw [upd_ne (ne_of_none e h)]
  exact e
/-- a promise: a new list of such data, of which φ holds; the list itself may be changed behind -/
def RetL {α : Type} (M : Addr → Prop) (F H : Hp) (k : Kd α) (φ : List α → Prop) (Q : VK) : Prop :=
  ∀ (F' H' : Hp) (a : Addr) (vs : List V) (xs : List α), Ext M F H F' H' → H a = none → F' a = none → H' a = some (.lst vs) → Paired (k.is F') vs xs → φ xs → Q (.ref a) H'
/-- a promise: this value, nothing changed -/
def RetV (F H : Hp) (v : V) (Q : VK) : Prop := ∀ (F' H' : Hp), Ext M0 F H F' H' → Q v H'
theorem kL_new {α : Type} {k : Kd α} {F' : Hp} {a : Addr} {vs : List V} {xs : List α} (f : F' a = none) (h : Paired (k.is F') vs xs) : (kL k).is (upd F' a (.lst vs)) (.ref a) xs :=
  ⟨a, vs, rfl, upd_same, pr_mono (fun _ _ r => k.mono (same_upd f) r) h⟩
/-! ### as data of the library -/
def dRow (r : Row) : PyData := .tuple [.int r.1, .int r.2.1, .int r.2.2]
def dPt (p : Pt) : PyData := .tuple [.int p.1, .int p.2]
structure Kd.Enc {α : Type} (k : Kd α) (d : α → PyData) : Prop where
  dp : ∀ {K : PySem.W.Frag} {F H : Hp} {v : V} {x : α}, Same F H → k.is F v x → Dp K H v (d x)
theorem dpInts {K : PySem.W.Frag} {H : Hp} : ∀ ns : List Int, DpAll K H (ns.map V.int) (ns.map PyData.int)
  | [] => .nil
  | n :: ns => .cons (.int n) (dpInts ns)
theorem enc_row : kRow.Enc dRow := ⟨fun s ⟨t, e, h⟩ => by subst e; exact .tup (SqT.of (s _ _ h)) (dpInts [_, _, _])⟩
theorem enc_pt : kPt.Enc dPt := ⟨fun s ⟨t, e, h⟩ => by subst e; exact .tup (SqT.of (s _ _ h)) (dpInts [_, _])⟩
theorem dpAll {α : Type} {k : Kd α} {d : α → PyData} (E : k.Enc d) {K : PySem.W.Frag} {F H : Hp} (s : Same F H) : ∀ {vs : List V} {xs : List α}, Paired (k.is F) vs xs → DpAll K H vs (xs.map d)
  | _, _, .nil => .nil
  | _, _, .cons r t => .cons (E.dp s r) (dpAll E s t)
def dL {α : Type} (d : α → PyData) (xs : List α) : PyData := .list (xs.map d)
theorem enc_L {α : Type} {k : Kd α} {d : α → PyData} (E : k.Enc d) : (kL k).Enc (dL d) := ⟨fun s ⟨a, vs, e, h, p⟩ => by subst e; exact .lst (SqL.of (s _ _ h)) (dpAll E s p)⟩
end Rw
namespace Rw
open PySem PySem.Spec PyProof.Rows L2
/-! ### sorted(d) of a dict whose keys are pairs of ints, any length -/
section
variable {prog : Program} {w : World} {A : Around} {E : Value → Shared → Prop} {s : Shared} {T : String} {r d : Addr} {n : Nat} {P : Nat → Value → Prop} {OK : Heap → Prop}
theorem sorted_src {vs : List Value} {k : Value → Int × Int} {Q : Value → Shared → Prop} (K : PySem.W.KdlSrc prog w T r d n P OK) (hh : A.handled = none) (hok : OK s.heap) (hn : n ≤ sizeLine)
    (hv : ∀ acc, ItemsOf P acc n → acc.toList = vs) (hp : ∀ v ∈ vs, Srt.IsPair s.heap v (k v).1 (k v).2)
    (h : ∀ (h1 h' : Heap) (tk : Nat) (e : Addr) (out : List Value), SrtO.Srtd (fun v u => SrtO.lexB (k v) (k u)) out → SrtO.Stb (fun v u => SrtO.lexB (k v) (k u)) out vs → (∀ b o, s.heap.get? b = some o → h1.get? b = some o) → (∀ b o, h1.get? b = some o → h'.get? b = some o) → h1.objs.size ≤ e →
      (∃ n, h'.get? e = some (seqObj "list" out.toArray n)) → Q (.ref e) { s with heap := h', toks := tk }) :
    wpAny (model prog w) A (call (.builtin "sorted") [.ref r]) Q E s := by
  refine Calls.call_function_entry kind_sorted plain_sorted entry_sorted (args_sorted1 _) ?_
  unfold Builtin.«sorted»
  refine wpAny_bind (m := checkCount "sorted" 1 1 _) (wpAny_pure ?_)
  refine wpAny_bind (PySem.W.kdu_collect (A := A.in1) K hh hok hn fun h' tk acc hk hacc => ?_)
  have e := hv acc hacc
  have hz : vs.length ≤ sizeLine := by rw [← e, Array.length_toList, hacc.1]; exact hn
  rw [e]
  refine wpAny_bind (wpAny_newList ?_ hz)
  have hoL : (h'.push (seqObj "list" vs.toArray 0)).get? h'.objs.size = some (seqObj "list" vs.toArray 0) := Heap.get?_push_size _ rfl
  have keep : ∀ b o, s.heap.get? b = some o → b ≠ h'.objs.size ∧ (h'.push (seqObj "list" vs.toArray 0)).get? b = some o := fun b o q =>
    ⟨Nat.ne_of_lt (Heap.lt_size (hk b o q)), Heap.get?_push_of_some _ (hk b o q)⟩
  show wpAny _ _ _ _ _ { s with heap := h'.push (seqObj "list" vs.toArray 0), toks := tk }
  refine wpAny_bind (wpAny_holding (wpAny_call_entry slot_list_sort ⟨_, hoL, rfl⟩ entry_list_sort
    (SrtO.list_sort_ord (s := { s with heap := h'.push (seqObj "list" vs.toArray 0), toks := tk }) (SrtO.swo_lex k) hoL hz (fun h2 => ?_) fun out hs hb => ⟨_, rfl, ?_⟩) (args_list_sort _)))
  · refine SrtO.pairs_sortableO (s := { s with heap := h'.push (seqObj "list" vs.toArray 0), toks := tk }) (by omega) (fun v hm => (hp v hm).keeps fun b o e _ => (keep b o e).2) fun o e' => ?_
    have e2 : some o = some (seqObj "list" vs.toArray 0) := e'.symm.trans hoL
    cases e2
    intro c
    exact absurd (Value.type.inj c) (by decide)
  · refine wpAny_pure ⟨_, rfl, h h' _ tk h'.objs.size out hs hb hk (fun b o q => ?_) (Nat.le_refl _) (sortedHeap_at hoL)⟩
    have hb : b < h'.objs.size := Heap.lt_size q
    rw [sortedHeap_old (Nat.ne_of_lt hb) (by rw [size_push']; exact Nat.lt_succ_of_lt hb)]
    exact Heap.get?_push_of_some _ q
end
/-- the key of a point -/
def kk (p : Pt) : List Key := [.inl p.1, .inl p.2]
theorem kk_inj {p q : Pt} (h : kk p = kk q) : p = q := by
  unfold kk at h
  have h1 := List.cons.inj h
  have h2 := List.cons.inj h1.2
  obtain ⟨p1, p2⟩ := p
  obtain ⟨q1, q2⟩ := q
  have e1 : p1 = q1 := Sum.inl.inj h1.1
  have e2 : p2 = q2 := Sum.inl.inj h2.1
  rw [e1, e2]
section
variable {X : Cx}
/-- the pair of ints that a value is, by the abstract heap -/
noncomputable def ptOf (H : Hp) (v : V) : Pt := open Classical in if h : ∃ p : Pt, kPt.is H v p then h.choose else (0, 0)
theorem kPt_inj {H : Hp} {v : V} {p q : Pt} (a : kPt.is H v p) (b : kPt.is H v q) : p = q := by
  obtain ⟨t, e, h⟩ := a
  obtain ⟨u, e', h'⟩ := b
  subst e
  cases e'
  rw [h] at h'
  have z := HO.tup.inj (Option.some.inj h')
  have z1 := List.cons.inj z
  have z2 := List.cons.inj z1.2
  obtain ⟨p1, p2⟩ := p
  obtain ⟨q1, q2⟩ := q
  have e1 : p1 = q1 := V.int.inj z1.1
  have e2 : p2 = q2 := V.int.inj z2.1
  rw [e1, e2]
theorem ptOf_eq {H : Hp} {v : V} {p : Pt} (h : kPt.is H v p) : ptOf H v = p := by
  have e : ∃ p : Pt, kPt.is H v p := ⟨p, h⟩
  unfold ptOf
  rw [dif_pos e]
  exact kPt_inj e.choose_spec h
theorem isPair_of {pins : List (Addr × Obj)} {σ : L2.St} {H : Hp} {s : Shared} (I : Inv X pins σ H s) {t : Addr} {p : Pt} (h : kPt.is H (.ref t) p) : Srt.IsPair s.heap (.ref t) p.1 p.2 := by
  obtain ⟨u, e, ht⟩ := h
  cases e
  obtain ⟨_, its2, r2, o, ho, hc, n, hd⟩ := I.hok _ _ ht
  obtain ⟨u1, u2, rfl, ri, rj⟩ := vals2 r2
  obtain ⟨t1, rfl⟩ := ri
  obtain ⟨t2, rfl⟩ := rj
  exact ⟨_, o, t1, t2, n, rfl, ho, hc, hd⟩
theorem keys_pts {H : Hp} : ∀ {kvs : List (List Key × V)} {bs : List Addr} {ps : List Pt}, IsKeys H kvs bs → kvs.map (·.1) = ps.map kk → Paired (kPt.is H) (bs.map V.ref) ps
  | [], _, [], .nil, _ => .nil
  | [], _, _ :: _, .nil, e => by simp at e
  | _ :: _, _, [], _, e => by simp at e
  | kv :: kvs, _, p :: ps, .cons (b := b) r t, e => by
    have e1 := List.cons.inj e
    refine .cons ⟨b, rfl, ?_⟩ (keys_pts t e1.2)
    have : kv.1 = kk p := e1.1
    rw [this] at r
    exact r
theorem pr_perm {α : Type} {R : V → α → Prop} {f : V → α} (hf : ∀ v x, R v x → f v = x) : ∀ {vs : List V} {xs : List α}, Paired R vs xs → xs = vs.map f
  | _, _, .nil => rfl
  | _, _, .cons r t => by rw [List.map_cons, ← pr_perm hf t, hf _ _ r]
theorem pr_of_all {α : Type} {R : V → α → Prop} {f : V → α} : ∀ {vs : List V}, (∀ v ∈ vs, R v (f v)) → Paired R vs (vs.map f)
  | [], _ => .nil
  | v :: vs, h => .cons (h v List.mem_cons_self) (pr_of_all fun u hu => h u (List.mem_cons_of_mem _ hu))
/-- what behind a sort of pairs stands: the points, in order -/
theorem sorted_pts {H : Hp} {vs ys : List V} {ps : List Pt} (h : Paired (kPt.is H) vs ps) (nd : ps.Nodup) (hs : SrtO.Srtd (ltP (ptOf H)) ys) (hb : SrtO.Stb (ltP (ptOf H)) ys vs) :
    ∃ qs : List Pt, Paired (kPt.is H) ys qs ∧ qs.Perm ps ∧ qs.Pairwise lt2 := by
  have e : ps = vs.map (ptOf H) := pr_perm (fun v x r => ptOf_eq r) h
  have all : ∀ v ∈ ys, kPt.is H v (ptOf H v) := fun v hv => by
    obtain ⟨x, _, r⟩ := pr_mem h (hb.perm.mem_iff.mp hv)
    rw [ptOf_eq r]
    exact r
  have perm : (ys.map (ptOf H)).Perm ps := by rw [e]; exact hb.perm.map _
  refine ⟨ys.map (ptOf H), pr_of_all all, perm, ?_⟩
  have nd' : (ys.map (ptOf H)).Nodup := perm.nodup_iff.mpr nd
  rw [List.pairwise_map]
  have nd2 : ys.Pairwise fun a b => ptOf H a ≠ ptOf H b := List.pairwise_map.mp nd'
  refine (List.Pairwise.and hs nd2).imp fun {a b} z => ?_
  have a1 := SrtO.lexB_no.mp z.1
  have a2 := z.2
  unfold lt2
  have a3 : ¬ ((ptOf H a).1 = (ptOf H b).1 ∧ (ptOf H a).2 = (ptOf H b).2) := fun q => a2 (Prod.ext q.1 q.2)
  omega
def rSortedDT : List V → Hp → VK → Prop := fun vs H Q => ∃ (d : Addr) (kvs : List (List Key × V)) (ps : List Pt), vs = [V.ref d] ∧ H d = some (.dT kvs) ∧ kvs.map (·.1) = ps.map kk ∧ ps.Nodup ∧
  ∀ (ys : List V) (qs : List Pt) (p : Addr), Paired (kPt.is H) ys qs → qs.Perm ps → qs.Pairwise lt2 → H p = none → Q (.ref p) (upd H p (.lst ys))
theorem cr_sortedDT (hc : X.calm = true) : CallR X (.builtin "sorted") rSortedDT := by
  intro pins s σ H xs us Q I r h
  obtain ⟨d, kvs, ps, rfl, hd, hps, hnd, q⟩ := h
  obtain ⟨u, rfl, rx⟩ := r.one
  cases rx
  obtain ⟨z, hs, ks, pr, o, es, ep, ho, hx, hdt, he, hn⟩ := (show ObjOk X.prog X.w H s.heap d (.dT kvs) from I.hok d _ hd)
  have l1 : es.size = ks.length := size_of_entries he
  have l2 : kvs.length = ks.length := Paired.length pr
  have hpp : Paired (kPt.is H) ((ks.map fun x => x.2.1).map V.ref) ps := keys_pts (isKeys_of pr) hps
  refine sorted_src (vs := (ks.map fun x => x.2.1).map Value.ref) (k := fun u => ptOf H (backV u)) (kdl_raw hs hx hdt) (I.ok.hd hc) ho (by omega) (fun acc' it => ?_) (fun v hv => ?_) fun h1 h' tk e out hs1 hb1 k1 k2 hle hob => ?_
  · have hl : acc'.toList.length = ks.length := by rw [Array.length_toList, it.1]; exact l1
    rw [List.map_map]
    apply List.ext_getElem?
    intro j
    rw [List.getElem?_map]
    cases hj : acc'.toList[j]? with
    | none =>
      have h1 := List.getElem?_eq_none_iff.mp hj
      rw [List.getElem?_eq_none (by omega)]
      all_goals rfl
    | some v =>
      obtain ⟨en, hen, hv⟩ := it.2 j v (by rw [← Array.getElem?_toList]; exact hj)
      have qe := entry_at he j
      rw [hen] at qe
      cases hb : ks[j]? with
      | none =>
        rw [hb] at qe
        exact nomatch (show some en = none from qe)
      | some b =>
        rw [hb] at qe
        have e2 : en = entryOfKey (tupleKind (mixKind X.prog X.w)) b := Option.some.inj qe
        rw [hv, e2]
        all_goals rfl
  · obtain ⟨t, ht, rfl⟩ := List.mem_map.mp hv
    obtain ⟨x, _, rx⟩ := pr_mem hpp (List.mem_map.mpr ⟨t, ht, rfl⟩)
    have : ptOf H (backV (Value.ref t)) = x := ptOf_eq rx
    show Srt.IsPair _ _ (ptOf H (backV (Value.ref t))).1 (ptOf H (backV (Value.ref t))).2
    rw [this]
    exact isPair_of I rx
  · have h3 : ∀ u ∈ out, ∃ a, u = Value.ref a := fun u hu => by
      have := hb1.perm.mem_iff.mp hu
      obtain ⟨t, _, rfl⟩ := List.mem_map.mp this
      exact ⟨t, rfl⟩
    have hback : ((ks.map fun x => x.2.1).map Value.ref).map backV = (ks.map fun x => x.2.1).map V.ref := by
      rw [List.map_map]
      exact List.map_congr_left fun _ _ => rfl
    have hb2 : SrtO.Stb (ltP (ptOf H)) (out.map backV) ((ks.map fun x => x.2.1).map V.ref) := by
      rw [← hback]
      exact SrtO.Stb.map (ltP_swo (ptOf H)) backV hb1
    obtain ⟨qs, a1, a2, a3⟩ := sorted_pts hpp hnd (SrtO.srtd_map hs1) hb2
    obtain ⟨n, hob⟩ := hob
    have I1 : Inv X pins σ H { s with heap := h1 } := I.kept (t' := s.toks) k1
    refine ⟨.ref e, upd H e (.lst (out.map backV)), I1.laid (t' := tk) k2 hle ⟨?_, out, n, vals_back h3, hob⟩, rfl, q _ qs e a1 a2 a3 (I1.hok.fresh hle)⟩
    rw [hb2.len, List.length_map, List.length_map, ← l2]
    exact z
end
end Rw
namespace Rw
open PySem L2
def topS (i : Nat) : Stmt := PySem.Challenge.pw_doneranges_k02_sets.main.body.getD i (.Pass ⟨0, 0, 0, 0⟩)
abbrev s_is_number : Stmt := topS 8
theorem sc_is_number : FnScope ["value", "low", "high"] ["value", "low", "high"] (defScope s_is_number) := ⟨rfl, rfl, rfl, by decide +kernel, rfl, by decide +kernel, by decide +kernel⟩
abbrev s_is_house : Stmt := topS 9
theorem sc_is_house : FnScope ["value"] ["value"] (defScope s_is_house) := ⟨rfl, rfl, rfl, by decide +kernel, rfl, by decide +kernel, by decide +kernel⟩
abbrev s_is_row : Stmt := topS 10
theorem sc_is_row : FnScope ["row", "house", "first", "last"] ["row"] (defScope s_is_row) := ⟨rfl, rfl, rfl, by decide +kernel, rfl, by decide +kernel, by decide +kernel⟩
abbrev s_first_wrong : Stmt := topS 11
theorem sc_first_wrong : FnScope ["rows", "at", "row"] ["rows"] (defScope s_first_wrong) := ⟨rfl, rfl, rfl, by decide +kernel, rfl, by decide +kernel, by decide +kernel⟩
abbrev s_check_rows : Stmt := topS 12
theorem sc_check_rows : FnScope ["rows", "at"] ["rows"] (defScope s_check_rows) := ⟨rfl, rfl, rfl, by decide +kernel, rfl, by decide +kernel, by decide +kernel⟩
abbrev s_check_house : Stmt := topS 13
theorem sc_check_house : FnScope ["house"] ["house"] (defScope s_check_house) := ⟨rfl, rfl, rfl, by decide +kernel, rfl, by decide +kernel, by decide +kernel⟩
abbrev s_is_in : Stmt := topS 14
theorem sc_is_in : FnScope ["rows", "house", "number", "maker", "first", "last"] ["rows", "house", "number"] (defScope s_is_in) := ⟨rfl, rfl, rfl, by decide +kernel, rfl, by decide +kernel, by decide +kernel⟩
abbrev s_changes_of : Stmt := topS 15
theorem sc_changes_of : FnScope ["weighed", "changes", "house", "first", "last", "weight"] ["weighed"] (defScope s_changes_of) := ⟨rfl, rfl, rfl, by decide +kernel, rfl, by decide +kernel, by decide +kernel⟩
abbrev s_reaching : Stmt := topS 16
theorem sc_reaching : FnScope ["weighed", "least", "changes", "out", "total", "start", "house", "number", "ahead"] ["weighed", "least"] (defScope s_reaching) := ⟨rfl, rfl, rfl, by decide +kernel, rfl, by decide +kernel, by decide +kernel⟩
abbrev s_fewest : Stmt := topS 17
theorem sc_fewest : FnScope ["rows", "row"] ["rows"] (defScope s_fewest) := ⟨rfl, rfl, rfl, by decide +kernel, rfl, by decide +kernel, by decide +kernel⟩
abbrev s_held_by_many : Stmt := topS 18
theorem sc_held_by_many : FnScope ["sets", "least", "rows", "row"] ["sets", "least"] (defScope s_held_by_many) := ⟨rfl, rfl, rfl, by decide +kernel, rfl, by decide +kernel, by decide +kernel⟩
abbrev s_without : Stmt := topS 19
theorem sc_without : FnScope ["one", "other", "kept", "barred", "row"] ["one", "other"] (defScope s_without) := ⟨rfl, rfl, rfl, by decide +kernel, rfl, by decide +kernel, by decide +kernel⟩
abbrev s_whole_in : Stmt := topS 20
theorem sc_whole_in : FnScope ["rows", "house", "maker", "first", "last"] ["rows", "house"] (defScope s_whole_in) := ⟨rfl, rfl, rfl, by decide +kernel, rfl, by decide +kernel, by decide +kernel⟩
abbrev s_plain : Stmt := topS 22
theorem sc_plain : FnScope ["rows"] ["rows"] (defScope s_plain) := ⟨rfl, rfl, rfl, by decide +kernel, rfl, by decide +kernel, by decide +kernel⟩
abbrev s_joined : Stmt := topS 23
theorem sc_joined : FnScope ["one", "other"] ["one", "other"] (defScope s_joined) := ⟨rfl, rfl, rfl, by decide +kernel, rfl, by decide +kernel, by decide +kernel⟩
abbrev s_common : Stmt := topS 24
theorem sc_common : FnScope ["one", "other"] ["one", "other"] (defScope s_common) := ⟨rfl, rfl, rfl, by decide +kernel, rfl, by decide +kernel, by decide +kernel⟩
abbrev s_less : Stmt := topS 25
theorem sc_less : FnScope ["one", "other"] ["one", "other"] (defScope s_less) := ⟨rfl, rfl, rfl, by decide +kernel, rfl, by decide +kernel, by decide +kernel⟩
abbrev s_gaps : Stmt := topS 26
theorem sc_gaps : FnScope ["rows", "house", "_", "last"] ["rows"] (defScope s_gaps) := ⟨rfl, rfl, rfl, by decide +kernel, rfl, by decide +kernel, by decide +kernel⟩
abbrev s_within : Stmt := topS 27
theorem sc_within : FnScope ["one", "other"] ["one", "other"] (defScope s_within) := ⟨rfl, rfl, rfl, by decide +kernel, rfl, by decide +kernel, by decide +kernel⟩
abbrev s_has : Stmt := topS 28
theorem sc_has : FnScope ["rows", "house", "number"] ["rows", "house", "number"] (defScope s_has) := ⟨rfl, rfl, rfl, by decide +kernel, rfl, by decide +kernel, by decide +kernel⟩
abbrev s_amount : Stmt := topS 29
theorem sc_amount : FnScope ["rows", "_", "first", "last"] ["rows"] (defScope s_amount) := ⟨rfl, rfl, rfl, by decide +kernel, rfl, by decide +kernel, by decide +kernel⟩
abbrev s_whole_to : Stmt := topS 30
theorem sc_whole_to : FnScope ["rows", "house"] ["rows", "house"] (defScope s_whole_to) := ⟨rfl, rfl, rfl, by decide +kernel, rfl, by decide +kernel, by decide +kernel⟩
abbrev s_law_dice : Stmt := topS 32
theorem sc_law_dice : FnScope ["_law_script", "_law_mixed", "_law_cell"] ["_law_script"] (defScope s_law_dice) := ⟨rfl, rfl, rfl, by decide +kernel, rfl, by decide +kernel, by decide +kernel⟩
abbrev s_law_next : Stmt := topS 33
theorem sc_law_next : FnScope ["_law_dice_here", "_law_many", "_law_found", "_law_cell"] ["_law_dice_here", "_law_many"] (defScope s_law_next) := ⟨rfl, rfl, rfl, by decide +kernel, rfl, by decide +kernel, by decide +kernel⟩
abbrev s_law_like : Stmt := topS 34
theorem sc_law_like : FnScope ["_law_found", "_law_due", "_law_k"] ["_law_found", "_law_due"] (defScope s_law_like) := ⟨rfl, rfl, rfl, by decide +kernel, rfl, by decide +kernel, by decide +kernel⟩
abbrev s_law_rows : Stmt := topS 35
theorem sc_law_rows : FnScope ["_law_d", "_law_houses", "_law_far", "_law_most", "_law_found", "_law_k", "_law_first", "_law_wide"] ["_law_d", "_law_houses", "_law_far", "_law_most"] (defScope s_law_rows) := ⟨rfl, rfl, rfl, by decide +kernel, rfl, by decide +kernel, by decide +kernel⟩
abbrev s_law_moved : Stmt := topS 36
theorem sc_law_moved : FnScope ["_law_rows_here", "_law_by", "_law_house", "_law_first", "_law_last"] ["_law_rows_here", "_law_by"] (defScope s_law_moved) := ⟨rfl, rfl, rfl, by decide +kernel, rfl, by decide +kernel, by decide +kernel⟩
abbrev s_law_names : Stmt := topS 37
theorem sc_law_names : FnScope ["_law_rows_here", "_law_found", "_law_house", "_law_first", "_law_last", "_law_number"] ["_law_rows_here"] (defScope s_law_names) := ⟨rfl, rfl, rfl, by decide +kernel, rfl, by decide +kernel, by decide +kernel⟩
abbrev s_law_told_rows : Stmt := topS 38
theorem sc_law_told_rows : FnScope ["_law_names_here", "_law_found", "_law_house", "_law_number"] ["_law_names_here"] (defScope s_law_told_rows) := ⟨rfl, rfl, rfl, by decide +kernel, rfl, by decide +kernel, by decide +kernel⟩
abbrev s_law_gaps : Stmt := topS 39
theorem sc_law_gaps : FnScope ["_law_names_here", "_law_found", "_law_known", "_law_house", "_law_last", "_law_name", "_law_other", "_law_number"] ["_law_names_here"] (defScope s_law_gaps) := ⟨rfl, rfl, rfl, by decide +kernel, rfl, by decide +kernel, by decide +kernel⟩
abbrev s_law_reach : Stmt := topS 40
theorem sc_law_reach : FnScope ["_law_names_here", "_law_house", "_law_number"] ["_law_names_here", "_law_house"] (defScope s_law_reach) := ⟨rfl, rfl, rfl, by decide +kernel, rfl, by decide +kernel, by decide +kernel⟩
abbrev s_law_case : Stmt := topS 41
theorem sc_law_case : FnScope ["_law_d", "_law_houses", "_law_far", "_law_most"] ["_law_d"] (defScope s_law_case) := ⟨rfl, rfl, rfl, by decide +kernel, rfl, by decide +kernel, by decide +kernel⟩
abbrev s_law : Stmt := topS 42
theorem sc_law : FnScope ["_law_script", "_law_d", "_law_cases", "_law_by", "_law_one", "_law_other", "_law_mine", "_law_theirs", "_law_known", "_law_both", "_law_alone", "_law_due", "_law_more", "_law_handed", "_law_found", "_law_rows_here", "_law_told", "_law_house", "_law_number", "_law_name", "_law_some"] ["_law_script"] (defScope s_law) := ⟨rfl, rfl, rfl, by decide +kernel, rfl, by decide +kernel, by decide +kernel⟩
end Rw
namespace Rw
open PySem L2
section
variable (P : Program) (w : World) (K : PySem.W.Frag) (mg : Str → Option Value) (base : Heap)
/-- a def that may be called by its name -/
def Cal (k : Nat) (x : Str) (ps : List Str) (sp : Sp) : Prop :=
  ∃ (f : Addr) (fd : FuncData), FnOk P w K mg base CX0 k f fd ps sp ∧ mg x = some (.ref f) ∧ PySem.W.keepIn K (.ref f) = true ∧ Binds K fd ps []
end
theorem tyx_int {K : PySem.W.Frag} {H : Hp} (i : Int) : TyX K H (.int i) (.type "int") := .base (.int i)
theorem tyx_tup {K : PySem.W.Frag} {H : Hp} {a : Addr} {xs : List V} (h : H a = some (.tup xs)) : TyX K H (.ref a) (.type "tuple") := .base (.tup h)
theorem tyx_lst {K : PySem.W.Frag} {H : Hp} {a : Addr} {xs : List V} (h : H a = some (.lst xs)) : TyX K H (.ref a) (.type "list") := .base (.lst h)
theorem kit_ii {K : PySem.W.Frag} : PySem.W.kitOne K (.type "int") (.type "int") = some true := kit_ty (by decide +kernel)
theorem kit_ib {K : PySem.W.Frag} : PySem.W.kitOne K (.type "int") (.type "bool") = some false := kit_ty (by decide +kernel)
theorem kit_tt {K : PySem.W.Frag} : PySem.W.kitOne K (.type "tuple") (.type "tuple") = some true := kit_ty (by decide +kernel)
theorem bt_int : bootBuiltins "int" = some (.type "int") := by decide +kernel
theorem bt_bool : bootBuiltins "bool" = some (.type "bool") := by decide +kernel
theorem bt_tuple : bootBuiltins "tuple" = some (.type "tuple") := by decide +kernel
theorem pe_bty {X : Cx} {x : Str} {n : String} {pos : Pos} (hg : Gl X x) (hm : X.mg x = none) (hv : bootBuiltins x = some (.type n)) (hn : x ≠ "__name__" := by decide) (hd : (x == ("__debug__" : Str)) = false := by decide) : PE X (.Name x pos) (tC (.ty n)) :=
  pe_bltn (v := .ty n) (u := .type n) hg hm hv rfl hn hd
end Rw
namespace Rw
open PySem L2
/-! ### the refusals' readers, of what is right -/
def LIM : Int := 1000000000000
def spIsNumber : Sp := fun vs H Q _ => ∃ v lo hi : Int, vs = [.int v, .int lo, .int hi] ∧ Q (.bl (decide (lo ≤ v ∧ v ≤ hi))) H
def spIsHouse : Sp := fun vs H Q _ => ∃ v : Int, vs = [.int v] ∧ Q (.bl (decide (0 ≤ v ∧ v ≤ 7))) H
/-- a row as it may be handed in -/
def RowOk (r : Row) : Prop := 0 ≤ r.1 ∧ r.1 ≤ 7 ∧ 1 ≤ r.2.1 ∧ r.2.1 ≤ r.2.2 ∧ r.2.2 ≤ LIM
def spIsRow : Sp := fun vs H Q _ => ∃ (v : V) (r : Row), vs = [v] ∧ kRow.is H v r ∧ RowOk r ∧ Q (.bl true) H
def RowsOk (rs : List Row) : Prop := rs.length ≤ 200 ∧ ∀ r ∈ rs, RowOk r
def spFirstWrong : Sp := fun vs H Q _ => ∃ (v : V) (rs : List Row), vs = [v] ∧ (kL kRow).is H v rs ∧ RowsOk rs ∧ ∀ H', Same H H' → Q .non H'
structure TxA (mg : Str → Option Value) : Prop where
  isinst : mg "isinstance" = none
  int : mg "int" = none
  bool : mg "bool" = none
  tuple : mg "tuple" = none
  len : mg "len" = none
  enum : mg "enumerate" = none
  last : ∃ t, mg "LAST_HOUSE" = some (.int 7 t)
  lim : ∃ t, mg "LIMIT" = some (.int LIM t)
  most : ∃ t, mg "MOST_ROWS" = some (.int 200 t)
section
variable {P : Program} {w : World} {K : PySem.W.Frag} {mg : Str → Option Value} {base : Heap}
theorem ok_is_number {f : Addr} {fd : FuncData} (F : Fun K "is_number" "is_number" s_is_number f fd) (T : TxA mg) : FnOk P w K mg base CX0 1 f fd ["value", "low", "high"] spIsNumber := by
  refine F.ok sc_is_number (fun vs H Q E h => ?_) (fun cdv A outer s H vs Q E hr h => ?_)
  · obtain ⟨v, lo, hi, rfl, _⟩ := h
    rfl
  · obtain ⟨v, lo, hi, rfl, q⟩ := h
    refine ⟨_, pss_one (ps_ret (pe_and (pe_callB call_isi (by rfl) T.isinst (by decide +kernel) (pa_cons (pv 0) (pa_cons (pe_bty (by rfl) T.int bt_int) pa_nil)))
      (pe_and (pe_not (pe_callB call_isi (by rfl) T.isinst (by decide +kernel) (pa_cons (pv 0) (pa_cons (pe_bty (by rfl) T.bool bt_bool) pa_nil))))
      (pe_one (pe_chain op_le op_le (pv 1) (pv 0) (pv 2)))))), ?_⟩
    refine ⟨_, rfl, _, .ty "int", _, _, _, rfl, .ty _, tyx_int _, kit_ii, true, rfl, iteT ?_⟩
    refine ⟨_, rfl, _, .ty "bool", _, _, _, rfl, .ty _, tyx_int _, kit_ib, false, rfl, true, rfl, iteT ?_⟩
    refine ⟨_, rfl, _, rfl, _, _, rfl, rfl, _, rfl, ite2 (fun h1 => ?_) (fun h1 => ?_)⟩
    · have h1 := of_decide_eq_true h1
      refine ⟨_, rfl, _, _, rfl, rfl, ?_⟩
      have e : decide (v ≤ hi) = decide (lo ≤ v ∧ v ≤ hi) := by
        by_cases z : v ≤ hi
        · rw [decide_eq_true z, decide_eq_true ⟨h1, z⟩]
        · rw [decide_eq_false z, decide_eq_false fun q => z q.2]
      rw [← e] at q
      exact q
    · have h1' : ¬ lo ≤ v := fun z => h1 (decide_eq_true z)
      rw [decide_eq_false fun q => h1' q.1] at q
      exact q
theorem ok_is_house {f : Addr} {fd : FuncData} (F : Fun K "is_house" "is_house" s_is_house f fd) (T : TxA mg) (CN : Cal P w K mg base 1 "is_number" ["value", "low", "high"] spIsNumber) : FnOk P w K mg base CX0 2 f fd ["value"] spIsHouse := by
  obtain ⟨f1, fd1, G1, g1, kp1, b1⟩ := CN
  obtain ⟨t7, h7⟩ := T.last
  refine F.ok sc_is_house (fun vs H Q E h => ?_) (fun cdv A outer s H vs Q E hr h => ?_)
  · obtain ⟨v, rfl, _⟩ := h
    rfl
  · obtain ⟨v, rfl, q⟩ := h
    refine ⟨_, pss_one (ps_ret (pe_call G1 hr (by rfl) g1 kp1 b1 .nil pass0 (pa_cons (pv 0) (pa_cons pe_int (pa_cons (pe_glob (v := .int 7) (by rfl) h7 ⟨_, rfl⟩) pa_nil))))), ?_⟩
    exact ⟨_, rfl, v, 0, 7, rfl, q⟩
theorem ok_is_row {f : Addr} {fd : FuncData} (F : Fun K "is_row" "is_row" s_is_row f fd) (T : TxA mg) (CN : Cal P w K mg base 1 "is_number" ["value", "low", "high"] spIsNumber) (CH : Cal P w K mg base 2 "is_house" ["value"] spIsHouse) : FnOk P w K mg base CX0 3 f fd ["row"] spIsRow := by
  obtain ⟨f1, fd1, G1, g1, kp1, b1⟩ := CN
  obtain ⟨f2, fd2, G2, g2, kp2, b2⟩ := CH
  obtain ⟨tl, hl⟩ := T.lim
  refine F.ok sc_is_row (fun vs H Q E h => ?_) (fun cdv A outer s H vs Q E hr h => ?_)
  · obtain ⟨v, r, rfl, _⟩ := h
    rfl
  · obtain ⟨v, r, rfl, ⟨t, rfl, ht⟩, ⟨r1, r2, r3, r4, r5⟩, q⟩ := h
    have hr1 : Room 1 _ := hr.mono (by decide)
    refine ⟨_, pss_cons (ps_if (PW.pt (pw_or (pt_not (pt_val (pe_callB call_isi (by rfl) T.isinst (by decide +kernel) (pa_cons (pv 0) (pa_cons (pe_bty (by rfl) T.tuple bt_tuple) pa_nil)))))
        (pw_or1 (pt_cmpR op_ne (pe_callB call_len (by rfl) T.len PySem.boot_len (pa_cons (pv 0) pa_nil)) pe_int (nomark _))))) (pss_one (ps_ret pe_bl)) pss_nil)
      (pss_cons (ps_asg (pv 0) (pg_tup (by rfl) (pgs_cons (pg_name (i := 1) sc_is_row.nd rfl (.inl rfl)) (pgs_cons (pg_name (i := 2) sc_is_row.nd rfl (.inl rfl)) (pgs_cons (pg_name (i := 3) sc_is_row.nd rfl (.inl rfl)) pgs_nil)))))
      (pss_one (ps_ret (pe_and (pe_call G2 hr (by rfl) g2 kp2 b2 .nil pass0 (pa_cons (pv 1) pa_nil))
        (pe_and (pe_call G1 hr1 (by rfl) g1 kp1 b1 .nil pass0 (pa_cons (pv 2) (pa_cons pe_int (pa_cons (pe_glob (v := .int LIM) (by rfl) hl ⟨_, rfl⟩) pa_nil))))
          (pe_one (pe_call G1 hr1 (by rfl) g1 kp1 b1 .nil pass0 (pa_cons (pv 3) (pa_cons (pv 2) (pa_cons (pe_glob (v := .int LIM) (by rfl) hl ⟨_, rfl⟩) pa_nil)))))))))), ?_⟩
    refine ⟨_, rfl, _, .ty "tuple", _, _, _, rfl, .ty _, tyx_tup ht, kit_tt, true, rfl, iteF ?_⟩
    refine ⟨_, rfl, _, 3, rfl, .inr ⟨_, SqT.of ht, rfl⟩, rfl, false, by decide, iteF ?_⟩
    refine ⟨_, rfl, _, _, rfl, SqT.of ht, rfl, _, _, rfl, _, _, rfl, _, _, rfl, rfl, ?_⟩
    refine ⟨_, rfl, r.1, rfl, _, rfl, ?_⟩
    rw [decide_eq_true ⟨r1, r2⟩]
    refine iteT ⟨_, rfl, r.2.1, 1, LIM, rfl, _, rfl, ?_⟩
    rw [decide_eq_true ⟨r3, Int.le_trans r4 r5⟩]
    refine iteT ⟨_, rfl, _, rfl, r.2.2, r.2.1, LIM, rfl, ?_⟩
    rw [decide_eq_true ⟨r4, r5⟩]
    exact q
end
end Rw
namespace Rw
open PySem L2
theorem mem_cut {xs : List V} {lo hi : Option Int} {i : Nat} {x : V} (h : (cutV xs lo hi)[i]? = some x) : x ∈ xs := by
  have h1 := List.mem_of_getElem? h
  unfold cutV at h1
  exact List.mem_of_mem_drop (List.mem_of_mem_take h1)
theorem kL_mem {α : Type} {k : Kd α} {F : Hp} {vs : List V} {xs : List α} (h : Paired (k.is F) vs xs) {v : V} (m : v ∈ vs) : ∃ x ∈ xs, k.is F v x := pr_mem h m
def spCheckRows : Sp := fun vs H Q _ => ∃ (v : V) (rs : List Row), vs = [v] ∧ (kL kRow).is H v rs ∧ RowsOk rs ∧ ∀ H', Same H H' → Q .non H'
def spCheckHouse : Sp := fun vs H Q _ => ∃ (h : Int), vs = [.int h] ∧ 0 ≤ h ∧ h ≤ 7 ∧ Q .non H
section
variable {P : Program} {w : World} {K : PySem.W.Frag} {mg : Str → Option Value} {base : Heap}
theorem ok_first_wrong {f : Addr} {fd : FuncData} (F : Fun K "first_wrong" "first_wrong" s_first_wrong f fd) (T : TxA mg) (CR : Cal P w K mg base 3 "is_row" ["row"] spIsRow) : FnOk P w K mg base CX0 4 f fd ["rows"] spFirstWrong := by
  obtain ⟨f1, fd1, G1, g1, kp1, b1⟩ := CR
  obtain ⟨tm, hm⟩ := T.most
  refine F.ok sc_first_wrong (fun vs H Q E h => ?_) (fun cdv A outer s H vs Q E hr h => ?_)
  · obtain ⟨v, rs, rfl, _⟩ := h
    rfl
  · obtain ⟨v, rs, rfl, ⟨a, xs, rfl, ha, hp⟩, ⟨hl, hok⟩, q⟩ := h
    have el : xs.length = rs.length := pr_len hp
    refine ⟨_, pss_cons (ps_for PassesOwn.never rfl (pi_enum (by rfl) T.enum (pa_cons (pe_slice sl_list (pv 0) po_none (po_some (pe_glob (v := .int 200) (by rfl) hm ⟨_, rfl⟩))) pa_nil))
          (pg_tup rfl (pgs_cons (pg_name (i := 1) sc_first_wrong.nd rfl (.inl rfl)) (pgs_cons (pg_name (i := 2) sc_first_wrong.nd rfl (.inl rfl)) pgs_nil)))
        (pss_one (ps_if (pt_not (pt_val (pe_call G1 hr (by rfl) g1 kp1 b1 .nil pass0 (pa_cons (pv 2) pa_nil)))) (pss_one (ps_ret (pv 1))) pss_nil)))
      (pss_one (ps_ret (pe_ifExp (pt_cmpR op_gt (pe_callB call_len (by rfl) T.len PySem.boot_len (pa_cons (pv 0) pa_nil)) (pe_glob (v := .int 200) (by rfl) hm ⟨_, rfl⟩) (nomark _))
        (pe_glob (v := .int 200) (by rfl) hm ⟨_, rfl⟩) pe_non))), ?_⟩
    refine ⟨_, rfl, 200, rfl, a, xs, rfl, SqL.of ha, fun p np => ?_⟩
    refine ⟨p, _, rfl, SqL.of upd_same, for_it (walk_enum (K := K) (a := p) (xs := cutV xs none (some 200))) (fun i σ H' => Same H H' ∧ SqL K H' p (cutV xs none (some 200)) ∧ ∃ x y, σ = [some (.ref a), x, y])
      ⟨same_upd np, SqL.of upd_same, none, none, rfl⟩ (fun _ _ _ _ h => h.2.1) ?_ ?_⟩
    · rintro i x σ H1 H2 hi ⟨s1, l1, x0, y0, rfl⟩ ⟨U, i', row, rfl, nU, rfl, ei, er⟩
      have s2 : Same H (upd H1 U (.tup [i', row])) := s1.trans (same_upd nU)
      obtain ⟨r, hr1, hr2⟩ := pr_mem hp (mem_cut er)
      refine ⟨U, _, rfl, SqT.of upd_same, rfl, i', [row], rfl, row, [], rfl, rfl, ?_⟩
      refine ⟨_, rfl, _, r, rfl, kRow.mono s2 hr2, hok r hr1, true, rfl, iteF ?_⟩
      exact ⟨s2, (same_upd nU).seq l1, _, _, rfl⟩
    · rintro σ H1 ⟨s1, l1, x0, y0, rfl⟩
      have la : H1 a = some (.lst xs) := s1 _ _ ha
      refine ⟨_, rfl, _, xs.length, rfl, .inl ⟨_, SqL.of la, rfl⟩, _, _, rfl, rfl, _, rfl, ?_⟩
      rw [decide_eq_false (show ¬ (xs.length : Int) > 200 by omega)]
      exact iteF (q _ s1)
theorem ok_check_rows {f : Addr} {fd : FuncData} (F : Fun K "check_rows" "check_rows" s_check_rows f fd) (CR : Cal P w K mg base 4 "first_wrong" ["rows"] spFirstWrong) : FnOk P w K mg base CX0 5 f fd ["rows"] spCheckRows := by
  obtain ⟨f1, fd1, G1, g1, kp1, b1⟩ := CR
  refine F.ok sc_check_rows (fun vs H Q E h => ?_) (fun cdv A outer s H vs Q E hr h => ?_)
  · obtain ⟨v, rs, rfl, _⟩ := h
    rfl
  · obtain ⟨v, rs, rfl, hv, hok, q⟩ := h
    refine ⟨_, pss_cons (ps_set (i := 1) sc_check_rows.nd rfl (.inl rfl) (pe_call G1 hr (by rfl) g1 kp1 b1 .nil pass0 (pa_cons (pv 0) pa_nil)))
      (pss_one (ps_if (pt_cmpR op_notN (pv 1) pe_non (nomark _)) (pss_one ps_never) pss_nil)), ?_⟩
    refine ⟨_, rfl, v, rs, rfl, hv, hok, fun H1 s1 => ?_⟩
    refine ⟨_, rfl, rfl, _, rfl, iteF ?_⟩
    exact q _ s1
theorem ok_check_house {f : Addr} {fd : FuncData} (F : Fun K "check_house" "check_house" s_check_house f fd) (CH : Cal P w K mg base 2 "is_house" ["value"] spIsHouse) : FnOk P w K mg base CX0 3 f fd ["house"] spCheckHouse := by
  obtain ⟨f1, fd1, G1, g1, kp1, b1⟩ := CH
  refine F.ok sc_check_house (fun vs H Q E h => ?_) (fun cdv A outer s H vs Q E hr h => ?_)
  · obtain ⟨v, rfl, _⟩ := h
    rfl
  · obtain ⟨v, rfl, h0, h7, q⟩ := h
    refine ⟨_, pss_one (ps_if (pt_not (pt_val (pe_call G1 hr (by rfl) g1 kp1 b1 .nil pass0 (pa_cons (pv 0) pa_nil)))) (pss_one ps_never) pss_nil), ?_⟩
    refine ⟨_, rfl, v, rfl, ?_⟩
    rw [decide_eq_true ⟨h0, h7⟩]
    exact ⟨true, rfl, iteF q⟩
end
end Rw
namespace Rw
open PySem L2
/-! ### a dict of points -/
structure DI (kvs : List (List Key × V)) (ps : List Pt) (g : Pt → Int) : Prop where
  keys : kvs.map (·.1) = ps.map kk
  nd : ps.Nodup
  val : ∀ p, valV kvs (kk p) = if p ∈ ps then some (.int (g p)) else none
theorem DI.nil (g : Pt → Int) : DI [] [] g := ⟨rfl, .nil, fun p => by simp [valV]⟩
theorem DI.put {kvs : List (List Key × V)} {ps : List Pt} {g : Pt → Int} (d : DI kvs ps g) (q : Pt) (z : Int) :
    ∃ ps', DI (putK kvs (kk q) (.int z)) ps' (fun p => if p = q then z else g p) ∧ (∀ p, p ∈ ps' ↔ p ∈ ps ∨ p = q) ∧ ps'.length ≤ ps.length + 1 := by
  have vals : ∀ p, valV (putK kvs (kk q) (.int z)) (kk p) = if p = q then some (.int z) else if p ∈ ps then some (.int (g p)) else none := fun p => by
    rw [valV_put]
    by_cases e : p = q
    · rw [if_pos (by rw [e]), if_pos e]
    · rw [if_neg (fun h => e (kk_inj h)), if_neg e, d.val p]
  by_cases m : q ∈ ps
  · refine ⟨ps, ⟨?_, d.nd, fun p => ?_⟩, fun p => ⟨.inl, fun h => h.elim id fun e => e ▸ m⟩, Nat.le_succ _⟩
    · have a : (kvs.any fun kv => decide (kv.1 = kk q)) = true := by rw [valV_any, d.val q, if_pos m]; rfl
      unfold putK
      rw [if_pos a, List.map_map, ← d.keys]
      refine List.map_congr_left fun kv _ => ?_
      by_cases e : kv.1 = kk q
      · simp only [Function.comp, if_pos e]
      · simp only [Function.comp, if_neg e]
    · rw [vals p]
      by_cases e : p = q
      · rw [if_pos e, if_pos (e ▸ m)]
        simp only [if_pos e]
      · simp only [if_neg e]
  · refine ⟨ps ++ [q], ⟨?_, ?_, fun p => ?_⟩, fun p => by simp, by simp⟩
    · rw [putK_new _ (by rw [d.val q, if_neg m]), List.map_append, List.map_append, d.keys]
      rfl
    · exact List.nodup_append.mpr ⟨d.nd, by simp, fun a ha b hb e => by rw [List.mem_singleton.mp hb] at e; exact m (e ▸ ha)⟩
    · rw [vals p]
      by_cases e : p = q
      · rw [if_pos e, if_pos (by rw [e]; simp)]
        simp only [if_pos e]
      · simp [e]
theorem putK_le (kvs : List (List Key × V)) (k : List Key) (v : V) : (putK kvs k v).length ≤ kvs.length + 1 := by
  unfold putK
  split
  · rw [List.length_map]; omega
  · rw [List.length_append]; simp
theorem DI.len {kvs : List (List Key × V)} {ps : List Pt} {g : Pt → Int} (d : DI kvs ps g) : kvs.length = ps.length := by
  have h := congrArg List.length d.keys
  rw [List.length_map, List.length_map] at h
  exact h
/-- what stands at a point, 0 where nothing does -/
theorem DI.get {kvs : List (List Key × V)} {ps : List Pt} {g : Pt → Int} (d : DI kvs ps g) (z : ∀ p, p ∉ ps → g p = 0) (p : Pt) : (valV kvs (kk p)).getD (.int 0) = .int (g p) := by
  rw [d.val p]
  by_cases m : p ∈ ps
  · rw [if_pos m]; rfl
  · rw [if_neg m, z p m]; rfl
theorem DI.congr {kvs : List (List Key × V)} {ps : List Pt} {g g' : Pt → Int} (d : DI kvs ps g) (h : ∀ p, g p = g' p) : DI kvs ps g' := by
  have e : g = g' := funext h
  rw [← e]; exact d
theorem chg_snoc (ws : List WRow) (r : Row) (z : Int) (p : Pt) : chg (ws ++ [(r, z)]) p = chg ws p + z * (ind (fstP r = p) - ind (endP r = p)) := by
  unfold chg
  rw [S_append]
  show _ + (z * (ind (fstP r = p) - ind (endP r = p)) + 0) = _
  omega
/-- what the program's dict of changes tells of weighed rows -/
structure ChD (kvs : List (List Key × V)) (ws : List WRow) : Prop where
  ex : ∃ ps : List Pt, DI kvs ps (chg ws) ∧ (∀ p, p ∉ ps → chg ws p = 0) ∧ Has ps ws ∧ ps.length ≤ 2 * ws.length
theorem ChD.nil : ChD [] [] := ⟨[], DI.nil _, fun _ _ => rfl, fun x h => absurd h (by simp), Nat.le_refl _⟩
/-- one row more: the two stores -/
theorem ChD.step {kvs : List (List Key × V)} {ws : List WRow} (c : ChD kvs ws) (r : Row) (z : Int) (hne : fstP r ≠ endP r) :
    ∃ v1 : Int, (valV kvs (kk (fstP r))).getD (.int 0) = .int v1 ∧ ∃ v2 : Int, (valV (putK kvs (kk (fstP r)) (.int (v1 + z))) (kk (endP r))).getD (.int 0) = .int v2 ∧
      ChD (putK (putK kvs (kk (fstP r)) (.int (v1 + z))) (kk (endP r)) (.int (v2 - z))) (ws ++ [(r, z)]) := by
  obtain ⟨ps, d, hz, hh, hl⟩ := c.ex
  refine ⟨chg ws (fstP r), d.get hz _, ?_⟩
  obtain ⟨ps1, d1, m1, l1⟩ := d.put (fstP r) (chg ws (fstP r) + z)
  have hz1 : ∀ p, p ∉ ps1 → (if p = fstP r then chg ws (fstP r) + z else chg ws p) = 0 := fun p hp => by
    have a : ¬ (p ∈ ps ∨ p = fstP r) := fun q => hp ((m1 p).mpr q)
    rw [if_neg fun e => a (.inr e)]
    exact hz p fun q => a (.inl q)
  have e2 : (if endP r = fstP r then chg ws (fstP r) + z else chg ws (endP r)) = chg ws (endP r) := if_neg fun e => hne e.symm
  refine ⟨chg ws (endP r), by rw [d1.get hz1, e2], ?_⟩
  obtain ⟨ps2, d2, m2, l2⟩ := d1.put (endP r) (chg ws (endP r) - z)
  have ev : ∀ p, (if p = endP r then chg ws (endP r) - z else if p = fstP r then chg ws (fstP r) + z else chg ws p) = chg (ws ++ [(r, z)]) p := fun p => by
    rw [chg_snoc]
    by_cases a : p = endP r
    · subst a
      rw [if_pos rfl, ind_pos (rfl : endP r = endP r), ind_neg hne]
      omega
    · rw [if_neg a, ind_neg (fun e => a e.symm : ¬ endP r = p)]
      by_cases b : p = fstP r
      · subst b
        rw [if_pos rfl, ind_pos (rfl : fstP r = fstP r)]
        omega
      · rw [if_neg b, ind_neg (fun e => b e.symm : ¬ fstP r = p)]
        omega
  refine ⟨ps2, d2.congr ev, fun p hp => ?_, fun x hx => ?_, ?_⟩
  · rw [← ev p]
    have a : ¬ (p ∈ ps1 ∨ p = endP r) := fun q => hp ((m2 p).mpr q)
    rw [if_neg fun e => a (.inr e)]
    exact hz1 p fun q => a (.inl q)
  · rcases List.mem_append.mp hx with hx | hx
    · obtain ⟨a, b⟩ := hh x hx
      exact ⟨(m2 _).mpr (.inl ((m1 _).mpr (.inl a))), (m2 _).mpr (.inl ((m1 _).mpr (.inl b)))⟩
    · rw [List.mem_singleton.mp hx]
      exact ⟨(m2 _).mpr (.inl ((m1 _).mpr (.inr rfl))), (m2 _).mpr (.inr rfl)⟩
  · rw [List.length_append, List.length_singleton]
    omega
def spChangesOf : Sp := fun vs H Q _ => ∃ (F : Hp) (v : V) (ws : List WRow), vs = [v] ∧ Same F H ∧ (kL kW).is F v ws ∧ Wok ws ∧ ws.length ≤ 1000000 ∧
  ∀ (H' : Hp) (d : Addr) (kvs : List (List Key × V)), Ext M0 F H F H' → H d = none → F d = none → H' d = some (.dT kvs) → ChD kvs ws → Q (.ref d) H'
section
variable {P : Program} {w : World} {K : PySem.W.Frag} {mg : Str → Option Value} {base : Heap}
theorem ok_changes_of {f : Addr} {fd : FuncData} (F0 : Fun K "changes_of" "changes_of" s_changes_of f fd) : FnOk P w K mg base CX0 1 f fd ["weighed"] spChangesOf := by
  refine F0.ok sc_changes_of (fun vs H Q E h => ?_) (fun cdv A outer s H vs Q E hr h => ?_)
  · obtain ⟨F, v, ws, rfl, _⟩ := h
    rfl
  · obtain ⟨F, v, ws, rfl, fh, ⟨a, xs, rfl, ha, hp⟩, hok, hlen, q⟩ := h
    have hu := hu_of hr
    refine ⟨_, pss_cons (ps_set (i := 1) sc_changes_of.nd rfl (.inl rfl) pe_dnewT)
      (pss_cons (ps_for PassesOwn.never rfl (pi_list (pv 0))
          (pg_tup rfl (pgs_cons (pg_tup rfl (pgs_cons (pg_name (i := 2) sc_changes_of.nd rfl (.inl rfl)) (pgs_cons (pg_name (i := 3) sc_changes_of.nd rfl (.inl rfl)) (pgs_cons (pg_name (i := 4) sc_changes_of.nd rfl (.inl rfl)) pgs_nil))))
            (pgs_cons (pg_name (i := 5) sc_changes_of.nd rfl (.inl rfl)) pgs_nil)))
        (pss_cons (ps_dput hu (pv 1) (pe_tup (pa_cons (pv 2) (pa_cons (pv 3) pa_nil))) (pe_op op_add (pe_dget2 hu (pv 1) (pe_tup (pa_cons (pv 2) (pa_cons (pv 3) pa_nil))) pe_int ⟨rfl, rfl, rfl, rfl⟩) (pv 5)) rfl)
          (pss_one (ps_dput hu (pv 1) (pe_tup (pa_cons (pv 2) (pa_cons (pe_op op_add (pv 4) pe_int) pa_nil))) (pe_op op_sub (pe_dget2 hu (pv 1) (pe_tup (pa_cons (pv 2) (pa_cons (pe_op op_add (pv 4) pe_int) pa_nil))) pe_int ⟨rfl, rfl, rfl, rfl⟩) (pv 5)) rfl))))
      (pss_one (ps_ret (pv 1)))), ?_⟩
    intro d nd
    have fd0 : F d = none := fh.free nd
    refine ⟨_, rfl, a, rfl, ⟨xs, SqL.of ((same_upd nd) _ _ (fh _ _ ha))⟩, for_list (K := K) (a := a) (xs := xs) (fun i σ H1 => ∃ kvs y2 y3 y4 y5, σ = [some (.ref a), some (.ref d), y2, y3, y4, y5] ∧ Ext M0 F H F H1 ∧ H1 d = some (.dT kvs) ∧ ChD kvs (ws.take i))
      ⟨[], none, none, none, none, rfl, (Ext.refl fh).put (.inl nd) fd0, upd_same, ChD.nil⟩ (fun i σ H1 _ ⟨_, _, _, _, _, _, X1, _, _⟩ => SqL.of (X1.fh _ _ ha)) ?_ ?_⟩
    · rintro i x σ H1 hi ⟨kvs, y2, y3, y4, y5, rfl, X1, hd, hc⟩
      obtain ⟨⟨r, z⟩, hri, t, u, rfl, ht, ⟨t2, rfl, ht2⟩⟩ := pr_get hp hi
      have hro := hok _ (List.mem_of_getElem? hri)
      have hne : fstP r ≠ endP r := fun e => by
        have e2 := congrArg Prod.snd e
        simp only [fstP, endP] at e2
        simp only at hro
        omega
      obtain ⟨v1, e1, v2, e2, hc2⟩ := hc.step r z hne
      have hlen2 : ∀ {kvs : List (List Key × V)} {n : Nat}, ChD kvs (ws.take n) → kvs.length < sizeLine - 2 := fun {kvs n} c => by
        obtain ⟨ps, dd, _, _, l⟩ := c.ex
        have l2 : (ws.take n).length ≤ ws.length := List.length_take_le' n ws
        rw [dd.len, sizeLine_eq]
        omega
      have hk := hlen2 hc
      refine ⟨t, _, rfl, SqT.of (X1.fh _ _ ht), rfl, _, _, rfl, t2, _, rfl, SqT.of (X1.fh _ _ ht2), rfl, _, _, rfl, _, _, rfl, _, _, rfl, rfl, _, _, rfl, rfl, ?_⟩
      -- changes[house, first] = changes.get((house, first), 0) + weight
      refine ⟨_, rfl, d, rfl, .inr ⟨kvs, .inl hd⟩, _, rfl, _, rfl, (by show 2 ≤ sizeLine; decide), fun k1 nk1 => ?_⟩
      have dk1 : d ≠ k1 := ne_of_none hd nk1
      have hd1 : upd H1 k1 (.tup [.int r.1, .int r.2.1]) d = some (.dT kvs) := by rw [upd_ne dk1]; exact hd
      refine ⟨_, DGet.t (k := kk (fstP r)) hd1 upd_same, _, rfl, v1, z, e1, rfl, _, rfl, _, rfl, _, rfl, (by show 2 ≤ sizeLine; decide), fun k2 nk2 => ?_⟩
      have dk2 : d ≠ k2 := ne_of_none hd1 nk2
      have hd2 : upd (upd H1 k1 (.tup [.int r.1, .int r.2.1])) k2 (.tup [.int r.1, .int r.2.1]) d = some (.dT kvs) := by rw [upd_ne dk2]; exact hd1
      refine ⟨d, _, rfl, DPut.t (k := kk (fstP r)) hd2 upd_same (by omega), ?_⟩
      have X2 := (((X1.tmp (o := .tup [.int r.1, .int r.2.1]) nk1).tmp (o := .tup [.int r.1, .int r.2.1]) nk2).put (o := .dT (putK kvs (kk (fstP r)) (.int (v1 + z)))) (.inl nd) fd0)
      have hd3 : upd (upd (upd H1 k1 (.tup [.int r.1, .int r.2.1])) k2 (.tup [.int r.1, .int r.2.1])) d (.dT (putK kvs (kk (fstP r)) (.int (v1 + z)))) d = some (.dT (putK kvs (kk (fstP r)) (.int (v1 + z)))) := upd_same
      revert hd3 X2
      generalize upd (upd (upd H1 k1 (.tup [.int r.1, .int r.2.1])) k2 (.tup [.int r.1, .int r.2.1])) d (.dT (putK kvs (kk (fstP r)) (.int (v1 + z)))) = H2
      intro X2 hd3
      -- changes[house, last + 1] = changes.get((house, last + 1), 0) - weight
      refine ⟨_, rfl, d, rfl, .inr ⟨_, .inl hd3⟩, _, rfl, _, rfl, _, _, rfl, rfl, (by show 2 ≤ sizeLine; decide), fun k3 nk3 => ?_⟩
      have dk3 : d ≠ k3 := ne_of_none hd3 nk3
      have hd4 : upd H2 k3 (.tup [.int r.1, .int (r.2.2 + 1)]) d = some (.dT (putK kvs (kk (fstP r)) (.int (v1 + z)))) := by rw [upd_ne dk3]; exact hd3
      refine ⟨_, DGet.t (k := kk (endP r)) hd4 upd_same, _, rfl, v2, z, e2, rfl, _, rfl, _, rfl, _, rfl, _, _, rfl, rfl, (by show 2 ≤ sizeLine; decide), fun k4 nk4 => ?_⟩
      have dk4 : d ≠ k4 := ne_of_none hd4 nk4
      have hd5 : upd (upd H2 k3 (.tup [.int r.1, .int (r.2.2 + 1)])) k4 (.tup [.int r.1, .int (r.2.2 + 1)]) d = some (.dT (putK kvs (kk (fstP r)) (.int (v1 + z)))) := by rw [upd_ne dk4]; exact hd4
      have lp : (putK kvs (kk (fstP r)) (.int (v1 + z))).length ≤ kvs.length + 1 := putK_le _ _ _
      refine ⟨d, _, rfl, DPut.t (k := kk (endP r)) hd5 upd_same (by omega), ?_⟩
      refine ⟨_, _, _, _, _, rfl, (((X2.tmp nk3).tmp nk4).put (.inl nd) fd0), upd_same, ?_⟩
      rw [List.take_add_one, hri]
      exact hc2
    · rintro σ H1 ⟨kvs, y2, y3, y4, y5, rfl, X1, hd, hc⟩
      refine ⟨_, rfl, q H1 d kvs X1 nd fd0 hd ?_⟩
      rw [pr_len hp, List.take_length] at hc
      exact hc
end
end Rw
namespace Rw
open PySem L2
theorem same_put {G H : Hp} {p : Addr} {o : HO} (s : Same G H) (g : G p = none) : Same G (upd H p o) := fun b u e => by
  rw [upd_ne (ne_of_none e g)]
  exact s b u e
/-- all but one place -/
def but (H : Hp) (o : Addr) : Hp := fun b => if b = o then none else H b
theorem but_same {H : Hp} {o : Addr} : Same (but H o) H := fun b u e => by
  unfold but at e
  by_cases h : b = o
  · rw [if_pos h] at e; cases e
  · rw [if_neg h] at e; exact e
theorem but_self {H : Hp} {o : Addr} : but H o o = none := if_pos rfl
theorem but_at {H : Hp} {o b : Addr} (h : b ≠ o) : but H o b = H b := if_neg h
theorem kPt_but {H : Hp} {o : Addr} {xs : List V} (ho : H o = some (.lst xs)) {v : V} {p : Pt} (h : kPt.is H v p) : kPt.is (but H o) v p := by
  obtain ⟨t, e, ht⟩ := h
  exact ⟨t, e, by rw [but_at (ne_of ht ho (by intro z; cases z))]; exact ht⟩
def sweepM (ws : List WRow) (least : Int) (ks : List Pt) : St := ks.foldl (stepM (chg ws) least) ⟨[], 0, 0⟩
theorem stepM_out (ch : Pt → Int) (least : Int) (s : St) (k : Pt) : (stepM ch least s k).out.length ≤ s.out.length + 1 := by
  unfold stepM
  split
  · exact Nat.le_succ _
  · split
    · simp
    · exact Nat.le_succ _
theorem sweepM_snoc (ws : List WRow) (least : Int) (ks : List Pt) (k : Pt) : sweepM ws least (ks ++ [k]) = stepM (chg ws) least (sweepM ws least ks) k := by
  unfold sweepM
  rw [List.foldl_append]
  rfl
theorem sweepM_len (ws : List WRow) (least : Int) (ks : List Pt) : (sweepM ws least ks).out.length ≤ ks.length := by
  have key : ∀ (ks : List Pt) (s : St), (ks.foldl (stepM (chg ws) least) s).out.length ≤ s.out.length + ks.length := by
    intro ks
    induction ks with
    | nil => intro s; exact Nat.le_refl _
    | cons k ks ih =>
      intro s
      have h1 := ih (stepM (chg ws) least s k)
      have h2 := stepM_out (chg ws) least s k
      rw [List.foldl_cons, List.length_cons]
      omega
  have h := key ks ⟨[], 0, 0⟩
  simp only [List.length_nil, Nat.zero_add] at h
  exact h
/-- what the sweep tells -/
structure Told (ws : List WRow) (least : Int) (out : List Row) : Prop where
  can : Canon out
  mem : ∀ p, mem out p ↔ least ≤ cover ws p
def spReaching : Sp := fun vs H Q _ => ∃ (F : Hp) (v : V) (ws : List WRow) (least : Int), vs = [v, .int least] ∧ Same F H ∧ (kL kW).is F v ws ∧ Wok ws ∧ ws.length ≤ 1000000 ∧ 0 < least ∧ RetL M0 F H kRow (Told ws least) Q
structure TxB (mg : Str → Option Value) : Prop where
  sorted : mg "sorted" = none
section
variable {P : Program} {w : World} {K : PySem.W.Frag} {mg : Str → Option Value} {base : Heap}
theorem ok_reaching {f : Addr} {fd : FuncData} (F0 : Fun K "reaching" "reaching" s_reaching f fd) (T : TxB mg) (CC : Cal P w K mg base 1 "changes_of" ["weighed"] spChangesOf) : FnOk P w K mg base CX0 2 f fd ["weighed", "least"] spReaching := by
  obtain ⟨f1, fd1, G1, g1, kp1, b1⟩ := CC
  refine F0.ok sc_reaching (fun vs H Q E h => ?_) (fun cdv A outer s H vs Q E hr h => ?_)
  · obtain ⟨F, v, ws, least, rfl, _⟩ := h
    rfl
  · obtain ⟨F, v, ws, least, rfl, fh, hv, hok, hlen, hle, q⟩ := h
    have hu := hu_of hr
    refine ⟨_, pss_cons (ps_set (i := 2) sc_reaching.nd rfl (.inl rfl) (pe_call G1 hr (by rfl) g1 kp1 b1 .nil pass0 (pa_cons (pv 0) pa_nil)))
      (pss_cons (ps_set (i := 3) sc_reaching.nd rfl (.inl rfl) (pe_lst pa_nil))
      (pss_cons (ps_set (i := 4) sc_reaching.nd rfl (.inl rfl) pe_int)
      (pss_cons (ps_set (i := 5) sc_reaching.nd rfl (.inl rfl) pe_int)
      (pss_cons (ps_for PassesOwn.never rfl (pi_list (pe_callB (cr_sortedDT (by rfl)) (by rfl) T.sorted (by decide +kernel) (pa_cons (pv 2) pa_nil)))
          (pg_tup rfl (pgs_cons (pg_name (i := 6) sc_reaching.nd rfl (.inl rfl)) (pgs_cons (pg_name (i := 7) sc_reaching.nd rfl (.inl rfl)) pgs_nil)))
        (pss_cons (ps_set (i := 8) sc_reaching.nd rfl (.inl rfl) (pv 4))
        (pss_cons (ps_set (i := 4) sc_reaching.nd rfl (.inl rfl) (pe_op op_add (pv 8) (pe_dget hu (pv 2) (pe_tup (pa_cons (pv 6) (pa_cons (pv 7) pa_nil))) (fun _ _ => rfl))))
        (pss_one (ps_if (pt_chain op_lt op_le (pv 8) (pv 1) (pv 4)) (pss_one (ps_set (i := 5) sc_reaching.nd rfl (.inl rfl) (pv 7)))
          (pss_one (ps_if (pt_chain op_lt op_le (pv 4) (pv 1) (pv 8))
            (pss_one (ps_expr (pe_bm PySem.F.plainAttrs_list PySem.F.slot_list_append PySem.F.type_list_append mt_append (pv 3) (pa_cons (pe_tup (pa_cons (pv 6) (pa_cons (pv 5) (pa_cons (pe_op op_sub (pv 7) pe_int) pa_nil)))) pa_nil)))) pss_nil)))))))
      (pss_one (ps_ret (pv 3))))))), ?_⟩
    refine ⟨_, rfl, F, v, ws, rfl, fh, hv, hok, hlen, fun H1 d kvs X1 nd fd hd hc => ?_⟩
    refine ⟨Nat.zero_le _, fun o no => ?_⟩
    have X2 := X1.tmp (o := .lst []) no
    have dno : d ≠ o := ne_of_none hd no
    have hd2 : upd H1 o (.lst []) d = some (.dT kvs) := by rw [upd_ne dno]; exact hd
    have ho2 : upd H1 o (.lst []) o = some (.lst []) := upd_same
    have Ho : H o = none := X1.free no
    have Fo : F o = none := X1.ffree no
    revert X2 hd2 ho2
    generalize upd H1 o (.lst []) = H2
    intro X2 hd2 ho2
    obtain ⟨ps, dd, hz, hh, hl⟩ := hc.ex
    refine ⟨_, rfl, d, kvs, ps, rfl, hd2, dd.keys, dd.nd, fun ys qs p hys hperm hsort np => ?_⟩
    have pno : o ≠ p := ne_of_none ho2 np
    have dnp : d ≠ p := ne_of_none hd2 np
    have X3 := X2.tmp (o := .lst ys) np
    have ho3 : upd H2 p (.lst ys) o = some (.lst []) := by rw [upd_ne pno]; exact ho2
    have hd3 : upd H2 p (.lst ys) d = some (.dT kvs) := by rw [upd_ne dnp]; exact hd2
    have hp3 : upd H2 p (.lst ys) p = some (.lst ys) := upd_same
    have hys3 : Paired (kPt.is (but (upd H2 p (.lst ys)) o)) ys qs := pr_mono (fun _ _ r => kPt_but ho3 (kPt.mono (same_upd np) r)) hys
    revert X3 ho3 hd3 hp3 hys3
    generalize upd H2 p (.lst ys) = H3
    intro X3 ho3 hd3 hp3 hys3
    have gd : but H3 o d = some (.dT kvs) := by rw [but_at dno]; exact hd3
    have gp : but H3 o p = some (.lst ys) := by rw [but_at pno.symm]; exact hp3
    have go : but H3 o o = none := but_self
    have gs : Same (but H3 o) H3 := but_same
    revert gd gp go gs hys3
    generalize but H3 o = G
    intro hys3 gd gp go gs
    have lq : qs.length ≤ 2 * ws.length := by rw [hperm.length_eq]; exact hl
    refine ⟨p, rfl, ⟨ys, SqL.of (gs _ _ gp)⟩, for_list (K := K) (a := p) (xs := ys) (fun i σ H' => ∃ F' outs y6 y7 y8, σ = [some v, some (.int least), some (.ref d), some (.ref o), some (.int (sweepM ws least (qs.take i)).total), some (.int (sweepM ws least (qs.take i)).start), y6, y7, y8] ∧
        Ext M0 F H F' H' ∧ Same G H' ∧ F' o = none ∧ H' o = some (.lst outs) ∧ Paired (kRow.is F') outs (sweepM ws least (qs.take i)).out)
      ⟨F, [], none, none, none, rfl, X3, gs, Fo, ho3, .nil⟩ (fun i σ H' _ ⟨_, _, _, _, _, _, _, s1, _⟩ => SqL.of (s1 _ _ gp)) ?_ ?_⟩
    · rintro i x σ H' hi ⟨F', outs, y6, y7, y8, rfl, X4, s4, fo, hout, hpr⟩
      obtain ⟨k, hk, t, rfl, ht⟩ := pr_get hys3 hi
      have kps : k ∈ ps := hperm.mem_iff.mp (List.mem_of_getElem? hk)
      have hval : valV kvs (kk k) = some (.int (chg ws k)) := by rw [dd.val k, if_pos kps]
      have hst : sweepM ws least (qs.take (i + 1)) = stepM (chg ws) least (sweepM ws least (qs.take i)) k := by
        rw [List.take_add_one, hk, ← sweepM_snoc]
        rfl
      have hlo : outs.length ≤ 2 * ws.length := by
        have h1 := sweepM_len ws least (qs.take i)
        have h2 : (qs.take i).length ≤ qs.length := List.length_take_le' i qs
        rw [pr_len hpr]
        omega
      revert hpr hst
      generalize sweepM ws least (qs.take i) = st
      intro hpr hst
      refine ⟨t, _, rfl, SqT.of (s4 _ _ ht), rfl, _, _, rfl, _, _, rfl, rfl, ?_⟩
      refine ⟨_, rfl, _, rfl, _, rfl, _, rfl, _, rfl, (by show 2 ≤ sizeLine; decide), fun k1 nk1 => ?_⟩
      have hd4 : H' d = some (.dT kvs) := s4 _ _ gd
      have dk1 : d ≠ k1 := ne_of_none hd4 nk1
      have ok1 : o ≠ k1 := ne_of_none hout nk1
      have e5 : upd H' k1 (.tup [.int k.1, .int k.2]) d = some (.dT kvs) := by rw [upd_ne dk1]; exact hd4
      refine ⟨d, _, rfl, hval ▸ DGet.t (k := kk k) e5 upd_same, _, _, rfl, rfl, ?_⟩
      have X5 := X4.tmp (o := .tup [.int k.1, .int k.2]) nk1
      have s5 : Same G (upd H' k1 (.tup [.int k.1, .int k.2])) := s4.trans (same_upd nk1)
      have ho5 : upd H' k1 (.tup [.int k.1, .int k.2]) o = some (.lst outs) := by rw [upd_ne ok1]; exact hout
      revert X5 s5 ho5
      generalize upd H' k1 (.tup [.int k.1, .int k.2]) = H5
      intro X5 s5 ho5
      by_cases c1 : st.total < least
      · by_cases c2 : least ≤ st.total + chg ws k
        · have es : sweepM ws least (qs.take (i + 1)) = ⟨st.out, st.total + chg ws k, k.2⟩ := by rw [hst]; unfold stepM; rw [if_pos ⟨c1, c2⟩]
          refine ⟨_, rfl, _, rfl, _, _, rfl, rfl, _, rfl, ?_⟩
          rw [decide_eq_true c1]
          refine iteT ⟨_, rfl, _, _, rfl, rfl, _, rfl, ?_⟩
          rw [decide_eq_true c2]
          refine iteT ⟨_, rfl, F', outs, some (.int k.1), some (.int k.2), some (.int st.total), ?_, X5, s5, fo, ho5, ?_⟩
          · rw [es]; rfl
          · rw [es]; exact hpr
        · have es : sweepM ws least (qs.take (i + 1)) = ⟨st.out, st.total + chg ws k, st.start⟩ := by
            rw [hst]; unfold stepM; rw [if_neg (fun z => c2 z.2), if_neg (fun z => absurd z.2 (by omega))]
          refine ⟨_, rfl, _, rfl, _, _, rfl, rfl, _, rfl, ?_⟩
          rw [decide_eq_true c1]
          refine iteT ⟨_, rfl, _, _, rfl, rfl, _, rfl, ?_⟩
          rw [decide_eq_false c2]
          refine iteF ⟨_, rfl, _, rfl, _, _, rfl, rfl, _, rfl, ?_⟩
          rw [decide_eq_true (show st.total + chg ws k < least by omega)]
          refine iteT ⟨_, rfl, _, _, rfl, rfl, _, rfl, ?_⟩
          rw [decide_eq_false (show ¬ least ≤ st.total by omega)]
          refine iteF ⟨F', outs, some (.int k.1), some (.int k.2), some (.int st.total), ?_, X5, s5, fo, ho5, ?_⟩
          · rw [es]; rfl
          · rw [es]; exact hpr
      · by_cases c2 : st.total + chg ws k < least
        · have es : sweepM ws least (qs.take (i + 1)) = ⟨st.out ++ [(k.1, st.start, k.2 - 1)], st.total + chg ws k, st.start⟩ := by
            rw [hst]; unfold stepM; rw [if_neg (fun z => c1 z.1), if_pos ⟨c2, by omega⟩]
          refine ⟨_, rfl, _, rfl, _, _, rfl, rfl, _, rfl, ?_⟩
          rw [decide_eq_false c1]
          refine iteF ⟨_, rfl, iteF ⟨_, rfl, _, rfl, _, _, rfl, rfl, _, rfl, ?_⟩⟩
          rw [decide_eq_true c2]
          refine iteT ⟨_, rfl, _, _, rfl, rfl, _, rfl, ?_⟩
          rw [decide_eq_true (show least ≤ st.total by omega)]
          refine iteT ⟨_, rfl, .inl ⟨rfl, _, SqL.of ho5⟩, _, rfl, _, rfl, _, rfl, _, _, rfl, rfl, (by show 3 ≤ sizeLine; decide), fun t6 nt6 => ?_⟩
          have ot6 : o ≠ t6 := ne_of_none ho5 nt6
          refine ⟨o, outs, _, rfl, rfl, by rw [upd_ne ot6]; exact ho5, by rw [sizeLine_eq]; omega, ?_⟩
          have fo6 : upd F' t6 (.tup [.int k.1, .int st.start, .int (k.2 - 1)]) o = none := by rw [upd_ne ot6]; exact fo
          refine ⟨upd F' t6 (.tup [.int k.1, .int st.start, .int (k.2 - 1)]), outs ++ [.ref t6], some (.int k.1), some (.int k.2), some (.int st.total), ?_, (X5.lay nt6).put (.inl Ho) fo6, same_put (s5.trans (same_upd nt6)) go, fo6, upd_same, ?_⟩
          · rw [es]; rfl
          · rw [es]
            exact pr_snoc (pr_mono (fun _ _ r => kRow.mono (same_upd (X5.ffree nt6)) r) hpr) ⟨t6, rfl, upd_same⟩
        · have es : sweepM ws least (qs.take (i + 1)) = ⟨st.out, st.total + chg ws k, st.start⟩ := by
            rw [hst]; unfold stepM; rw [if_neg (fun z => c1 z.1), if_neg (fun z => c2 z.1)]
          refine ⟨_, rfl, _, rfl, _, _, rfl, rfl, _, rfl, ?_⟩
          rw [decide_eq_false c1]
          refine iteF ⟨_, rfl, iteF ⟨_, rfl, _, rfl, _, _, rfl, rfl, _, rfl, ?_⟩⟩
          rw [decide_eq_false c2]
          refine iteF ⟨_, rfl, iteF ⟨F', outs, some (.int k.1), some (.int k.2), some (.int st.total), ?_, X5, s5, fo, ho5, ?_⟩⟩
          · rw [es]; rfl
          · rw [es]; exact hpr
    · rintro σ H' ⟨F', outs, y6, y7, y8, rfl, X4, s4, fo, hout, hpr⟩
      rw [pr_len hys3, List.take_length] at hpr
      obtain ⟨a1, a2⟩ := sweep hle hok hsort (fun x hx => ⟨hperm.mem_iff.mpr (hh x hx).1, hperm.mem_iff.mpr (hh x hx).2⟩) 0
      refine ⟨_, rfl, q F' H' o outs _ X4 Ho fo hout hpr ⟨a1, a2⟩⟩
end
end Rw
namespace Rw
open PySem L2
/-! ### how long what is told can be; its rows are rows -/
theorem nodup_sub {α : Type} [DecidableEq α] : ∀ (l D : List α), l.Nodup → (∀ x ∈ l, x ∈ D) → l.length ≤ D.length
  | [], _, _, _ => Nat.zero_le _
  | x :: l, D, hn, h => by
    have h1 := List.nodup_cons.mp hn
    have hx := h x List.mem_cons_self
    have ih := nodup_sub l (D.erase x) h1.2 fun y hy => by
      have ne : y ≠ x := fun e => h1.1 (e ▸ hy)
      exact (List.mem_erase_of_ne ne).mpr (h y (List.mem_cons_of_mem _ hy))
    rw [List.length_erase_of_mem hx] at ih
    have : 0 < D.length := List.length_pos_of_mem hx
    rw [List.length_cons]
    omega
theorem S_drop {f g : Row → Int} : ∀ {ws : List WRow}, S f ws < S g ws → ∃ x ∈ ws, x.2 * f x.1 < x.2 * g x.1
  | [], h => by simp [S] at h
  | (r, w) :: ws, h => by
    by_cases c : w * f r < w * g r
    · exact ⟨_, List.mem_cons_self, c⟩
    · have h' : w * f r + S f ws < w * g r + S g ws := h
      obtain ⟨x, hx, e⟩ := S_drop (f := f) (g := g) (ws := ws) (by omega)
      exact ⟨x, List.mem_cons_of_mem _ hx, e⟩
/-- where a weighed row can end a told one -/
def stopP (x : WRow) : Pt := if 0 < x.2 then endP x.1 else fstP x.1
theorem Canon.ends {out : List Row} (c : Canon out) : (out.map endP).Nodup := by
  refine List.pairwise_map.mpr (c.ord.imp_of_mem fun {r s} hr hs b e => ?_)
  have o := c.ok s hs
  have e1 := congrArg Prod.fst e
  have e2 := congrArg Prod.snd e
  unfold endP at e1 e2
  simp only at e1 e2
  unfold before at b
  omega
theorem Canon.gap {out : List Row} (c : Canon out) {r : Row} (hr : r ∈ out) : ¬ mem out (endP r) := by
  rintro ⟨s, hs, i1, i2, i3⟩
  unfold endP at i1 i2 i3
  simp only at i1 i2 i3
  rcases Classical.em (r = s) with e | e
  · subst e; omega
  · have key : before r s ∨ before s r := by
      obtain ⟨i, hi, ei⟩ := List.getElem_of_mem hr
      obtain ⟨j, hj, ej⟩ := List.getElem_of_mem hs
      have p := List.pairwise_iff_getElem.mp c.ord
      rcases Nat.lt_trichotomy i j with l | l | l
      · exact .inl (by have := p i j hi hj l; rw [ei, ej] at this; exact this)
      · subst l; exact absurd (ei.symm.trans ej) e
      · exact .inr (by have := p j i hj hi l; rw [ei, ej] at this; exact this)
    have o := c.ok r hr
    have o2 := c.ok s hs
    unfold before at key
    omega
theorem Canon.last {out : List Row} (c : Canon out) {r : Row} (hr : r ∈ out) : mem out (r.1, r.2.2) := ⟨r, hr, rfl, c.ok r hr, Int.le_refl _⟩
theorem Canon.first {out : List Row} (c : Canon out) {r : Row} (hr : r ∈ out) : mem out (r.1, r.2.1) := ⟨r, hr, rfl, Int.le_refl _, c.ok r hr⟩
theorem Told.len {ws : List WRow} {least : Int} {out : List Row} (t : Told ws least out) : out.length ≤ ws.length := by
  have h := nodup_sub (out.map endP) (ws.map stopP) t.can.ends fun p hp => by
    obtain ⟨r, hr, rfl⟩ := List.mem_map.mp hp
    have a := (t.mem _).mp (t.can.last hr)
    have b : ¬ least ≤ cover ws (endP r) := fun z => t.can.gap hr ((t.mem _).mpr z)
    obtain ⟨x, hx, e⟩ := S_drop (f := fun s => ind (inRow s (endP r))) (g := fun s => ind (inRow s (r.1, r.2.2))) (ws := ws) (by unfold cover at a b; omega)
    refine List.mem_map.mpr ⟨x, hx, ?_⟩
    obtain ⟨s, w⟩ := x
    simp only at e
    unfold stopP
    rcases ind_or (inRow s (endP r)) with ⟨u1, e1⟩ | ⟨u1, e1⟩ <;> rcases ind_or (inRow s (r.1, r.2.2)) with ⟨u2, e2⟩ | ⟨u2, e2⟩ <;> rw [e1, e2] at e
    · omega
    · rw [if_neg (show ¬ 0 < w by omega)]
      unfold inRow endP at u1
      unfold inRow at u2
      unfold fstP endP
      simp only at u1 u2 ⊢
      exact Prod.ext (by simp only; omega) (by simp only; omega)
    · rw [if_pos (show 0 < w by omega)]
      unfold inRow endP at u1
      unfold inRow at u2
      unfold endP
      simp only at u1 u2 ⊢
      exact Prod.ext (by simp only; omega) (by simp only; omega)
    · omega
  rw [List.length_map, List.length_map] at h
  exact h
def InBox (p : Pt) : Prop := 0 ≤ p.1 ∧ p.1 ≤ 7 ∧ 1 ≤ p.2 ∧ p.2 ≤ LIM
theorem RowOk.box {r : Row} (h : RowOk r) {p : Pt} (i : inRow r p) : InBox p := by
  obtain ⟨a, b, c, d, e⟩ := h
  obtain ⟨i1, i2, i3⟩ := i
  unfold InBox
  omega
theorem rows_box {rs : List Row} (h : ∀ r ∈ rs, RowOk r) {p : Pt} (m : mem rs p) : InBox p := by
  obtain ⟨r, hr, i⟩ := m
  exact (h r hr).box i
theorem canon_ok {out : List Row} (c : Canon out) (h : ∀ p, mem out p → InBox p) : ∀ r ∈ out, RowOk r := fun r hr => by
  have a := h _ (c.last hr)
  have b := h _ (c.first hr)
  have o := c.ok r hr
  unfold InBox at a b
  unfold RowOk
  simp only at a b
  omega
/-! ### what the sums come to -/
def once (rs : List Row) : List WRow := rs.map fun r => (r, 1)
theorem cover_once (rs : List Row) (p : Pt) : 0 ≤ cover (once rs) p ∧ (1 ≤ cover (once rs) p ↔ mem rs p) := by
  induction rs with
  | nil => exact ⟨Int.le_refl _, fun h => absurd h (by show ¬ (1 : Int) ≤ 0; omega), fun h => absurd h mem_nil⟩
  | cons r rs ih =>
    have e : cover (once (r :: rs)) p = 1 * ind (inRow r p) + cover (once rs) p := rfl
    rw [e, mem_cons]
    rcases ind_or (inRow r p) with ⟨u, eu⟩ | ⟨u, eu⟩ <;> rw [eu]
    · exact ⟨by omega, fun _ => .inl u, fun _ => by omega⟩
    · refine ⟨by omega, fun h => .inr (ih.2.mp (by omega)), fun h => ?_⟩
      have := ih.2.mpr (h.resolve_left u)
      omega
instance (rs : List Row) (p : Pt) : Decidable (mem rs p) := by unfold mem; infer_instance
/-- of a canonical list each point is covered at most once -/
theorem cover_canon {rs : List Row} (c : Canon rs) (p : Pt) : cover (once rs) p = ind (mem rs p) := by
  induction rs with
  | nil => exact (ind_neg mem_nil).symm
  | cons r rs ih =>
    have e : cover (once (r :: rs)) p = 1 * ind (inRow r p) + cover (once rs) p := rfl
    rw [e, ih c.tail]
    rcases ind_or (inRow r p) with ⟨u, eu⟩ | ⟨u, eu⟩ <;> rw [eu]
    · have n : ¬ mem rs p := fun m => by
        have := c.later m
        obtain ⟨i1, i2, i3⟩ := u
        omega
      rw [ind_neg n, ind_pos (mem_cons.mpr (.inl u))]
      omega
    · by_cases m : mem rs p
      · rw [ind_pos m, ind_pos (mem_cons.mpr (.inr m))]; omega
      · rw [ind_neg m, ind_neg (fun z => (mem_cons.mp z).elim u m)]; omega
end Rw
namespace Rw
open PySem L2
/-! ### loops of comprehensions, by a walk -/
theorem it_by {J : It} {n : Nat} {G : Hp → Prop} {Y : Nat → Hp → V → Hp → Prop} (w : Walk J n G Y) {B : (Hp → Prop) → V → Hp → Prop} {H0 : Hp} {Qd : Hp → Prop} (Pv : Nat → Hp → Prop) (h0 : Pv 0 H0)
    (hG : ∀ i H, i ≤ n → Pv i H → G H) (hs : ∀ i x H H', i < n → Pv i H → Y i H x H' → B (Pv (i + 1)) x H') (hd : ∀ H, Pv n H → Qd H) :
    ∃ W : Nat → Nat → Hp → Prop, (∃ m, W 0 m H0) ∧ ∀ i m H, W i m H →
      (J.stop i H ∧ Qd H) ∨ (J.go i H ∧ ∃ Nx : Hp → Prop, (∀ H', Nx H' → ∃ m', m' < m ∧ W (i + 1) m' H') ∧ ∀ x H', J.yld i H x H' → B Nx x H') := by
  refine ⟨fun i m H => m = n - i ∧ i ≤ n ∧ Pv i H, ⟨n, by simp, Nat.zero_le _, h0⟩, ?_⟩
  rintro i m H ⟨rfl, hi, p⟩
  have g := hG i H hi p
  by_cases c : i < n
  · exact .inr ⟨w.goes i H c g, Pv (i + 1), fun H' p' => ⟨n - (i + 1), by omega, rfl, c, p'⟩, fun x H' y => hs i x H H' c p (w.yields i H x H' c g y)⟩
  · obtain rfl : i = n := by omega
    exact .inl ⟨w.stops H g, hd H p⟩
theorem RetL.step {α : Type} {M : Addr → Prop} {F H F1 H1 : Hp} {k : Kd α} {φ ψ : List α → Prop} {Q : VK} (X : Ext M F H F1 H1) (q : RetL M F H k ψ Q) (h : ∀ xs, φ xs → ψ xs) : RetL M0 F1 H1 k φ Q :=
  fun F' H' a vs xs X' ha fa hl hp hx => q F' H' a vs xs (X.trans X'.up) (X.free ha) fa hl hp (h xs hx)
/-- how many of some sets hold a point -/
def cnt : List (List Row) → Pt → Int
  | [], _ => 0
  | rs :: sets, p => ind (mem rs p) + cnt sets p
def total : List (List Row) → Nat
  | [] => 0
  | rs :: sets => rs.length + total sets
theorem cnt_snoc (p : Pt) (rs : List Row) : ∀ sets : List (List Row), cnt (sets ++ [rs]) p = cnt sets p + ind (mem rs p)
  | [] => by show ind _ + 0 = 0 + ind _; omega
  | x :: sets => by
    show ind _ + cnt (sets ++ [rs]) p = ind _ + cnt sets p + ind _
    rw [cnt_snoc p rs sets]; omega
theorem total_snoc (rs : List Row) : ∀ sets : List (List Row), total (sets ++ [rs]) = total sets + rs.length
  | [] => by show rs.length + 0 = 0 + rs.length; omega
  | x :: sets => by
    show x.length + total (sets ++ [rs]) = x.length + total sets + rs.length
    rw [total_snoc rs sets]; omega
theorem total_take (sets : List (List Row)) (i : Nat) : total (sets.take i) ≤ total sets := by
  induction sets generalizing i with
  | nil => simp [total]
  | cons x sets ih =>
    cases i with
    | zero => simp [total]
    | succ i =>
      have := ih i
      show x.length + total (sets.take i) ≤ x.length + total sets
      omega
def Valid (rs : List Row) : Prop := ∀ r ∈ rs, r.2.1 ≤ r.2.2
theorem wok_once {rs : List Row} (h : Valid rs) : Wok (once rs) := fun x hx => by
  obtain ⟨r, hr, rfl⟩ := List.mem_map.mp hx
  exact h r hr
structure Fewest (rs out : List Row) : Prop where
  can : Canon out
  mem : ∀ p, mem out p ↔ mem rs p
  len : out.length ≤ rs.length
def spFewest : Sp := fun vs H Q _ => ∃ (F : Hp) (v : V) (rs : List Row), vs = [v] ∧ Same F H ∧ (kL kRow).is F v rs ∧ Valid rs ∧ rs.length ≤ 100000 ∧ RetL M0 F H kRow (Fewest rs) Q
structure Held (sets : List (List Row)) (least : Int) (out : List Row) : Prop where
  can : Canon out
  mem : ∀ p, mem out p ↔ least ≤ cnt sets p
  len : out.length ≤ total sets
def spHeld : Sp := fun vs H Q _ => ∃ (F : Hp) (v : V) (sets : List (List Row)) (least : Int), vs = [v, .int least] ∧ Same F H ∧ (kL (kL kRow)).is F v sets ∧ (∀ rs ∈ sets, Valid rs) ∧ total sets ≤ 100000 ∧ 0 < least ∧ RetL M0 F H kRow (Held sets least) Q
structure Without (one other out : List Row) : Prop where
  can : Canon out
  mem : ∀ p, mem out p ↔ mem one p ∧ ¬ mem other p
  len : out.length ≤ one.length + other.length
def spWithout : Sp := fun vs H Q _ => ∃ (F : Hp) (v u : V) (one other : List Row), vs = [v, u] ∧ Same F H ∧ (kL kRow).is F v one ∧ (kL kRow).is F u other ∧ Valid one ∧ Valid other ∧ one.length ≤ 50000 ∧ other.length ≤ 50000 ∧ RetL M0 F H kRow (Without one other) Q
theorem once_len (rs : List Row) : (once rs).length = rs.length := List.length_map ..
theorem told_fewest {rs out : List Row} (t : Told (once rs) 1 out) : Fewest rs out := ⟨t.can, fun p => (t.mem p).trans (cover_once rs p).2, by have := t.len; rw [once_len] at this; exact this⟩
section
variable {P : Program} {w : World} {K : PySem.W.Frag} {mg : Str → Option Value} {base : Heap}
theorem ok_fewest {f : Addr} {fd : FuncData} (F0 : Fun K "fewest" "fewest" s_fewest f fd) (CR : Cal P w K mg base 2 "reaching" ["weighed", "least"] spReaching) : FnOk P w K mg base CX0 3 f fd ["rows"] spFewest := by
  obtain ⟨f1, fd1, G1, g1, kp1, b1⟩ := CR
  refine F0.ok sc_fewest (fun vs H Q E h => ?_) (fun cdv A outer s H vs Q E hr h => ?_)
  · obtain ⟨F, v, rs, rfl, _⟩ := h
    rfl
  · obtain ⟨F, v, rs, rfl, fh, ⟨a, xs, rfl, ha, hp⟩, hval, hlen, q⟩ := h
    refine ⟨_, pss_one (ps_ret (pe_call G1 hr (by rfl) g1 kp1 b1 .nil pass0 (pa_cons (pe_lc (own := [("row", 1)]) (g := gName 1) (tt := tYes) (by rfl) sc_fewest.nd (pi_list (pv 0))
      (blkOk_by (own := [("row", 1)]) (N := ["rows", "row"]) (sc := defScope s_fewest) (by decide +kernel)) (fun _ _ _ _ _ => pg_name (i := 1) sc_fewest.nd rfl (Or.inl rfl)) (fun _ _ _ _ _ => pts_nil)
      (fun _ _ _ _ _ => pe_tup (pa_cons (pv 1) (pa_cons pe_int pa_nil)))) (pa_cons pe_int pa_nil)))), ?_⟩
    refine ⟨_, rfl, a, rfl, ⟨_, SqL.of (fh _ _ ha)⟩, fun D nD => ?_⟩
    have fD : F D = none := fh.free nD
    refine it_by (walk_list (K := K) (a := a) (xs := xs)) (fun i H' => ∃ F' acc, Ext M0 F H F' H' ∧ H' D = some (.lst acc) ∧ F' D = none ∧ Paired (kW.is F') acc (once (rs.take i)))
      ⟨F, [], (Ext.refl fh).tmp nD, upd_same, fD, .nil⟩ (fun i H' _ ⟨_, _, X1, _⟩ => SqL.of (X1.fh _ _ (X1.ff _ _ ha))) ?_ ?_
    · rintro i x H1 _ hi ⟨F', acc, X1, hD, fD', hacc⟩ ⟨rfl, hx⟩
      obtain ⟨r, hri, hr1⟩ := pr_get hp hx
      refine ⟨rfl, ?_⟩
      refine ⟨_, rfl, (by show 2 ≤ sizeLine; decide), fun t nt => ?_⟩
      have Dt : D ≠ t := ne_of_none hD nt
      have la : acc.length ≤ rs.length := by rw [pr_len hacc, once_len]; exact List.length_take_le' i rs
      refine ⟨acc, by rw [upd_ne Dt]; exact hD, by rw [sizeLine_eq]; omega, ?_⟩
      have fD2 : upd F' t (.tup [x, .int 1]) D = none := by rw [upd_ne Dt]; exact fD'
      refine ⟨upd F' t (.tup [x, .int 1]), acc ++ [.ref t], (X1.lay nt).put (.inl nD) fD2, upd_same, fD2, ?_⟩
      rw [List.take_add_one, hri]
      have e : once (rs.take i ++ [r]) = once (rs.take i) ++ [(r, 1)] := List.map_append ..
      show Paired _ _ (once (rs.take i ++ [r]))
      rw [e]
      have sm : Same F' (upd F' t (.tup [x, .int 1])) := same_upd (X1.ffree nt)
      exact pr_snoc (pr_mono (fun _ _ z => kW.mono sm z) hacc) ⟨t, x, rfl, upd_same, kRow.mono (X1.ff.trans sm) hr1⟩
    · rintro H1 ⟨F', acc, X1, hD, fD', hacc⟩
      rw [pr_len hp, List.take_length] at hacc
      have X2 := X1.frz nD fD' hD
      refine ⟨upd F' D (.lst acc), .ref D, once rs, 1, rfl, X2.fh, kL_new fD' hacc, wok_once hval, by rw [once_len]; omega, by decide, RetL.step X2 q fun out t => told_fewest t⟩
end
end Rw
namespace Rw
open PySem L2
theorem kLL_get {α : Type} {k : Kd α} {F : Hp} {vs : List V} {xss : List (List α)} {i : Nat} {v : V} (h : Paired ((kL k).is F) vs xss) (e : vs[i]? = some v) : ∃ xs, xss[i]? = some xs ∧ (kL k).is F v xs := pr_get h e
theorem cover_append (as bs : List WRow) (p : Pt) : cover (as ++ bs) p = cover as p + cover bs p := S_append _ as bs
theorem wok_append {as bs : List WRow} (h : Wok as) (h' : Wok bs) : Wok (as ++ bs) := fun x hx => (List.mem_append.mp hx).elim (h x) (h' x)
theorem once_snoc (rs : List Row) (r : Row) : once (rs ++ [r]) = once rs ++ [(r, 1)] := List.map_append ..
theorem valid_canon {rs : List Row} (c : Canon rs) : Valid rs := c.ok
def anti (rs : List Row) : List WRow := rs.map fun r => (r, -1)
theorem cover_anti (rs : List Row) (p : Pt) : cover (anti rs) p = - cover (once rs) p := by
  induction rs with
  | nil => rfl
  | cons r rs ih =>
    have e1 : cover (anti (r :: rs)) p = -1 * ind (inRow r p) + cover (anti rs) p := rfl
    have e2 : cover (once (r :: rs)) p = 1 * ind (inRow r p) + cover (once rs) p := rfl
    rw [e1, e2, ih]; omega
theorem wok_anti {rs : List Row} (h : Valid rs) : Wok (anti rs) := fun x hx => by
  obtain ⟨r, hr, rfl⟩ := List.mem_map.mp hx
  exact h r hr
theorem told_without {one other kept out : List Row} (k : Fewest one kept) (t : Told (once kept ++ anti other) 1 out) : Without one other out := by
  refine ⟨t.can, fun p => ?_, ?_⟩
  · rw [t.mem p, cover_append, cover_anti, cover_canon k.can, ← k.mem p]
    have c := cover_once other p
    rcases ind_or (mem kept p) with ⟨u, eu⟩ | ⟨u, eu⟩ <;> rw [eu]
    · constructor
      · intro h; exact ⟨u, fun z => by have := c.2.mpr z; omega⟩
      · intro h
        have : ¬ 1 ≤ cover (once other) p := fun z => h.2 (c.2.mp z)
        omega
    · exact ⟨fun h => by omega, fun h => absurd h.1 u⟩
  · have h := t.len
    rw [List.length_append, once_len] at h
    have e : (anti other).length = other.length := List.length_map ..
    have := k.len
    omega
section
variable {P : Program} {w : World} {K : PySem.W.Frag} {mg : Str → Option Value} {base : Heap}
theorem ok_held_by_many {f : Addr} {fd : FuncData} (F0 : Fun K "held_by_many" "held_by_many" s_held_by_many f fd) (CR : Cal P w K mg base 2 "reaching" ["weighed", "least"] spReaching) (CF : Cal P w K mg base 3 "fewest" ["rows"] spFewest) :
    FnOk P w K mg base CX0 4 f fd ["sets", "least"] spHeld := by
  obtain ⟨f1, fd1, G1, g1, kp1, b1⟩ := CR
  obtain ⟨f2, fd2, G2, g2, kp2, b2⟩ := CF
  refine F0.ok sc_held_by_many (fun vs H Q E h => ?_) (fun cdv A outer s H vs Q E hr h => ?_)
  · obtain ⟨F, v, sets, least, rfl, _⟩ := h
    rfl
  · obtain ⟨F, v, sets, least, rfl, fh, ⟨a, xs, rfl, ha, hp⟩, hval, hlen, hle, q⟩ := h
    have hr1 : Room 2 _ := hr.mono (by decide)
    refine ⟨_, pss_one (ps_ret (pe_call G1 hr1 (by rfl) g1 kp1 b1 .nil pass0 (pa_cons (pe_lc2 (own := [("rows", 2), ("row", 3)]) (g := gName 2) (tt := tYes) (wi1 := iList K (tCall spFewest [] E0 (tCons (tVar 2) tNil))) (g1 := gName 3) (tt1 := tYes) (vs1 := [3]) (by rfl) sc_held_by_many.nd (pi_list (pv 0))
      (blkOk_by (own := [("rows", 2), ("row", 3)]) (N := ["sets", "least", "rows", "row"]) (sc := defScope s_held_by_many) (by decide +kernel)) (by decide)
      (fun _ _ _ _ _ => pg_name (i := 2) sc_held_by_many.nd rfl (Or.inl rfl)) (fun _ _ _ _ _ => pts_nil)
      (fun _ _ _ _ _ => pi_list (pe_call G2 hr (by rfl) g2 kp2 b2 .nil pass0 (pa_cons (pv 2) pa_nil)))
      (fun _ _ _ _ _ => pg_name (i := 3) sc_held_by_many.nd rfl (Or.inl rfl)) (fun _ _ _ _ _ => pts_nil)
      (fun _ _ _ _ _ => pe_tup (pa_cons (pv 3) (pa_cons pe_int pa_nil)))) (pa_cons (pv 1) pa_nil)))), ?_⟩
    refine ⟨_, rfl, a, rfl, ⟨_, SqL.of (fh _ _ ha)⟩, fun D nD => ?_⟩
    have fD : F D = none := fh.free nD
    refine it_by (walk_list (K := K) (a := a) (xs := xs)) (fun i H' => ∃ F' acc ws, Ext M0 F H F' H' ∧ H' D = some (.lst acc) ∧ F' D = none ∧ Paired (kW.is F') acc ws ∧ Wok ws ∧ (∀ p, cover ws p = cnt (sets.take i) p) ∧ ws.length ≤ total (sets.take i))
      ⟨F, [], [], (Ext.refl fh).tmp nD, upd_same, fD, .nil, fun x h => absurd h (by simp), fun _ => rfl, Nat.le_refl _⟩ (fun i H' _ ⟨_, _, _, X1, _⟩ => SqL.of (X1.fh _ _ (X1.ff _ _ ha))) ?_ ?_
    · rintro i x H1 _ hi ⟨F', acc, ws, X1, hD, fD', hacc, wok, hcov, hwl⟩ ⟨rfl, hx⟩
      obtain ⟨rs, hri, hrs⟩ := pr_get hp hx
      have hrm : rs ∈ sets := List.mem_of_getElem? hri
      have et : sets.take (i + 1) = sets.take i ++ [rs] := by rw [List.take_add_one, hri]; rfl
      have tl : total (sets.take i) + rs.length ≤ 100000 := by
        have h1 := total_take sets (i + 1)
        rw [et, total_snoc] at h1
        omega
      refine ⟨rfl, _, rfl, F', x, rs, rfl, X1.fh, (kL kRow).mono X1.ff hrs, hval rs hrm, by omega, fun F2 H2 b vs out X2 nb fb hb hout fw => ?_⟩
      refine ⟨b, rfl, ⟨vs, SqL.of hb⟩, ?_⟩
      have X3 := X1.trans X2
      have hD2 : H2 D = some (.lst acc) := X2.same _ _ hD
      have fD2 : F2 D = none := by rw [X2.new D (by rw [hD]; simp)]; exact fD'
      refine it_by (walk_list (K := K) (a := b) (xs := vs)) (fun j H' => ∃ F3 acc3, Ext M0 F H F3 H' ∧ H' D = some (.lst acc3) ∧ F3 D = none ∧ H' b = some (.lst vs) ∧ F3 b = none ∧ Paired (kRow.is F3) vs out ∧ Paired (kW.is F3) acc3 (ws ++ once (out.take j)))
        ⟨F2, acc, X3, hD2, fD2, hb, fb, hout, by rw [show once (out.take 0) = [] from rfl, List.append_nil]; exact pr_mono (fun _ _ z => kW.mono X2.ff z) hacc⟩ (fun j H' _ ⟨_, _, _, _, _, z, _⟩ => SqL.of z) ?_ ?_
      · rintro j y H3 _ hj ⟨F3, acc3, X4, hD3, fD3, hb3, fb3, hout3, hacc3⟩ ⟨rfl, hy⟩
        obtain ⟨r, hrj, hr3⟩ := pr_get hout3 hy
        refine ⟨rfl, _, rfl, (by show 2 ≤ sizeLine; decide), fun t nt => ?_⟩
        have Dt : D ≠ t := ne_of_none hD3 nt
        have bt : b ≠ t := ne_of_none hb3 nt
        have Db : b ≠ D := fun e => by rw [e] at nb; rw [nb] at hD; cases hD
        have la : acc3.length ≤ 100000 := by
          rw [pr_len hacc3, List.length_append, once_len]
          have h1 := List.length_take_le' j out
          have := fw.len
          omega
        refine ⟨acc3, by rw [upd_ne Dt]; exact hD3, by rw [sizeLine_eq]; omega, ?_⟩
        have fD4 : upd F3 t (.tup [y, .int 1]) D = none := by rw [upd_ne Dt]; exact fD3
        have sm : Same F3 (upd F3 t (.tup [y, .int 1])) := same_upd (X4.ffree nt)
        refine ⟨upd F3 t (.tup [y, .int 1]), acc3 ++ [.ref t], (X4.lay nt).put (.inl nD) fD4, upd_same, fD4, by rw [upd_ne Db, upd_ne bt]; exact hb3, by rw [upd_ne bt]; exact fb3, pr_mono (fun _ _ z => kRow.mono sm z) hout3, ?_⟩
        have eo : once (out.take (j + 1)) = once (out.take j) ++ [(r, 1)] := by rw [List.take_add_one, hrj]; exact once_snoc _ _
        rw [eo, ← List.append_assoc]
        exact pr_snoc (pr_mono (fun _ _ z => kW.mono sm z) hacc3) ⟨t, y, rfl, upd_same, kRow.mono sm hr3⟩
      · rintro H3 ⟨F3, acc3, X4, hD3, fD3, hb3, fb3, hout3, hacc3⟩
        rw [pr_len hout3, List.take_length] at hacc3
        refine ⟨F3, acc3, _, X4, hD3, fD3, hacc3, wok_append wok (wok_once (valid_canon fw.can)), fun p => ?_, ?_⟩
        · rw [cover_append, hcov p, cover_canon fw.can, et, cnt_snoc]
          have : ind (mem out p) = ind (mem rs p) := by
            rcases ind_or (mem rs p) with ⟨u, eu⟩ | ⟨u, eu⟩ <;> rw [eu]
            · exact ind_pos ((fw.mem p).mpr u)
            · exact ind_neg fun z => u ((fw.mem p).mp z)
          rw [this]
        · rw [List.length_append, once_len, et, total_snoc]
          have := fw.len
          omega
    · rintro H1 ⟨F', acc, ws, X1, hD, fD', hacc, wok, hcov, hwl⟩
      rw [pr_len hp, List.take_length] at hcov hwl
      have X2 := X1.frz nD fD' hD
      refine ⟨_, rfl, upd F' D (.lst acc), .ref D, ws, least, rfl, X2.fh, kL_new fD' hacc, wok, by omega, hle, RetL.step X2 q fun out t => ?_⟩
      exact ⟨t.can, fun p => by rw [t.mem p, hcov p], Nat.le_trans t.len hwl⟩
theorem ok_without {f : Addr} {fd : FuncData} (F0 : Fun K "without" "without" s_without f fd) (CR : Cal P w K mg base 2 "reaching" ["weighed", "least"] spReaching) (CF : Cal P w K mg base 3 "fewest" ["rows"] spFewest) :
    FnOk P w K mg base CX0 4 f fd ["one", "other"] spWithout := by
  obtain ⟨f1, fd1, G1, g1, kp1, b1⟩ := CR
  obtain ⟨f2, fd2, G2, g2, kp2, b2⟩ := CF
  refine F0.ok sc_without (fun vs H Q E h => ?_) (fun cdv A outer s H vs Q E hr h => ?_)
  · obtain ⟨F, v, u, one, other, rfl, _⟩ := h
    rfl
  · obtain ⟨F, v, u, one, other, rfl, fh, hv, ⟨b, ys, rfl, hb, hpb⟩, val1, val2, len1, len2, q⟩ := h
    have hr1 : Room 2 _ := hr.mono (by decide)
    refine ⟨_, pss_cons (ps_setLc (i := 2) (own := [("row", 4)]) (g := gName 4) (tt := tYes) (by rfl) sc_without.nd rfl rfl (sw_true rfl rfl rfl (by decide +kernel)) (pi_list (pe_call G2 hr (by rfl) g2 kp2 b2 .nil pass0 (pa_cons (pv 0) pa_nil)))
        (blkOk_by (own := [("row", 4)]) (N := ["one", "other", "kept", "barred", "row"]) (sc := defScope s_without) (by decide +kernel)) (fun _ _ _ _ _ => pg_name (i := 4) sc_without.nd rfl (Or.inl rfl)) (fun _ _ _ _ _ => pts_nil)
        (fun _ _ _ _ _ => pe_tup (pa_cons (pv 4) (pa_cons pe_int pa_nil))))
      (pss_cons (ps_setLc (i := 3) (own := [("row", 4)]) (g := gName 4) (tt := tYes) (by rfl) sc_without.nd rfl rfl (sw_true rfl rfl rfl (by decide +kernel)) (pi_list (pv 1))
        (blkOk_by (own := [("row", 4)]) (N := ["one", "other", "kept", "barred", "row"]) (sc := defScope s_without) (by decide +kernel)) (fun _ _ _ _ _ => pg_name (i := 4) sc_without.nd rfl (Or.inl rfl)) (fun _ _ _ _ _ => pts_nil)
        (fun _ _ _ _ _ => pe_tup (pa_cons (pv 4) (pa_cons (pe_un un_neg pe_int) pa_nil))))
      (pss_one (ps_ret (pe_call G1 hr1 (by rfl) g1 kp1 b1 .nil pass0 (pa_cons (pe_op op_cat (pv 2) (pv 3)) (pa_cons pe_int pa_nil)))))), ?_⟩
    have hr3 : Room 3 _ := hr.mono (by decide)
    refine ⟨_, rfl, F, v, one, rfl, fh, hv, val1, by omega, fun F1 H1 c vs out X1 nc fc hc hout fw => ?_⟩
    refine ⟨c, rfl, ⟨vs, SqL.of hc⟩, fun D nD => ?_⟩
    have HD : H D = none := X1.free nD
    have cD : c ≠ D := ne_of_none hc nD
    have lo : out.length ≤ 50000 := Nat.le_trans fw.len len1
    refine it_by (walk_list (K := K) (a := c) (xs := vs)) (fun i H' => ∃ F' acc, Ext M0 F H F' H' ∧ H' D = some (.lst acc) ∧ F' D = none ∧ H' c = some (.lst vs) ∧ Paired (kRow.is F') vs out ∧ Paired (kW.is F') acc (once (out.take i)))
      ⟨F1, [], X1.tmp nD, upd_same, X1.ffree nD, by rw [upd_ne cD]; exact hc, hout, .nil⟩ (fun i H' _ ⟨_, _, _, _, _, z, _⟩ => SqL.of z) ?_ ?_
    · rintro i x H2 _ hi ⟨F', acc, X2, hD, fD, hc2, hout2, hacc⟩ ⟨rfl, hx⟩
      obtain ⟨r, hri, hr2⟩ := pr_get hout2 hx
      refine ⟨rfl, _, rfl, (by show 2 ≤ sizeLine; decide), fun t nt => ?_⟩
      have Dt : D ≠ t := ne_of_none hD nt
      have ct : c ≠ t := ne_of_none hc2 nt
      have la : acc.length ≤ 50000 := by
        rw [pr_len hacc, once_len]
        have h1 := List.length_take_le' i out
        omega
      refine ⟨acc, by rw [upd_ne Dt]; exact hD, by rw [sizeLine_eq]; omega, ?_⟩
      have fD2 : upd F' t (.tup [x, .int 1]) D = none := by rw [upd_ne Dt]; exact fD
      have sm : Same F' (upd F' t (.tup [x, .int 1])) := same_upd (X2.ffree nt)
      refine ⟨upd F' t (.tup [x, .int 1]), acc ++ [.ref t], (X2.lay nt).put (.inl HD) fD2, upd_same, fD2, by rw [upd_ne cD, upd_ne ct]; exact hc2, pr_mono (fun _ _ z => kRow.mono sm z) hout2, ?_⟩
      have eo : once (out.take (i + 1)) = once (out.take i) ++ [(r, 1)] := by rw [List.take_add_one, hri]; exact once_snoc _ _
      rw [eo]
      exact pr_snoc (pr_mono (fun _ _ z => kW.mono sm z) hacc) ⟨t, x, rfl, upd_same, kRow.mono sm hr2⟩
    · rintro H2 ⟨F', acc, X2, hD, fD, hc2, hout2, hacc⟩
      rw [pr_len hout2, List.take_length] at hacc
      refine ⟨_, rfl, b, rfl, ⟨_, SqL.of (X2.fh _ _ (X2.ff _ _ hb))⟩, fun D2 nD2 => ?_⟩
      have HD2 : H D2 = none := X2.free nD2
      have DD : D ≠ D2 := ne_of_none hD nD2
      refine it_by (walk_list (K := K) (a := b) (xs := ys)) (fun i H' => ∃ F' acc2, Ext M0 F H F' H' ∧ H' D2 = some (.lst acc2) ∧ F' D2 = none ∧ H' D = some (.lst acc) ∧ F' D = none ∧ Paired (kW.is F') acc (once out) ∧ Paired (kW.is F') acc2 (anti (other.take i)))
        ⟨F', [], X2.tmp nD2, upd_same, X2.ffree nD2, by rw [upd_ne DD]; exact hD, fD, hacc, .nil⟩ (fun i H' _ ⟨_, _, z, _⟩ => SqL.of (z.fh _ _ (z.ff _ _ hb))) ?_ ?_
      · rintro i x H3 _ hi ⟨F3, acc2, X3, hD2, fD2, hD3, fD3, hacc3, hacc2⟩ ⟨rfl, hx⟩
        obtain ⟨r, hri, hr2⟩ := pr_get hpb hx
        refine ⟨rfl, _, rfl, 1, rfl, (by show 2 ≤ sizeLine; decide), fun t nt => ?_⟩
        have Dt : D2 ≠ t := ne_of_none hD2 nt
        have ct : D ≠ t := ne_of_none hD3 nt
        have la : acc2.length ≤ 50000 := by
          have e : (anti (other.take i)).length = (other.take i).length := List.length_map ..
          rw [pr_len hacc2, e]
          have h1 := List.length_take_le' i other
          omega
        refine ⟨acc2, by rw [upd_ne Dt]; exact hD2, by rw [sizeLine_eq]; omega, ?_⟩
        have fD4 : upd F3 t (.tup [x, .int (-1)]) D2 = none := by rw [upd_ne Dt]; exact fD2
        have sm : Same F3 (upd F3 t (.tup [x, .int (-1)])) := same_upd (X3.ffree nt)
        refine ⟨upd F3 t (.tup [x, .int (-1)]), acc2 ++ [.ref t], (X3.lay nt).put (.inl HD2) fD4, upd_same, fD4, by rw [upd_ne DD, upd_ne ct]; exact hD3, by rw [upd_ne ct]; exact fD3, pr_mono (fun _ _ z => kW.mono sm z) hacc3, ?_⟩
        have eo : anti (other.take (i + 1)) = anti (other.take i) ++ [(r, -1)] := by rw [List.take_add_one, hri]; exact List.map_append ..
        rw [eo]
        exact pr_snoc (pr_mono (fun _ _ z => kW.mono sm z) hacc2) ⟨t, x, rfl, upd_same, kRow.mono (X3.ff.trans sm) hr2⟩
      · rintro H3 ⟨F3, acc2, X3, hD2, fD2, hD3, fD3, hacc3, hacc2⟩
        rw [pr_len hpb, List.take_length] at hacc2
        have l1 : acc.length = out.length := by rw [pr_len hacc3, once_len]
        have l2 : acc2.length = other.length := by rw [pr_len hacc2]; exact List.length_map ..
        refine ⟨_, rfl, _, rfl, D, D2, acc, acc2, rfl, rfl, hD3, hD2, by rw [sizeLine_eq]; omega, fun p np => ?_⟩
        have X4 := X3.lay (o := .lst (acc ++ acc2)) np
        refine ⟨upd F3 p (.lst (acc ++ acc2)), .ref p, once out ++ anti other, 1, rfl, X4.fh, kL_new (X3.ffree np) (pr_append hacc3 hacc2), wok_append (wok_once (valid_canon fw.can)) (wok_anti val2), ?_, by decide, RetL.step X4 q fun o t => told_without fw t⟩
        have e : (anti other).length = other.length := List.length_map ..
        rw [List.length_append, once_len, e]
        omega
end
end Rw
namespace Rw
open PySem L2
theorem eqv_row (r s : Row) : PyData.eqv (dRow r) (dRow s) = decide (r = s) := by
  obtain ⟨a, b, c⟩ := r
  obtain ⟨a', b', c'⟩ := s
  unfold dRow
  simp only [PyData.eqv, PyData.eqvAll, Bool.and_true]
  by_cases e1 : a = a' <;> by_cases e2 : b = b' <;> by_cases e3 : c = c' <;> simp [e1, e2, e3]
theorem eqvAll_rows : ∀ xs ys : List Row, PyData.eqvAll (xs.map dRow) (ys.map dRow) = decide (xs = ys)
  | [], [] => rfl
  | [], _ :: _ => by simp [PyData.eqvAll]
  | _ :: _, [] => by simp [PyData.eqvAll]
  | x :: xs, y :: ys => by
    rw [List.map_cons, List.map_cons, PyData.eqvAll, eqv_row, eqvAll_rows xs ys]
    by_cases e1 : x = y <;> by_cases e2 : xs = ys <;> simp [e1, e2]
theorem eqv_rows (xs ys : List Row) : PyData.eqv (dL dRow xs) (dL dRow ys) = decide (xs = ys) := by
  unfold dL
  rw [PyData.eqv]
  exact eqvAll_rows xs ys
theorem canLay_rows : ∀ xs : List Row, PyData.canLayAll0 (xs.map dRow) = true
  | [] => rfl
  | x :: xs => by
    rw [List.map_cons, PyData.canLayAll0, canLay_rows xs]
    simp [dRow, PyData.canLay0, PyData.canLayAll0]
theorem depth_rows : ∀ xs : List Row, PyData.depthAll (xs.map dRow) ≤ 1
  | [] => by simp [PyData.depthAll]
  | x :: xs => by
    rw [List.map_cons, PyData.depthAll]
    have := depth_rows xs
    have h : (dRow x).depth ≤ 1 := by simp [dRow, PyData.depth, PyData.depthAll]
    omega
theorem shaped_rows (xs : List Row) : SeqAt.shaped (dL dRow xs) = true := by
  unfold SeqAt.shaped dL
  rw [PyData.canLay0, canLay_rows, PyData.depth]
  have := depth_rows xs
  simp
  omega
end Rw
namespace Rw
open PySem L2
theorem rows_valid {rs : List Row} (h : ∀ r ∈ rs, RowOk r) : Valid rs := fun r hr => (h r hr).2.2.2.1
def spPlain : Sp := fun vs H Q _ => ∃ (F : Hp) (v : V) (rs : List Row), vs = [v] ∧ Same F H ∧ (kL kRow).is F v rs ∧ RowsOk rs ∧ RetL M0 F H kRow (Fewest rs) Q
/-- of two sets: which points are told -/
structure Of2 (one other : List Row) (φ : Prop → Prop → Prop) (out : List Row) : Prop where
  can : Canon out
  mem : ∀ p, mem out p ↔ φ (mem one p) (mem other p)
  len : out.length ≤ one.length + other.length
def sp2 (φ : Prop → Prop → Prop) : Sp := fun vs H Q _ => ∃ (F : Hp) (v u : V) (one other : List Row), vs = [v, u] ∧ Same F H ∧ (kL kRow).is F v one ∧ (kL kRow).is F u other ∧ RowsOk one ∧ RowsOk other ∧ RetL M0 F H kRow (Of2 one other φ) Q
abbrev fOr : Prop → Prop → Prop := fun a b => a ∨ b
abbrev fAnd : Prop → Prop → Prop := fun a b => a ∧ b
abbrev fLess : Prop → Prop → Prop := fun a b => a ∧ ¬ b
def spByMany : Sp := fun vs H Q _ => ∃ (F : Hp) (v : V) (sets : List (List Row)) (least : Int), vs = [v, .int least] ∧ Same F H ∧ (kL (kL kRow)).is F v sets ∧ (∀ rs ∈ sets, RowsOk rs) ∧ sets.length ≤ 100 ∧ 1 ≤ least ∧ least ≤ sets.length ∧ RetL M0 F H kRow (Held sets least) Q
def fore (rs : List Row) : List Row := rs.map fun r => (r.1, 1, r.2.2)
def spGaps : Sp := fun vs H Q _ => ∃ (F : Hp) (v : V) (rs : List Row), vs = [v] ∧ Same F H ∧ (kL kRow).is F v rs ∧ RowsOk rs ∧ RetL M0 F H kRow (Without (fore rs) rs) Q
def spWithin : Sp := fun vs H Q _ => ∃ (F : Hp) (v u : V) (one other : List Row), vs = [v, u] ∧ Same F H ∧ (kL kRow).is F v one ∧ (kL kRow).is F u other ∧ RowsOk one ∧ RowsOk other ∧
  ∀ (b : Bool) (F' H' : Hp), Ext M0 F H F' H' → (b = true ↔ ∀ p, mem one p → mem other p) → Q (.bl b) H'
/-- up to where there is no gap -/
structure Whole (rs : List Row) (h z : Int) : Prop where
  nn : 0 ≤ z
  all : ∀ n, 1 ≤ n → n ≤ z → mem rs (h, n)
  stop : ¬ mem rs (h, z + 1)
def spWholeTo : Sp := fun vs H Q _ => ∃ (F : Hp) (v : V) (rs : List Row) (h : Int), vs = [v, .int h] ∧ Same F H ∧ (kL kRow).is F v rs ∧ RowsOk rs ∧ 0 ≤ h ∧ h ≤ 7 ∧ ∀ (z : Int) (F' H' : Hp), Ext M0 F H F' H' → Whole rs h z → Q (.int z) H'
theorem ext_of_same {F H H' : Hp} (s : Same F H) (t : Same H H') : Ext M0 F H F H' :=
  ⟨Same.refl F, s.trans t, fun b o h _ => t b o h, fun b h e => h (t.free e), fun _ _ => rfl⟩
section
variable {P : Program} {w : World} {K : PySem.W.Frag} {mg : Str → Option Value} {base : Heap}
abbrev CalCheck (P : Program) (w : World) (K : PySem.W.Frag) (mg : Str → Option Value) (base : Heap) := Cal P w K mg base 5 "check_rows" ["rows"] spCheckRows
theorem ok_plain {f : Addr} {fd : FuncData} (F0 : Fun K "plain" "plain" s_plain f fd) (CC : CalCheck P w K mg base) (CF : Cal P w K mg base 3 "fewest" ["rows"] spFewest) : FnOk P w K mg base CX0 6 f fd ["rows"] spPlain := by
  obtain ⟨f1, fd1, G1, g1, kp1, b1⟩ := CC
  obtain ⟨f2, fd2, G2, g2, kp2, b2⟩ := CF
  refine F0.ok sc_plain (fun vs H Q E h => ?_) (fun cdv A outer s H vs Q E hr h => ?_)
  · obtain ⟨F, v, rs, rfl, _⟩ := h
    rfl
  · obtain ⟨F, v, rs, rfl, fh, hv, hok, q⟩ := h
    have hr2 : Room 3 _ := hr.mono (by decide)
    refine ⟨_, pss_cons (ps_expr (pe_call G1 hr (by rfl) g1 kp1 b1 .nil pass0 (pa_cons (pv 0) pa_nil))) (pss_one (ps_ret (pe_call G2 hr2 (by rfl) g2 kp2 b2 .nil pass0 (pa_cons (pv 0) pa_nil)))), ?_⟩
    refine ⟨_, rfl, v, rs, rfl, (kL kRow).mono fh hv, hok, fun H1 s1 => ?_⟩
    have X := ext_of_same fh s1
    have hl := hok.1
    exact ⟨_, rfl, F, v, rs, rfl, X.fh, hv, rows_valid hok.2, by omega, RetL.step X q fun _ h => h⟩
theorem two_sets {F' : Hp} {v u : V} {one other : List Row} (h1 : (kL kRow).is F' v one) (h2 : (kL kRow).is F' u other) : Paired ((kL kRow).is F') [v, u] [one, other] := .cons h1 (.cons h2 .nil)
theorem ok_joined {f : Addr} {fd : FuncData} (F0 : Fun K "joined" "joined" s_joined f fd) (CC : CalCheck P w K mg base) (CH : Cal P w K mg base 4 "held_by_many" ["sets", "least"] spHeld) : FnOk P w K mg base CX0 6 f fd ["one", "other"] (sp2 fOr) := by
  obtain ⟨f1, fd1, G1, g1, kp1, b1⟩ := CC
  obtain ⟨f2, fd2, G2, g2, kp2, b2⟩ := CH
  refine F0.ok sc_joined (fun vs H Q E h => ?_) (fun cdv A outer s H vs Q E hr h => ?_)
  · obtain ⟨F, v, u, one, other, rfl, _⟩ := h
    rfl
  · obtain ⟨F, v, u, one, other, rfl, fh, hv, hu, ok1, ok2, q⟩ := h
    have hr2 : Room 4 _ := hr.mono (by decide)
    refine ⟨_, pss_cons (ps_expr (pe_call G1 hr (by rfl) g1 kp1 b1 .nil pass0 (pa_cons (pv 0) pa_nil))) (pss_cons (ps_expr (pe_call G1 hr (by rfl) g1 kp1 b1 .nil pass0 (pa_cons (pv 1) pa_nil)))
      (pss_one (ps_ret (pe_call G2 hr2 (by rfl) g2 kp2 b2 .nil pass0 (pa_cons (pe_lst (pa_cons (pv 0) (pa_cons (pv 1) pa_nil))) (pa_cons pe_int pa_nil)))))), ?_⟩
    refine ⟨_, rfl, v, one, rfl, (kL kRow).mono fh hv, ok1, fun H1 s1 => ?_⟩
    refine ⟨_, rfl, u, other, rfl, (kL kRow).mono (fh.trans s1) hu, ok2, fun H2 s2 => ?_⟩
    have X := ext_of_same fh (s1.trans s2)
    refine ⟨_, rfl, _, rfl, (by show 2 ≤ sizeLine; decide), fun p np => ?_⟩
    have X2 := X.lay (o := .lst [v, u]) np
    have l1 := ok1.1
    have l2 := ok2.1
    refine ⟨_, .ref p, [one, other], 1, rfl, X2.fh, kL_new (k := kL kRow) (X.ffree np) (two_sets hv hu), fun rs h => ?_, ?_, by decide, RetL.step X2 q fun out t => ⟨t.can, fun p => ?_, t.len⟩⟩
    · rcases List.mem_cons.mp h with e | h
      · rw [e]; exact rows_valid ok1.2
      · rw [List.mem_singleton.mp h]; exact rows_valid ok2.2
    · show one.length + (other.length + 0) ≤ _; omega
    · rw [t.mem p]
      show 1 ≤ ind (mem one p) + (ind (mem other p) + 0) ↔ mem one p ∨ mem other p
      rcases ind_or (mem one p) with ⟨a, ea⟩ | ⟨a, ea⟩ <;> rcases ind_or (mem other p) with ⟨b, eb⟩ | ⟨b, eb⟩ <;> rw [ea, eb] <;> simp [a, b]
theorem ok_common {f : Addr} {fd : FuncData} (F0 : Fun K "common" "common" s_common f fd) (CC : CalCheck P w K mg base) (CH : Cal P w K mg base 4 "held_by_many" ["sets", "least"] spHeld) : FnOk P w K mg base CX0 6 f fd ["one", "other"] (sp2 fAnd) := by
  obtain ⟨f1, fd1, G1, g1, kp1, b1⟩ := CC
  obtain ⟨f2, fd2, G2, g2, kp2, b2⟩ := CH
  refine F0.ok sc_common (fun vs H Q E h => ?_) (fun cdv A outer s H vs Q E hr h => ?_)
  · obtain ⟨F, v, u, one, other, rfl, _⟩ := h
    rfl
  · obtain ⟨F, v, u, one, other, rfl, fh, hv, hu, ok1, ok2, q⟩ := h
    have hr2 : Room 4 _ := hr.mono (by decide)
    refine ⟨_, pss_cons (ps_expr (pe_call G1 hr (by rfl) g1 kp1 b1 .nil pass0 (pa_cons (pv 0) pa_nil))) (pss_cons (ps_expr (pe_call G1 hr (by rfl) g1 kp1 b1 .nil pass0 (pa_cons (pv 1) pa_nil)))
      (pss_one (ps_ret (pe_call G2 hr2 (by rfl) g2 kp2 b2 .nil pass0 (pa_cons (pe_lst (pa_cons (pv 0) (pa_cons (pv 1) pa_nil))) (pa_cons pe_int pa_nil)))))), ?_⟩
    refine ⟨_, rfl, v, one, rfl, (kL kRow).mono fh hv, ok1, fun H1 s1 => ?_⟩
    refine ⟨_, rfl, u, other, rfl, (kL kRow).mono (fh.trans s1) hu, ok2, fun H2 s2 => ?_⟩
    have X := ext_of_same fh (s1.trans s2)
    refine ⟨_, rfl, _, rfl, (by show 2 ≤ sizeLine; decide), fun p np => ?_⟩
    have X2 := X.lay (o := .lst [v, u]) np
    have l1 := ok1.1
    have l2 := ok2.1
    refine ⟨_, .ref p, [one, other], 2, rfl, X2.fh, kL_new (k := kL kRow) (X.ffree np) (two_sets hv hu), fun rs h => ?_, ?_, by decide, RetL.step X2 q fun out t => ⟨t.can, fun p => ?_, t.len⟩⟩
    · rcases List.mem_cons.mp h with e | h
      · rw [e]; exact rows_valid ok1.2
      · rw [List.mem_singleton.mp h]; exact rows_valid ok2.2
    · show one.length + (other.length + 0) ≤ _; omega
    · rw [t.mem p]
      show 2 ≤ ind (mem one p) + (ind (mem other p) + 0) ↔ mem one p ∧ mem other p
      rcases ind_or (mem one p) with ⟨a, ea⟩ | ⟨a, ea⟩ <;> rcases ind_or (mem other p) with ⟨b, eb⟩ | ⟨b, eb⟩ <;> rw [ea, eb] <;> simp [a, b]
theorem ok_less {f : Addr} {fd : FuncData} (F0 : Fun K "less" "less" s_less f fd) (CC : CalCheck P w K mg base) (CW : Cal P w K mg base 4 "without" ["one", "other"] spWithout) : FnOk P w K mg base CX0 6 f fd ["one", "other"] (sp2 fLess) := by
  obtain ⟨f1, fd1, G1, g1, kp1, b1⟩ := CC
  obtain ⟨f2, fd2, G2, g2, kp2, b2⟩ := CW
  refine F0.ok sc_less (fun vs H Q E h => ?_) (fun cdv A outer s H vs Q E hr h => ?_)
  · obtain ⟨F, v, u, one, other, rfl, _⟩ := h
    rfl
  · obtain ⟨F, v, u, one, other, rfl, fh, hv, hu, ok1, ok2, q⟩ := h
    have hr2 : Room 4 _ := hr.mono (by decide)
    refine ⟨_, pss_cons (ps_expr (pe_call G1 hr (by rfl) g1 kp1 b1 .nil pass0 (pa_cons (pv 0) pa_nil))) (pss_cons (ps_expr (pe_call G1 hr (by rfl) g1 kp1 b1 .nil pass0 (pa_cons (pv 1) pa_nil)))
      (pss_one (ps_ret (pe_call G2 hr2 (by rfl) g2 kp2 b2 .nil pass0 (pa_cons (pv 0) (pa_cons (pv 1) pa_nil)))))), ?_⟩
    refine ⟨_, rfl, v, one, rfl, (kL kRow).mono fh hv, ok1, fun H1 s1 => ?_⟩
    refine ⟨_, rfl, u, other, rfl, (kL kRow).mono (fh.trans s1) hu, ok2, fun H2 s2 => ?_⟩
    have X := ext_of_same fh (s1.trans s2)
    have l1 := ok1.1
    have l2 := ok2.1
    exact ⟨_, rfl, _, rfl, F, v, u, one, other, rfl, X.fh, hv, hu, rows_valid ok1.2, rows_valid ok2.2, by omega, by omega, RetL.step X q fun out t => ⟨t.can, t.mem, t.len⟩⟩
theorem ok_within {f : Addr} {fd : FuncData} (F0 : Fun K "within" "within" s_within f fd) (CC : CalCheck P w K mg base) (CW : Cal P w K mg base 4 "without" ["one", "other"] spWithout) : FnOk P w K mg base CX0 6 f fd ["one", "other"] spWithin := by
  obtain ⟨f1, fd1, G1, g1, kp1, b1⟩ := CC
  obtain ⟨f2, fd2, G2, g2, kp2, b2⟩ := CW
  refine F0.ok sc_within (fun vs H Q E h => ?_) (fun cdv A outer s H vs Q E hr h => ?_)
  · obtain ⟨F, v, u, one, other, rfl, _⟩ := h
    rfl
  · obtain ⟨F, v, u, one, other, rfl, fh, hv, hu, ok1, ok2, q⟩ := h
    have hr2 : Room 4 _ := hr.mono (by decide)
    refine ⟨_, pss_cons (ps_expr (pe_call G1 hr (by rfl) g1 kp1 b1 .nil pass0 (pa_cons (pv 0) pa_nil))) (pss_cons (ps_expr (pe_call G1 hr (by rfl) g1 kp1 b1 .nil pass0 (pa_cons (pv 1) pa_nil)))
      (pss_one (ps_ret (pe_cmpR (op_eqD hr.units) (pe_call G2 hr2 (by rfl) g2 kp2 b2 .nil pass0 (pa_cons (pv 0) (pa_cons (pv 1) pa_nil))) (pe_lst pa_nil) (nomark _))))), ?_⟩
    refine ⟨_, rfl, v, one, rfl, (kL kRow).mono fh hv, ok1, fun H1 s1 => ?_⟩
    refine ⟨_, rfl, u, other, rfl, (kL kRow).mono (fh.trans s1) hu, ok2, fun H2 s2 => ?_⟩
    have X := ext_of_same fh (s1.trans s2)
    have l1 := ok1.1
    have l2 := ok2.1
    refine ⟨_, rfl, _, rfl, F, v, u, one, other, rfl, X.fh, hv, hu, rows_valid ok1.2, rows_valid ok2.2, by omega, by omega, fun F3 H3 a xs out X3 na fa ha hout t => ?_⟩
    refine ⟨Nat.zero_le _, fun p np => ?_⟩
    have X4 := X3.frz na fa ha
    have s4 : Same (upd F3 a (.lst xs)) (upd H3 p (.lst [])) := X4.fh.trans (same_upd np)
    refine ⟨dL dRow out, dL dRow [], (enc_L enc_row).dp s4 (kL_new fa hout), (enc_L enc_row).dp (k := kL kRow) (Same.refl _) ⟨p, [], rfl, upd_same, .nil⟩, shaped_rows _, shaped_rows _, ?_⟩
    rw [eqv_rows]
    refine q _ F3 _ (X.trans (X3.tmp np)) ?_
    rw [decide_eq_true_eq]
    constructor
    · intro e p hp
      exact Classical.byContradiction fun z => by
        have := (t.mem p).mpr ⟨hp, z⟩
        rw [e] at this
        exact mem_nil this
    · intro h
      cases out with
      | nil => rfl
      | cons r rest =>
        have m := t.can.first List.mem_cons_self
        have := (t.mem _).mp m
        exact absurd (h _ this.1) this.2
end
end Rw
namespace Rw
open PySem L2
theorem total_le {n : Nat} : ∀ {sets : List (List Row)}, (∀ rs ∈ sets, rs.length ≤ n) → total sets ≤ n * sets.length
  | [], _ => Nat.zero_le _
  | rs :: sets, h => by
    have h1 := h rs List.mem_cons_self
    have h2 := total_le (sets := sets) fun x hx => h x (List.mem_cons_of_mem _ hx)
    show rs.length + total sets ≤ n * (sets.length + 1)
    rw [Nat.mul_add]; omega
section
variable {P : Program} {w : World} {K : PySem.W.Frag} {mg : Str → Option Value} {base : Heap}
theorem ok_gaps {f : Addr} {fd : FuncData} (F0 : Fun K "gaps" "gaps" s_gaps f fd) (CC : CalCheck P w K mg base) (CW : Cal P w K mg base 4 "without" ["one", "other"] spWithout) : FnOk P w K mg base CX0 6 f fd ["rows"] spGaps := by
  obtain ⟨f1, fd1, G1, g1, kp1, b1⟩ := CC
  obtain ⟨f2, fd2, G2, g2, kp2, b2⟩ := CW
  refine F0.ok sc_gaps (fun vs H Q E h => ?_) (fun cdv A outer s H vs Q E hr h => ?_)
  · obtain ⟨F, v, rs, rfl, _⟩ := h
    rfl
  · obtain ⟨F, v, rs, rfl, fh, ⟨a, xs, rfl, ha, hp⟩, hok, q⟩ := h
    have hr2 : Room 4 _ := hr.mono (by decide)
    refine ⟨_, pss_cons (ps_expr (pe_call G1 hr (by rfl) g1 kp1 b1 .nil pass0 (pa_cons (pv 0) pa_nil)))
      (pss_one (ps_ret (pe_call G2 hr2 (by rfl) g2 kp2 b2 .nil pass0 (pa_cons (pe_lc (own := [("house", 1), ("_", 2), ("last", 3)]) (g := gTup K 3 (gCons (gName 1) (gCons (gName 2) (gCons (gName 3) gNil)))) (tt := tYes) (by rfl) sc_gaps.nd (pi_list (pv 0))
        (blkOk_by (own := [("house", 1), ("_", 2), ("last", 3)]) (N := ["rows", "house", "_", "last"]) (sc := defScope s_gaps) (by decide +kernel))
        (fun _ _ _ _ _ => pg_tup (by rfl) (pgs_cons (pg_name (i := 1) sc_gaps.nd rfl (Or.inl rfl)) (pgs_cons (pg_name (i := 2) sc_gaps.nd rfl (Or.inl rfl)) (pgs_cons (pg_name (i := 3) sc_gaps.nd rfl (Or.inl rfl)) pgs_nil)))) (fun _ _ _ _ _ => pts_nil)
        (fun _ _ _ _ _ => pe_tup (pa_cons (pv 1) (pa_cons pe_int (pa_cons (pv 3) pa_nil))))) (pa_cons (pv 0) pa_nil))))), ?_⟩
    refine ⟨_, rfl, .ref a, rs, rfl, (kL kRow).mono fh ⟨a, xs, rfl, ha, hp⟩, hok, fun H1 s1 => ?_⟩
    have X1 := ext_of_same fh s1
    refine ⟨_, rfl, a, rfl, ⟨_, SqL.of (X1.fh _ _ ha)⟩, fun D nD => ?_⟩
    have HD : H D = none := X1.free nD
    refine it_by (walk_list (K := K) (a := a) (xs := xs)) (fun i H' => ∃ F' acc, Ext M0 F H F' H' ∧ H' D = some (.lst acc) ∧ F' D = none ∧ Paired (kRow.is F') acc (fore (rs.take i)))
      ⟨F, [], X1.tmp nD, upd_same, X1.ffree nD, .nil⟩ (fun i H' _ ⟨_, _, z, _⟩ => SqL.of (z.fh _ _ (z.ff _ _ ha))) ?_ ?_
    · rintro i x H2 _ hi ⟨F', acc, X2, hD, fD, hacc⟩ ⟨rfl, hx⟩
      obtain ⟨r, hri, tr, rfl, htr⟩ := pr_get hp hx
      refine ⟨tr, _, rfl, SqT.of (X2.fh _ _ (X2.ff _ _ htr)), rfl, _, _, rfl, _, _, rfl, _, _, rfl, rfl, rfl, _, rfl, _, rfl, (by show 3 ≤ sizeLine; decide), fun t nt => ?_⟩
      have Dt : D ≠ t := ne_of_none hD nt
      have la : acc.length ≤ 200 := by
        have e : (fore (rs.take i)).length = (rs.take i).length := List.length_map ..
        rw [pr_len hacc, e]
        have h1 := List.length_take_le' i rs
        have := hok.1
        omega
      refine ⟨acc, by rw [upd_ne Dt]; exact hD, by rw [sizeLine_eq]; omega, ?_⟩
      have fD2 : upd F' t (.tup [.int r.1, .int 1, .int r.2.2]) D = none := by rw [upd_ne Dt]; exact fD
      have sm : Same F' (upd F' t (.tup [.int r.1, .int 1, .int r.2.2])) := same_upd (X2.ffree nt)
      refine ⟨upd F' t (.tup [.int r.1, .int 1, .int r.2.2]), acc ++ [.ref t], (X2.lay nt).put (.inl HD) fD2, upd_same, fD2, ?_⟩
      have eo : fore (rs.take (i + 1)) = fore (rs.take i) ++ [(r.1, 1, r.2.2)] := by rw [List.take_add_one, hri]; exact List.map_append ..
      rw [eo]
      exact pr_snoc (pr_mono (fun _ _ z => kRow.mono sm z) hacc) ⟨t, rfl, upd_same⟩
    · rintro H2 ⟨F', acc, X2, hD, fD, hacc⟩
      rw [pr_len hp, List.take_length] at hacc
      have X3 := X2.frz HD fD hD
      have e : (fore rs).length = rs.length := List.length_map ..
      have hl := hok.1
      refine ⟨_, rfl, upd F' D (.lst acc), .ref D, .ref a, fore rs, rs, rfl, X3.fh, kL_new fD hacc, (kL kRow).mono X3.ff ⟨a, xs, rfl, ha, hp⟩, fun r hr => ?_, rows_valid hok.2, by omega, by omega, RetL.step X3 q fun _ h => h⟩
      obtain ⟨r', hr', rfl⟩ := List.mem_map.mp hr
      obtain ⟨_, _, h3, h4, _⟩ := hok.2 r' hr'
      show (1 : Int) ≤ r'.2.2
      omega
def spWholeIn : Sp := fun vs H Q _ => ∃ (F : Hp) (v : V) (rs : List Row) (h : Int), vs = [v, .int h] ∧ Same F H ∧ (kL kRow).is F v rs ∧ Valid rs ∧ (∀ r ∈ rs, 1 ≤ r.2.1) ∧ rs.length ≤ 100000 ∧ ∀ (z : Int) (F' H' : Hp), Ext M0 F H F' H' → Whole rs h z → Q (.int z) H'
theorem ok_whole_in {f : Addr} {fd : FuncData} (F0 : Fun K "whole_in" "whole_in" s_whole_in f fd) (CF : Cal P w K mg base 3 "fewest" ["rows"] spFewest) :
    FnOk P w K mg base CX0 4 f fd ["rows", "house"] spWholeIn := by
  obtain ⟨f3, fd3, G3, g3, kp3, b3⟩ := CF
  refine F0.ok sc_whole_in (fun vs H Q E h => ?_) (fun cdv A outer s H vs Q E hr h => ?_)
  · obtain ⟨F, v, rs, h, rfl, _⟩ := h
    rfl
  · obtain ⟨F, v, rs, h, rfl, fh, hv, hva, h1, hl, q⟩ := h
    refine ⟨_, pss_cons (ps_for PassesOwn.never rfl (pi_list (pe_call G3 hr (by rfl) g3 kp3 b3 .nil pass0 (pa_cons (pv 0) pa_nil)))
          (pg_tup rfl (pgs_cons (pg_name (i := 2) sc_whole_in.nd rfl (.inl rfl)) (pgs_cons (pg_name (i := 3) sc_whole_in.nd rfl (.inl rfl)) (pgs_cons (pg_name (i := 4) sc_whole_in.nd rfl (.inl rfl)) pgs_nil))))
          (pss_one (ps_if (PW.pt (pw_and (pt_cmpR op_eq (pv 2) (pv 1) (nomark _)) (pw_and1 (pt_cmpR op_eq (pv 3) pe_int (nomark _))))) (pss_one (ps_ret (pv 4))) pss_nil)))
      (pss_one (ps_ret pe_int)), ?_⟩
    have X1 : Ext M0 F H F H := Ext.refl fh
    refine ⟨_, rfl, F, v, rs, rfl, X1.fh, hv, hva, hl, fun F2 H2 a xs out X2 na fa ha hout fw => ?_⟩
    have X := X1.trans X2
    refine ⟨a, rfl, ⟨xs, SqL.of ha⟩, for_list (K := K) (a := a) (xs := xs) (fun i σ H' => ∃ x y z, σ = [some v, some (.int h), x, y, z] ∧ H' = H2 ∧ ∀ r ∈ out.take i, ¬ (r.1 = h ∧ r.2.1 = 1)) ⟨none, none, none, rfl, rfl, fun r hr => absurd hr (by simp)⟩ (fun i σ H' _ ⟨_, _, _, _, e, _⟩ => by rw [e]; exact SqL.of ha) ?_ ?_⟩
    · rintro i x σ H3 hi ⟨y2, y3, y4, rfl, rfl, hno⟩
      obtain ⟨r, hri, tr, rfl, htr⟩ := pr_get hout hi
      have hrm : r ∈ out := List.mem_of_getElem? hri
      refine ⟨tr, _, rfl, SqT.of (X2.fh _ _ htr), rfl, _, _, rfl, _, _, rfl, _, _, rfl, rfl, ?_⟩
      have step : ¬ (r.1 = h ∧ r.2.1 = 1) → ∀ s ∈ out.take (i + 1), ¬ (s.1 = h ∧ s.2.1 = 1) := fun n s hs => by
        rw [List.take_add_one, hri] at hs
        rcases List.mem_append.mp hs with hs | hs
        · exact hno s hs
        · rw [List.mem_singleton.mp hs]; exact n
      refine ⟨_, rfl, _, rfl, rfl, _, rfl, ?_⟩
      by_cases e1 : r.1 = h
      · rw [decide_eq_true (show V.int r.1 = V.int h by rw [e1])]
        refine iteT ⟨_, rfl, rfl, _, rfl, ?_⟩
        by_cases e2 : r.2.1 = 1
        · rw [decide_eq_true (show V.int r.2.1 = V.int 1 by rw [e2])]
          have o := fw.can.ok r hrm
          refine iteT ⟨_, rfl, q r.2.2 F2 _ X ⟨by omega, fun n z1 z2 => (fw.mem _).mp ⟨r, hrm, e1, by rw [e2]; exact z1, z2⟩, fun m => ?_⟩⟩
          have := fw.can.gap hrm
          unfold endP at this
          rw [e1] at this
          exact this ((fw.mem _).mpr m)
        · rw [decide_eq_false (show ¬ V.int r.2.1 = V.int 1 from fun z => e2 (V.int.inj z))]
          exact iteF ⟨_, _, _, rfl, rfl, step fun z => e2 z.2⟩
      · rw [decide_eq_false (show ¬ V.int r.1 = V.int h from fun z => e1 (V.int.inj z))]
        exact iteF (iteF ⟨_, _, _, rfl, rfl, step fun z => e1 z.1⟩)
    · rintro σ H3 ⟨y2, y3, y4, rfl, rfl, hno⟩
      rw [pr_len hout, List.take_length] at hno
      refine q 0 F2 _ X ⟨Int.le_refl _, fun n z1 z2 => by omega, fun m => ?_⟩
      obtain ⟨r, hrm, i1, i2, i3⟩ := (fw.mem _).mpr m
      simp only at i1 i2 i3
      obtain ⟨r', hr', j1, j2, j3⟩ := (fw.mem _).mp (fw.can.first hrm)
      have b := h1 r' hr'
      simp only at j1 j2 j3
      exact hno r hrm ⟨i1, by omega⟩
theorem ok_whole_to {f : Addr} {fd : FuncData} (F0 : Fun K "whole_to" "whole_to" s_whole_to f fd) (CC : CalCheck P w K mg base) (CH : Cal P w K mg base 3 "check_house" ["house"] spCheckHouse) (CW : Cal P w K mg base 4 "whole_in" ["rows", "house"] spWholeIn) :
    FnOk P w K mg base CX0 6 f fd ["rows", "house"] spWholeTo := by
  obtain ⟨f1, fd1, G1, g1, kp1, b1⟩ := CC
  obtain ⟨f2, fd2, G2, g2, kp2, b2⟩ := CH
  obtain ⟨f3, fd3, G3, g3, kp3, b3⟩ := CW
  refine F0.ok sc_whole_to (fun vs H Q E h => ?_) (fun cdv A outer s H vs Q E hr h => ?_)
  · obtain ⟨F, v, rs, h, rfl, _⟩ := h
    rfl
  · obtain ⟨F, v, rs, h, rfl, fh, hv, hok, h0, h7, q⟩ := h
    have hr3 : Room 3 _ := hr.mono (by decide)
    have hr4 : Room 4 _ := hr.mono (by decide)
    refine ⟨_, pss_cons (ps_expr (pe_call G1 hr (by rfl) g1 kp1 b1 .nil pass0 (pa_cons (pv 0) pa_nil))) (pss_cons (ps_expr (pe_call G2 hr3 (by rfl) g2 kp2 b2 .nil pass0 (pa_cons (pv 1) pa_nil)))
      (pss_one (ps_ret (pe_call G3 hr4 (by rfl) g3 kp3 b3 .nil pass0 (pa_cons (pv 0) (pa_cons (pv 1) pa_nil)))))), ?_⟩
    refine ⟨_, rfl, v, rs, rfl, (kL kRow).mono fh hv, hok, fun H1 s1 => ?_⟩
    have X1 := ext_of_same fh s1
    have hl := hok.1
    refine ⟨_, rfl, h, rfl, h0, h7, ?_⟩
    exact ⟨_, rfl, _, rfl, F, v, rs, h, rfl, X1.fh, hv, rows_valid hok.2, fun r hr => (hok.2 r hr).2.2.1, by omega, fun z F' H' X2 wh => q z F' H' (X1.trans X2) wh⟩
end
end Rw
namespace Gx
open PySem PySem.Spec PyProof.Rows L2
open Sem (wp)
/-! ### a generator expression whose target is of any form: one turn told as a whole -/
section
variable {prog : Program} {w : World} {A : Around}
/-- what one turn does: the target is stored in the generator's own frame, the element is reckoned -/
def TurnOk (prog : Program) (w : World) (ce : Env) (tg elt : Expr) (fp wr : List Addr) (P F : Nat → Value → Prop) (h0 : Heap) : Prop :=
  ∀ (B : Around) (E' : Value → Shared → Prop) (i : Nat) (v : Value) (s : Shared) (m : Str → Option Value), B.handled = none → P i v → s.heap.Ns ce.locals m →
    (∀ b, b ∈ fp → b ∉ wr → ∀ o, h0.get? b = some o → s.heap.get? b = some o) →
    wpAny (model prog w) B (assign tg ce v) (fun _ t => ∃ h1 k1 m1, t = { s with heap := h1, toks := k1 } ∧ (∀ b o, b ≠ ce.locals → s.heap.get? b = some o → h1.get? b = some o) ∧ h1.Ns ce.locals m1 ∧
      ∀ E2 : Value → Shared → Prop, wpAny (model prog w) B (eval elt ce) (fun y u => F i y ∧ Keeps { s with heap := h1, toks := k1 } u) E2 { s with heap := h1, toks := k1 }) E' s
abbrev yes : Nat → Bool := fun _ => true
theorem passing_yes {n i : Nat} (h : i < n) : (passing yes n i).length = (passing yes n (i + 1)).length + 1 := by
  rw [PySem.passing_true h rfl, List.length_cons]
theorem gx_loop {elt tg iter : Expr} {scope : Scope} {pos : Pos} {I : Addr} {fp wr : List Addr} {n : Nat} {P F : Nat → Value → Prop} {St : Nat → Heap → Prop} {ce : Env} {h0 : Heap}
    (hh : A.handled = none) (W : ∀ B : Around, B.handled = none → Walks prog w B I fp wr n P St)
    (go : ∀ (B : Around) (i : Nat) (v : Value) (s : Shared) (Q : Unit → Shared → Prop) (E' : Value → Shared → Prop), St i s.heap → Q () s → wpAny (model prog w) B (letOwnedTupleGo tg (.ref I) v) Q E' s)
    (hco : ce.scope.isCoroutine = false) (hC : ce.locals ∉ fp) (T : TurnOk prog w ce tg elt fp wr P F h0) :
    ∀ (k i : Nat) (s0 s : Shared) (m : Str → Option Value), n = i + k → St i s.heap → s.heap.Ns ce.locals m → GenSince ce.locals wr s0 s → (∀ b, b ∈ fp → b ∉ wr → ∀ o, h0.get? b = some o → s.heap.get? b = some o) →
      Seg (model prog w) A (fun j a r b => r = .ok .next ∧ (j = 0 ∧ GenSince ce.locals wr a b)) (genProto ce.locals fp wr yes n F) (passing yes n i).length s0
        (.compLoop (.GeneratorExp elt [⟨tg, iter, [], 0⟩] scope pos) 0 (.ref I) .none ce) ((model prog w).den (.compLoop (.GeneratorExp elt [⟨tg, iter, [], 0⟩] scope pos) 0 (.ref I) .none ce)) [] s := by
  have hB : (A.over (.compLoop (.GeneratorExp elt [⟨tg, iter, [], 0⟩] scope pos) 0 (.ref I) .none ce) []).handled = none := hh
  have hCw : ce.locals ∉ wr := fun z => hC ((W A hh).sub _ z)
  intro k
  induction k with
  | zero =>
    intro i s0 s m hk hst hn since keep
    obtain rfl : n = i := by omega
    show Seg _ A _ _ _ s0 _ ((compTurn (.GeneratorExp elt [⟨tg, iter, [], 0⟩] scope pos) 0 (.ref I) .none ce).onRaise (leaving ce)) [] s
    rw [compTurn_gen, Sem.onRaise_eq_wrap]
    refine seg_bind_wrap (wpAny_standAt (seg_bind_wrap ((W _ hB).done s _ _ hst fun h1 t1 k1 => ?_)))
    exact seg_end (.ok .next) ⟨rfl, by rw [passing_end]; rfl, since.step fun b o _ q e => k1 b o q e⟩
  | succ k ih =>
    intro i s0 s m hk hst hn since keep
    have hi : i < n := by omega
    show Seg _ A _ _ _ s0 _ ((compTurn (.GeneratorExp elt [⟨tg, iter, [], 0⟩] scope pos) 0 (.ref I) .none ce).onRaise (leaving ce)) [] s
    rw [compTurn_gen, Sem.onRaise_eq_wrap]
    refine seg_bind_wrap (wpAny_standAt (seg_bind_wrap ((W _ hB).item i s _ _ hi hst fun v h1 t1 hv st1 k1 => ?_)))
    refine seg_bind_wrap (go _ (i + 1) v _ _ _ st1 ?_)
    have n1 : h1.Ns ce.locals m := hn.at' fun o e => k1 _ o hCw e
    have keep1 : ∀ b, b ∈ fp → b ∉ wr → ∀ o, h0.get? b = some o → h1.get? b = some o := fun b q r o e => k1 b o r (keep b q r o e)
    refine seg_bind_wrap (wpAny_mono (T _ _ i v _ m hB hv n1 keep1) (fun _ t ht => ?_) fun _ _ e => e)
    obtain ⟨h2, t2, m2, rfl, k2, n2, ev⟩ := ht
    have st2 : St (i + 1) h2 := (W A hh).frame _ _ _ st1 fun b hb o e => k2 b o (fun z => hC (z ▸ hb)) e
    have keep2 : ∀ b, b ∈ fp → b ∉ wr → ∀ o, h0.get? b = some o → h2.get? b = some o := fun b q r o e => k2 b o (fun z => hC (z ▸ q)) (keep1 b q r o e)
    have since2 : GenSince ce.locals wr s0 { s with heap := h2, toks := t2 } := since.step fun b o z r e => k2 b o z (k1 b o r e)
    refine seg_bind_wrap ?_
    simp only [List.forIn_nil]
    refine wpAny_pure ?_
    simp only [if_true]
    rw [passing_yes hi]
    have hy : ∀ x, yieldOut ce x = yieldValue x := fun x => by simp only [yieldOut, hco, Bool.false_eq_true, if_false]
    simp only [hy]
    rw [Sem.bind_eq_wrap', Sem.bind_eq_wrap', Sem.wrap_wrap, Sem.wrap_wrap]
    refine seg_wrap (wpAny_mono (ev _) (fun y u hu => ?_) fun _ _ e => e)
    obtain ⟨hF, h3, t3, rfl, k3⟩ := hu
    refine seg_at (seg_yield rfl rfl rfl ⟨⟨i, passing_here hi rfl, hF⟩, since2.step fun b o _ _ e => k3 b o e, fun s4 al => ?_⟩)
    refine seg_again rfl (ih (i + 1) s4 s4 m2 (by omega) ((W A hh).frame _ _ _ st2 fun b hb o e => al b (List.mem_cons_of_mem _ hb) o (k3 b o e)) ((n2.keeps k3).at' fun o e => al _ List.mem_cons_self o e) (GenSince.refl _ _ _)
      fun b q r o e => al b (List.mem_cons_of_mem _ q) o (k3 b o (keep2 b q r o e)))
theorem gx_start {elt tg iter : Expr} {scope : Scope} {pos : Pos} {I : Addr} {fp wr : List Addr} {n : Nat} {P F : Nat → Value → Prop} {St : Nat → Heap → Prop} {ce : Env} {h0 : Heap}
    (hh : A.handled = none) (W : ∀ B : Around, B.handled = none → Walks prog w B I fp wr n P St)
    (go : ∀ (B : Around) (i : Nat) (v : Value) (s : Shared) (Q : Unit → Shared → Prop) (E' : Value → Shared → Prop), St i s.heap → Q () s → wpAny (model prog w) B (letOwnedTupleGo tg (.ref I) v) Q E' s)
    (hco : ce.scope.isCoroutine = false) (hC : ce.locals ∉ fp) (T : TurnOk prog w ce tg elt fp wr P F h0) (s0 s : Shared) (m : Str → Option Value) (hst : St 0 s.heap) (hn : s.heap.Ns ce.locals m)
    (since : GenSince ce.locals wr s0 s) (keep : ∀ b, b ∈ fp → b ∉ wr → ∀ o, h0.get? b = some o → s.heap.get? b = some o) :
    Seg (model prog w) A (fun j a r b => r = .ok .next ∧ (j = 0 ∧ GenSince ce.locals wr a b)) (genProto ce.locals fp wr yes n F) (passing yes n 0).length s0
      (.compStart (.GeneratorExp elt [⟨tg, iter, [], 0⟩] scope pos) 0 (.ref I) .none ce) ((model prog w).den (.compStart (.GeneratorExp elt [⟨tg, iter, [], 0⟩] scope pos) 0 (.ref I) .none ce)) [] s := by
  have hB : (A.over (.compStart (.GeneratorExp elt [⟨tg, iter, [], 0⟩] scope pos) 0 (.ref I) .none ce) []).handled = none := hh
  have lp := gx_loop (elt := elt) (iter := iter) (scope := scope) (pos := pos) hh W go hco hC T n 0 s0 s m (by omega) hst hn since keep
  show Seg _ A _ _ _ s0 _ ((compStart (.GeneratorExp elt [⟨tg, iter, [], 0⟩] scope pos) 0 (.ref I) .none ce).onRaise (leaving ce)) [] s
  unfold compStart
  rw [Sem.onRaise_eq_wrap]
  show Seg _ A _ _ _ s0 _ ((ask >>= _).wrap _ _ _ _) [] s
  refine seg_bind_wrap (wpAny_askSetting ?_)
  split
  · exact seg_again rfl lp
  · refine seg_bind_wrap (wpAny_rule ?_)
    show Seg _ A _ _ _ s0 _ ((standAt iter.pos >>= _).wrap _ _ _ _) [] s
    exact seg_bind_wrap (wpAny_standAt (seg_bind_wrap ((W _ hB).self 0 s _ _ hst (seg_again rfl lp))))
end
end Gx
set_option maxHeartbeats 1000000
namespace Gx
open PySem PySem.Spec PyProof.Rows L2 GxR
section
variable {prog : Program} {w : World} {A : Around} {E : Value → Shared → Prop} {s : Shared}
/-- what must be so when the generator is made: its source, its turns, what follows -/
structure Src (prog : Program) (w : World) (A : Around) (env : Env) (scope : Scope) (cl : List (Str × Addr)) (tg elt : Expr) (code : Value) (bi : Addr) (it : Value) (Q : Value → Shared → Prop) (s : Shared) : Prop where
  ex : ∃ (I : Addr) (fp wr : List Addr) (n : Nat) (P F : Nat → Value → Prop) (St : Nat → Heap → Prop), it = .ref I ∧ (∀ B : Around, B.handled = none → Walks prog w B I fp wr n P St) ∧
    (∀ (B : Around) (i : Nat) (v : Value) (t : Shared) (Q' : Unit → Shared → Prop) (E' : Value → Shared → Prop), St i t.heap → Q' () t → wpAny (model prog w) B (letOwnedTupleGo tg (.ref I) v) Q' E' t) ∧
    St 0 s.heap ∧ (∀ b ∈ fp, b < s.heap.objs.size) ∧ s.heap.NoLimit ∧ cStatics ∉ wr ∧
    (∀ h0 : Heap, (∀ b o, s.heap.get? b = some o → h0.get? b = some o) → TurnOk prog w (genEnv scope cl s.heap.objs.size code bi env) tg elt (List.range s.heap.objs.size) wr P F h0) ∧
    ∀ (a : Addr) (h5 : Heap) (tk : Nat) (gs : GenState), gs.bare = true → s.heap.objs.size < a → h5.objs.size = a + 1 → (∀ b o, s.heap.get? b = some o → h5.get? b = some o) →
      WalksS prog w A.in4 a (a :: s.heap.objs.size :: List.range s.heap.objs.size) (s.heap.objs.size :: wr) (GenOnlyQ s.gens.size) (passing yes n 0).length (fun j y => ∃ i, (passing yes n 0)[j]? = some i ∧ F i y)
        (GenAt prog w A.in4 a s.gens.size s.heap.objs.size (List.range s.heap.objs.size) wr yes n F) →
      GenAt prog w A.in4 a s.gens.size s.heap.objs.size (List.range s.heap.objs.size) wr yes n F 0 { s with gens := s.gens.push gs, toks := tk, heap := h5 } → Q (.ref a) { s with gens := s.gens.push gs, toks := tk, heap := h5 }
theorem gx_eval {env : Env} {elt tg iter : Expr} {scope : Scope} {cl : List (Str × Addr)} {pos : Pos} {Q : Value → Shared → Prop} (hh : A.handled = none) (hco : scope.isCoroutine = false) (hclos : closureFor scope env = pure cl)
    (hcell : ∀ y ∈ scope.names, y.2 ≠ .cell) (hd : scope.names.lookup (".0" : Str) = some NameKind.local) (hkind : scope.kind = .function) (hroom : A.depth < recursionLimit)
    (h : wpAny (model prog w) A (eval iter env) (fun xv s1 => wpAny (model prog w) A (pyIter xv) (fun it s2 => s2.heap.NoLimit ∧ wpAny (model prog w) A (genexprCode env pos (env.qual ++ "<genexpr>") scope) (fun code s3 =>
      wpAny (model prog w) A (builtinsFor env.globals env.builtins) (fun bi s4 => Src prog w A env scope cl tg elt code bi it Q s4) E s3) E s2) E s1) E s) (hs : ∀ x, genFold iter env x = pure x) :
    wpAny (model prog w) A (eval (.GeneratorExp elt [⟨tg, iter, [], 0⟩] scope pos) env) Q E s := by
  refine wpAny_GeneratorExp_make hco hclos hcell hd hkind hroom (wpAny_mono h (fun xv s1 q1 => wpAny_mono q1 (fun it s2 q2 => ⟨q2.1, wpAny_mono q2.2 (fun code s3 q3 => wpAny_mono q3 (fun bi s4 q4 => ?_) fun _ _ z => z) fun _ _ z => z⟩) fun _ _ z => z) fun _ _ z => z) hs
  obtain ⟨I, fp, wr, n, P, F, St, rfl, W, go, st0, below, lim, ncs, T, fin⟩ := q4.ex
  have hlt : cStatics < s4.heap.objs.size := let ⟨_, z, _⟩ := lim; z.lt
  intro h1 n1 sb
  have sz : h1.objs.size = s4.heap.objs.size + 1 := by rw [sb.1, Heap.size_push]
  have k1 : ∀ b o, s4.heap.get? b = some o → h1.get? b = some o := fun b o e => sb.extBut b o (Nat.ne_of_lt (Heap.lt_size e)) (Heap.get?_push_of_some _ e)
  have sub : ∀ b ∈ wr, b ∈ List.range s4.heap.objs.size := fun b hb => List.mem_range.mpr (below b ((W A hh).sub b hb))
  have ne1 : h1.objs.size ≠ s4.heap.objs.size := by rw [sz]; exact Nat.succ_ne_self _
  have nm1 : h1.objs.size ∉ List.range s4.heap.objs.size := fun z => by
    have := List.mem_range.mp z
    omega
  have k5 : ∀ b o, s4.heap.get? b = some o → (h1.push { cls := .type "generator", data := .fields #[.int s4.gens.size 0, .str "<genexpr>" (s4.toks + 1), .str (env.qual ++ "<genexpr>") (s4.toks + 1 + 1)] }).get? b = some o := fun b o e => Heap.get?_push_of_some _ (k1 b o e)
  have W4 : ∀ B : Around, B.handled = none → Walks prog w B I (List.range s4.heap.objs.size) wr n P St := fun B hB => (W B hB).mono_fp fun b hb => List.mem_range.mpr (below b hb)
  refine fin _ _ _ _ rfl (by omega) (by rw [Heap.size_push]) k5 (WalksS.genexpQ (A := A.in4) hh _ _ _ _ wr yes n F ne1 nm1 sub hroom (List.mem_range.mpr hlt) (Nat.ne_of_lt hlt) ncs) ?_
  refine ⟨⟨_, _, _, Heap.get?_push_size _ rfl, rfl, rfl, rfl⟩, lim.keeps k5, _, Array.getElem?_push_size .., fun s6 al => ⟨rfl, ?_⟩⟩
  exact gx_start (A := A.in4.in1) hh W4 go hco (fun z => Nat.lt_irrefl _ (List.mem_range.mp z)) (T _ k5) s6 s6 _ ((W4 A hh).frame _ _ _ st0 fun b hb o e => al b (List.mem_cons_of_mem _ hb) o (k5 b o e)) ((n1.push _).at' fun o e => al _ List.mem_cons_self o e) (GenSince.refl _ _ _)
    fun b q _ o e => al b (List.mem_cons_of_mem _ q) o e
end
end Gx
set_option maxHeartbeats 2000000
namespace Gx
open PySem PySem.Spec PyProof.Rows L2 GxR Rw
/-- the generator's own scope: three names, the walked thing at «.0», captured names that the def has -/
structure Sc3 (env : Env) (scope : Scope) (x y z : Str) : Prop where
  kind : scope.kind = .function
  co : scope.isCoroutine = false
  cell : ∀ q ∈ scope.names, q.2 ≠ .cell
  dot : scope.names.lookup (".0" : Str) = some NameKind.local
  lx : scope.names.lookup x = some .local
  ly : scope.names.lookup y = some .local
  lz : scope.names.lookup z = some .local
  free : ∀ q ∈ scope.names, q.2 = .free → ∃ c, env.cells.lookup q.1 = some c
/-- the element, of a row whose three ints the three names hold -/
def EltR (prog : Program) (w : World) (scope : Scope) (x y z : Str) (elt : Expr) (f : Rw.Row → Int) : Prop :=
  ∀ (ce : Env) (B : Around) (E' : Value → Shared → Prop) (r : Rw.Row) (t1 t2 t3 : Tok) (s : Shared) (m : Str → Option Value), ce.scope = scope → s.heap.Ns ce.locals m → m x = some (.int r.1 t1) → m y = some (.int r.2.1 t2) → m z = some (.int r.2.2 t3) →
    wpAny (model prog w) B (eval elt ce) (fun v u => (∃ t, v = .int (f r) t) ∧ Keeps s u) E' s
section
variable {X : Cx} {pins : List (Addr × Obj)} {σ : L2.St} {H : Hp} {s : Shared}
def ReadyR (X : Cx) (pins : List (Addr × Obj)) (σ : L2.St) (H1 : Hp) (P : Addr) (rows : List Rw.Row) (f : Rw.Row → Int) (g : Addr) (s5 : Shared) : Prop :=
  ∃ (fp wr : List Addr) (G : Array GenState → Array GenState → Prop) (F : Nat → Value → Prop) (St : Nat → Shared → Prop), WalksS X.prog X.w X.A.in1 g fp wr G rows.length F St ∧ St 0 s5 ∧ (∀ b ∈ fp, b < s5.heap.objs.size) ∧
    (∀ j v, F j v → ∃ r t, rows[j]? = some r ∧ v = .int (f r) t) ∧ ∀ s', Moved wr G s5 s' → ∃ H2, Tabbed P H1 H2 ∧ Inv X pins σ H2 s'
theorem passing_all (n : Nat) : passing yes n 0 = List.range n := by
  unfold passing
  simp
theorem turn3 {prog : Program} {w : World} {ce : Env} {scope : Scope} {x y z : Str} {p1 p2 p3 pt : Pos} {kt : Nat} {elt : Expr} {f : Rw.Row → Int} {fp wr : List Addr} {its : List Value} {rows : List Rw.Row} {h0 : Heap}
    (hk : ce.scope.kind = .function) (hs : ce.scope = scope) (lx : scope.names.lookup x = some .local) (ly : scope.names.lookup y = some .local) (lz : scope.names.lookup z = some .local) (nxy : x ≠ y) (nxz : x ≠ z) (nyz : y ≠ z)
    (hel : EltR prog w scope x y z elt f)
    (hv : ∀ (i : Nat) (v : Value), its[i]? = some v → ∃ (r : Rw.Row) (t : Addr) (t1 t2 t3 : Tok), rows[i]? = some r ∧ v = .ref t ∧ t ∈ fp ∧ t ∉ wr ∧ IsTup h0 t #[.int r.1 t1, .int r.2.1 t2, .int r.2.2 t3]) :
    TurnOk prog w ce (.Tuple [.Name x p1, .Name y p2, .Name z p3] kt pt) elt fp wr (fun i v => its[i]? = some v) (fun i v => ∃ r t, rows[i]? = some r ∧ v = .int (f r) t) h0 := by
  intro B E' i v s m hB hiv hn keep
  obtain ⟨r, t, t1, t2, t3, hr, rfl, tf, tw, o, ho, hc, n, hd⟩ := hv i v hiv
  have ht : IsTup s.heap t #[.int r.1 t1, .int r.2.1 t2, .int r.2.2 t3] := ⟨o, keep t tf tw o ho, hc, n, hd⟩
  have hp : (ce.scope.kind == .class || (ce.scope.kind == .module && ce.locals != ce.globals)) = false := by rw [hk]; rfl
  have kx : ce.kindOf x = some .local := by show ce.scope.names.lookup x = some .local; rw [hs]; exact lx
  have ky : ce.kindOf y = some .local := by show ce.scope.names.lookup y = some .local; rw [hs]; exact ly
  have kz : ce.kindOf z = some .local := by show ce.scope.names.lookup z = some .local; rw [hs]; exact lz
  have hl : ce.locals < s.heap.objs.size := hn.lt
  refine assign_Tuple_tuple hB ht rfl rfl fun h1 x1 => ?_
  show wpAny (model prog w) B (assignInOrder [assign (.Name x p1) ce, assign (.Name y p2) ce, assign (.Name z p3) ce] [.int r.1 t1, .int r.2.1 t2, .int r.2.2 t3]) _ _ _
  have n1 : h1.Ns ce.locals m := hn.at' fun o e => x1 _ o (Nat.ne_of_lt hl) e
  refine assignInOrder_cons (wpAny_assign_Name (wpAny_storeName_local kx n1 (fun h2 n2 b2 => ?_) hp))
  refine assignInOrder_cons (wpAny_assign_Name (wpAny_storeName_local ky n2 (fun h3 n3 b3 => ?_) hp))
  refine assignInOrder_cons (wpAny_assign_Name (wpAny_storeName_local kz n3 (fun h4 n4 b4 => ?_) hp))
  refine assignInOrder_nil ⟨h4, _, _, rfl, fun b o nb e => ?_, n4, fun E2 => ?_⟩
  · exact b4.extBut b o nb (b3.extBut b o nb (b2.extBut b o nb (x1 b o (Nat.ne_of_lt (Heap.lt_size e)) e)))
  · refine wpAny_mono (hel ce B E2 r t1 t2 t3 _ _ hs n4 ?_ ?_ ?_) (fun u s5 q => ⟨?_, q.2⟩) fun _ _ e => e
    · simp only [if_neg nxz, if_neg nxy, if_pos]
    · simp only [if_neg nyz, if_pos]
    · simp only [if_pos]
    · obtain ⟨tk, e⟩ := q.1
      exact ⟨r, tk, hr, e⟩
end
end Gx
set_option maxHeartbeats 2000000
namespace Gx
open PySem PySem.Spec PyProof.Rows L2 GxR Rw
section
variable {X : Cx} {pins : List (Addr × Obj)} {σ : L2.St} {H : Hp} {s : Shared}
theorem row_at {rows : List Rw.Row} {xs : List V} {its : List Value} {H1 : Hp} {s1 : Shared} (I : Inv X pins σ H1 s1) (hp : Paired (kRow.is H1) xs rows) (rv : Vals xs its) {i : Nat} {v : Value} (h : its[i]? = some v) :
    ∃ (r : Rw.Row) (t : Addr) (t1 t2 t3 : Tok), rows[i]? = some r ∧ v = .ref t ∧ t < s1.heap.objs.size ∧ IsTup s1.heap t #[.int r.1 t1, .int r.2.1 t2, .int r.2.2 t3] := by
  have hl := rv.length
  have hi : i < its.length := by
    rcases Nat.lt_or_ge i its.length with c | c
    · exact c
    · rw [List.getElem?_eq_none c] at h; cases h
  have hx : xs[i]? = some xs[i] := List.getElem?_eq_getElem (by omega)
  obtain ⟨r, hr, t, e, ht⟩ := pr_get hp hx
  obtain ⟨u, hu, ru⟩ := rv.get hx
  rw [h] at hu
  cases hu
  rw [e] at ru
  have ev : v = Value.ref t := ru
  obtain ⟨_, its2, r2, tp⟩ := I.hok _ _ ht
  cases r2 with
  | cons a1 r2 => cases r2 with
    | cons a2 r2 => cases r2 with
      | cons a3 r2 =>
        cases r2
        obtain ⟨t1, rfl⟩ := a1
        obtain ⟨t2, rfl⟩ := a2
        obtain ⟨t3, rfl⟩ := a3
        exact ⟨r, t, t1, t2, t3, hr, ev, tp.lt, tp⟩
theorem gen_rows {c P : Addr} {elt iter : Expr} {x y z : Str} {p1 p2 p3 pt gpos : Pos} {kt : Nat} {scope : Scope} {f : Rw.Row → Int} {te : TE} {k : Nat} {Q' : Value → Shared → Prop} {R : List Rw.Row → Hp → Prop}
    (hr : Room k X.A) (TB : TabB X.base X.mg c P) (hcode : X.env.code = .ref c) (S : Sc3 X.env scope x y z) (nxy : x ≠ y) (nxz : x ≠ z) (nyz : y ≠ z) (hi : PE X iter te) (hel : EltR X.prog X.w scope x y z elt f)
    (hs : ∀ v, genFold iter X.env v = pure v) (I : Inv X pins σ H s) (h : te σ H fun v H1 => ∃ a xs rows, v = .ref a ∧ H1 a = some (.lst xs) ∧ Paired (kRow.is H1) xs rows ∧ TabG H1 P ∧ R rows H1)
    (hQ : ∀ rows H1 g s5, R rows H1 → ReadyR X pins σ H1 P rows f g s5 → Q' (.ref g) s5) :
    wpAny (model X.prog X.w) X.A (eval (.GeneratorExp elt [⟨.Tuple [.Name x p1, .Name y p2, .Name z p3] kt pt, iter, [], 0⟩] scope gpos) X.env) Q' X.xe s := by
  refine gx_eval hr.hd S.co (closure_ok S.free) S.cell S.dot S.kind (by have := hr.dp; omega) ?_ hs
  refine thn (hi.run pins s σ H _ I h) fun xv s1 ⟨v, H1, I1, r1, q1⟩ => ?_
  obtain ⟨a, xs, rows, rfl, ha, hp, ⟨ps, hP, ht⟩, q1⟩ := q1
  cases r1
  obtain ⟨its, rv, pl, hz⟩ := I1.list (SqL.of ha)
  refine iter_any pl.isList fun s2 e2 st hne => ?_
  subst e2
  have hPs : s1.heap.get? P = some { cls := .none, data := .fields ps } := I1.hok P _ hP
  have hPlt : P < s1.heap.objs.size := Heap.lt_size hPs
  have haP : a ≠ P := ne_of ha hP (by intro q; cases q)
  generalize hit : ({ cls := .type "list_iterator", data := .fields #[.ref a, .int 0 0] } : Obj) = ob at st ⊢
  have hP2 : (s1.heap.push ob).get? P = some { cls := .none, data := .fields ps } := Heap.get?_push_of_some _ hPs
  have cd : PySem.W.CodeHd (s1.heap.push ob) c P := TB.code.keeps fun b u e => Heap.get?_push_of_some _ (I1.bk b u e)
  have lim2 : (s1.heap.push ob).NoLimit := I1.nolimit.push ob
  have sz2 : (s1.heap.push ob).objs.size = s1.heap.objs.size + 1 := Heap.size_push ..
  have lenI : its.length = rows.length := by rw [← rv.length, pr_len hp]
  have cont : ∀ (code : Value) (h3 : Heap) (tk : Nat) (ps' : Array Value), Heap.ExtBut P (s1.heap.push ob) h3 → (s1.heap.push ob).objs.size ≤ h3.objs.size → h3.get? P = some { cls := .none, data := .fields ps' } → (∃ more, ps' = ps ++ more) → TriplesOk ps'.toList →
      wpAny (model X.prog X.w) X.A (builtinsFor X.env.globals X.env.builtins) (fun bi s4 => Src X.prog X.w X.A X.env scope (cloFrom X.env.cells scope.names []) (.Tuple [.Name x p1, .Name y p2, .Name z p3] kt pt) elt code bi (.ref s1.heap.objs.size) Q' s4) X.xe { s1 with heap := h3, toks := tk } := by
    intro code h3 tk ps' hx hsz hP3 hmore ht3
    obtain ⟨bm, obm, e1, e2, e3, e4, e5, e6, e7, e8⟩ := TB.bm
    have hcP : cStatics ≠ P := fun e => by
      obtain ⟨_, hns, _⟩ := I1.nolimit
      obtain ⟨o', es, ep, ho, hd, _⟩ := hns
      rw [e, hPs] at ho
      cases ho
      cases hd
    have hcl : cStatics < s1.heap.objs.size := let ⟨_, hns, _⟩ := I1.nolimit; hns.lt
    have keep3 : ∀ b u, b ≠ P → s1.heap.get? b = some u → h3.get? b = some u := fun b u hb e => hx b u hb (Heap.get?_push_of_some _ e)
    refine wpAny_builtinsFor (m := X.mg) (by rw [I1.ok.glob]; exact ((I1.mod.glob.keeps I1.bk).push ob).extBut hx TB.gP) e1 e2 (keep3 _ _ e4 (I1.bk _ _ e5)) e6 e7 e8 ?_
    have WL := fun (B : Around) (hB : B.handled = none) => Walks.list (prog := X.prog) (w := X.w) (A := B) hB s1.heap.objs.size a hne its.toArray
    have hL : its.toArray.size = rows.length := by rw [List.size_toArray, lenI]
    refine ⟨s1.heap.objs.size, _, _, its.toArray.size, _, (fun i v => ∃ r t, rows[i]? = some r ∧ v = .int (f r) t), _, rfl, WL, ?_, ?_, ?_, lim2.extBut hx hcP, ?_, ?_, ?_⟩
    · intro B i v t Q1 E1 hst hq
      obtain ⟨oi, e, cc, dd⟩ := hst.1
      exact go_of e cc dd (by decide) hq
    · refine (WL X.A hr.hd).frame _ _ _ st fun b hb u e => hx b u (fun q => ?_) e
      rcases List.mem_cons.mp hb with z2 | z2
      · exact Nat.ne_of_lt hPlt (q.symm.trans z2)
      · rcases List.mem_cons.mp z2 with z3 | z3
        · exact haP (z3.symm.trans q)
        · cases z3
    · intro b hb
      rcases List.mem_cons.mp hb with q | q
      · rw [q]
        show s1.heap.objs.size < h3.objs.size
        omega
      · rcases List.mem_cons.mp q with q | q
        · rw [q]
          have h13 : s1.heap.objs.size < h3.objs.size := by omega
          exact Nat.lt_trans (Heap.lt_size pl.isList.choose_spec.1) h13
        · cases q
    · intro q
      rcases List.mem_cons.mp q with q | q
      · exact Nat.ne_of_lt hcl q
      · cases q
    · intro href hhref
      have hsc : (genEnv scope (cloFrom X.env.cells scope.names []) h3.objs.size code builtinsNs X.env).scope = scope := rfl
      have tk3 := turn3 (p1 := p1) (p2 := p2) (p3 := p3) (pt := pt) (kt := kt) (ce := genEnv scope (cloFrom X.env.cells scope.names []) h3.objs.size code builtinsNs X.env) (scope := scope) (h0 := href) (fp := List.range h3.objs.size) (wr := [s1.heap.objs.size]) (rows := rows) S.kind hsc S.lx S.ly S.lz nxy nxz nyz hel (its := its) fun i v hiv => ?_
      · exact fun B E' i v s m hB hv => tk3 B E' i v s m hB (by simpa using hv)
      obtain ⟨r, t, t1, t2, t3, q1, q2, q3, q4⟩ := row_at I1 hp rv hiv
      have tP : t ≠ P := fun e => by
        obtain ⟨o, ho, hc, _⟩ := q4
        rw [e, hPs] at ho
        cases ho
        cases hc
      refine ⟨r, t, t1, t2, t3, q1, q2, List.mem_range.mpr (Nat.lt_trans q3 (show s1.heap.objs.size < h3.objs.size by omega)), fun q => ?_, ?_⟩
      · rcases List.mem_cons.mp q with q | q
        · exact Nat.ne_of_lt q3 q
        · cases q
      · obtain ⟨o, ho, r⟩ := q4
        exact ⟨o, hhref _ _ (keep3 _ _ tP ho), r⟩
    · intro g h5 tk5 gs hgb hag hsz5 hk5 W5 hat
      simp only [passing_all, List.length_range] at W5
      rw [hL] at W5 hat
      refine hQ rows H1 g _ q1 ⟨_, _, _, _, _, W5.in4_1, hat, ?_, ?_, fun s' hm => ?_⟩
      · intro b hb
        show b < h5.objs.size
        rw [hsz5]
        rcases List.mem_cons.mp hb with q | q
        · rw [q]; exact Nat.lt_succ_self _
        · rcases List.mem_cons.mp q with q | q
          · rw [q]
            exact Nat.lt_succ_of_lt hag
          · exact Nat.lt_succ_of_lt (Nat.lt_trans (List.mem_range.mp q) hag)
      · intro j v hj
        obtain ⟨i, hij, r, t, hr', ev⟩ := hj
        obtain ⟨hj', ej⟩ := List.getElem?_eq_some_iff.mp hij
        rw [List.getElem_range] at ej
        subst ej
        exact ⟨r, t, hr', ev⟩
      · obtain ⟨more, em⟩ := hmore
        have nwr : ∀ b u, s1.heap.get? b = some u → b ∉ h3.objs.size :: [s1.heap.objs.size] := fun b u e hb => by
          have hl := Heap.lt_size e
          rcases List.mem_cons.mp hb with q | q
          · rw [q] at hl
            have h9 : (h3.objs.size : Nat) < s1.heap.objs.size := hl
            omega
          · rcases List.mem_cons.mp q with q | q
            · rw [q] at hl
              exact Nat.lt_irrefl _ hl
            · cases q
        have J := inv_tab (more := more) (h' := s'.heap) (g' := s'.gens) (d' := s'.drawn) (t' := s'.toks) I1 hP (fun b u hb e => hm.heap b u (nwr b u e) (hk5 b u (keep3 b u hb e)))
          (by rw [← em]; exact hm.heap P _ (nwr P _ hPs) (hk5 P _ hP3)) (AllBare.movedS (I1.bare.push hgb) hm)
        rw [sh_eta s1 s' hm.os] at J
        exact ⟨upd H1 P (.tbl (ps ++ more)), ⟨⟨ps ++ more, upd_same, by rw [← em]; exact ht3⟩, fun b hb => upd_ne hb⟩, J⟩
  refine ⟨lim2, ?_⟩
  cases hf : codeAmong gpos ps.toList with
  | none =>
    refine wpAny_genexprCodeX hcode (cd.code hP2 ht) (cd.tab hP2) hf fun c' h' tk hx hge hlt hco' _ htab' _ => ?_
    obtain ⟨o1, vs, f1, tf, fl, tg, inF, tx, tt, op, _, _, _, _, _, _, _, _, _, htr, _⟩ := hco'
    exact cont _ h' tk _ hx (Nat.le_trans hge (Nat.le_of_lt hlt)) htab'.2 ⟨_, rfl⟩ htr
  | some cv =>
    refine wpAny_genexprCode_hit hcode (cd.code hP2 ht) hf ?_
    exact cont cv (s1.heap.push ob) s1.toks ps (Heap.ExtBut.refl _ _) (Nat.le_refl _) hP2 ⟨#[], by simp⟩ ht
end
end Gx
set_option maxHeartbeats 2000000
namespace Gx
open PySem PySem.Spec PyProof.Rows L2 GxR Rw
def sumBy (f : Rw.Row → Int) : List Rw.Row → Int
  | [] => 0
  | r :: rs => f r + sumBy f rs
theorem sumBy_append (f : Rw.Row → Int) : ∀ xs ys : List Rw.Row, sumBy f (xs ++ ys) = sumBy f xs + sumBy f ys
  | [], ys => by simp [sumBy]
  | x :: xs, ys => by
    show f x + sumBy f (xs ++ ys) = f x + sumBy f xs + sumBy f ys
    rw [sumBy_append f xs ys]; omega
def valAt (f : Rw.Row → Int) (rows : List Rw.Row) (i : Nat) : Int := match rows[i]? with
  | some r => f r
  | none => 0
theorem preSum_rows (f : Rw.Row → Int) (rows : List Rw.Row) : ∀ n, n ≤ rows.length → preSum (valAt f rows) n = sumBy f (rows.take n)
  | 0, _ => rfl
  | n + 1, h => by
    have ih := preSum_rows f rows n (Nat.le_of_lt h)
    have hn : n < rows.length := h
    have e : rows.take (n + 1) = rows.take n ++ [rows[n]] := by rw [List.take_add_one, List.getElem?_eq_getElem hn]; rfl
    have ev : valAt f rows n = f rows[n] := by unfold valAt; rw [List.getElem?_eq_getElem hn]
    rw [e, sumBy_append, ← ih]
    show preSum (valAt f rows) n + valAt f rows n = _ + (f rows[n] + 0)
    rw [ev]; omega
def tSumR (P : Addr) (f : Rw.Row → Int) (te : TE) : TE := fun σ H Q => te σ H fun v H1 => ∃ a xs rows, v = .ref a ∧ H1 a = some (.lst xs) ∧ Paired (kRow.is H1) xs rows ∧ TabG H1 P ∧ ∀ H2, Tabbed P H1 H2 → Q (.int (sumBy f rows)) H2
theorem pe_sumR {X : Cx} {c P : Addr} {elt iter : Expr} {x y z : Str} {p1 p2 p3 pt gpos p pos : Pos} {kt : Nat} {scope : Scope} {f : Rw.Row → Int} {te : TE} {k : Nat}
    (hr : Room k X.A) (hg : Gl X "sum") (hm : X.mg "sum" = none) (TB : TabB X.base X.mg c P) (hcode : X.env.code = .ref c) (S : Sc3 X.env scope x y z) (nxy : x ≠ y) (nxz : x ≠ z) (nyz : y ≠ z) (hi : PE X iter te) (hel : EltR X.prog X.w scope x y z elt f)
    (hs : ∀ v, genFold iter X.env v = pure v) (hb : bootBuiltins "sum" = some (.builtin "sum"))
    (he : starEach [.GeneratorExp elt [⟨.Tuple [.Name x p1, .Name y p2, .Name z p3] kt pt, iter, [], 0⟩] scope gpos] X.env = (false, eval (.GeneratorExp elt [⟨.Tuple [.Name x p1, .Name y p2, .Name z p3] kt pt, iter, [], 0⟩] scope gpos) X.env) :: starEach [] X.env := by rfl) :
    PE X (.Call (.Name "sum" p) [.GeneratorExp elt [⟨.Tuple [.Name x p1, .Name y p2, .Name z p3] kt pt, iter, [], 0⟩] scope gpos] [] pos) (tSumR P f te) := by
  refine ⟨fun pins s σ H Q I h => ?_⟩
  refine wpAny_Call_Name_kw (ld_blt I hg hm hb ?_)
  refine PyProof.Rows.callWith_builtin1 ?_ he (by rfl)
  rw [he]
  show wpAny _ _ (spliced ((false, eval (.GeneratorExp elt [⟨.Tuple [.Name x p1, .Name y p2, .Name z p3] kt pt, iter, [], 0⟩] scope gpos) X.env) :: backTo pos (starEach [] X.env))) _ _ s
  refine Calls.spliced_cons (gen_rows (R := fun rows H1 => ∀ H2, Tabbed P H1 H2 → Q (.int (sumBy f rows)) H2) hr TB hcode S nxy nxz nyz hi hel hs I h fun rows H1 g s5 hR hG => ?_)
  obtain ⟨fp, wr, G, F, St, W, hst, hfp, hval, hI⟩ := hG
  refine Calls.spliced_nil ?_
  refine call_sum_walkAnyS (W.self 0 _ _ _ hst ⟨g, fp, wr, G, _, F, St, valAt f rows, rfl, W, hst, hfp, fun j v hj => ?_, fun s' t' hmv => ?_⟩)
  · obtain ⟨r, t, hr', e⟩ := hval j v hj
    exact ⟨t, by rw [e]; unfold valAt; rw [hr']⟩
  · obtain ⟨H2, hT, J⟩ := hI s' hmv
    refine ⟨.int (sumBy f rows), H2, J, ⟨t', ?_⟩, hR H2 hT⟩
    rw [preSum_rows f rows rows.length (Nat.le_refl _), List.take_length]
end Gx
namespace Rw
open PySem L2
open GxR (TabB TabG Tabbed)
def width (r : Row) : Int := r.2.2 - r.2.1 + 1
/-- a def whose code object stands at c -/
structure FunC (K : PySem.W.Frag) (x qual : Str) (st : Stmt) (f c : Addr) (fd : FuncData) : Prop where
  ex : ∃ (oc : Value) (od : Option Addr) (kV doc pm : Value) (an : Option Addr) (ct : Value) (osl : Array (Option Value)),
    fd = PySem.W.fnOf x qual (defArgs st) (defBody st) (defScope st) .none kV doc pm an (.ref c) ct ∧ K.lookup f = some ⟨oc, od, .func fd, osl⟩ ∧ PySem.W.codeIn K (.ref c) qual = true
section
variable {P : Program} {w : World} {K : PySem.W.Frag} {mg : Str → Option Value} {base : Heap}
theorem FunC.ok {x qual : Str} {st : Stmt} {f c : Addr} {fd : FuncData} {N ps : List Str} {k : Nat} {sp : Sp} (F : FunC K x qual st f c fd) (S : FnScope N ps (defScope st)) (len : ∀ vs H Q E, sp vs H Q E → vs.length = ps.length)
    (walk : ∀ (A : Around) (outer : List Env) (s : Shared) (H : Hp) (vs : List V) (Q : VK) (E : XK), Room k (A.deeper (PyProof.Rows.envOfC qual (defScope st) s.heap.objs.size f (.ref c))) → sp vs H Q E →
      ∃ t, PSs (cxOf CX0 P w K mg base N qual (defScope st) f (.ref c) A outer s H E).nox (defBody st) t ∧ t { nx := fun _ H' => Q .non H', rt := Q } (start N vs) H) : FnOk P w K mg base CX0 (k + 1) f fd ps sp := by
  obtain ⟨oc, od, kV, doc, pm, an, ct, osl, rfl, lk, hcd⟩ := F.ex
  refine fn_of lk hcd S len fun A outer s H vs Q E hr h => ?_
  obtain ⟨t, p, q⟩ := walk A outer s H vs Q E hr h
  exact ⟨t, p.nox, q⟩
theorem elt_width {prog : Program} {scope : Scope} {x y z : Str} {p1 p2 p3 p4 p5 : Pos} {j : Nat} (hk : scope.kind = .function) (ly : scope.names.lookup y = some .local) (lz : scope.names.lookup z = some .local)
    (dy : (y == ("__debug__" : Str)) = false := by decide) (dz : (z == ("__debug__" : Str)) = false := by decide) :
    Gx.EltR prog w scope x y z (.BinOp (.BinOp (.Name z p1) .Sub (.Name y p2) p3) .Add (.Constant (.int 1) j p4) p5) width := by
  intro ce B E' r t1 t2 t3 s m hs hn hx hy hz
  have kf : ce.scope.kind = .function := by rw [hs]; exact hk
  have ky : ce.kindOf y = some .local := by show ce.scope.names.lookup y = some .local; rw [hs]; exact ly
  have kz : ce.kindOf z = some .local := by show ce.scope.names.lookup z = some .local; rw [hs]; exact lz
  refine wpAny_BinOp (wpAny_BinOp (wpAny_Name (wpAny_loadName_local kf kz hn hz ?_) dz))
  refine wpAny_Name (wpAny_loadName_local kf ky hn hy ?_) dy
  refine PyProof.Rows.sub_int ?_
  refine wpAny_Constant_int ?_
  refine PyProof.Rows.add_int ⟨⟨_, rfl⟩, s.heap, _, rfl, fun _ _ e => e⟩
def spAmount (Pt' : Addr) : Sp := fun vs H Q _ => ∃ (F : Hp) (v : V) (rs : List Row), vs = [v] ∧ Same F H ∧ (kL kRow).is F v rs ∧ RowsOk rs ∧ TabG H Pt' ∧ F Pt' = none ∧
  ∀ (out : List Row) (F' H' : Hp), Fewest rs out → Ext (· = Pt') F H F' H' → TabG H' Pt' → Q (.int (Gx.sumBy width out)) H'
theorem ok_amount {f c Pc : Addr} {fd : FuncData} (F0 : FunC K "amount" "amount" s_amount f c fd) (TB : TabB base mg c Pc) (hsum : mg "sum" = none) (CC : CalCheck P w K mg base) (CF : Cal P w K mg base 3 "fewest" ["rows"] spFewest) :
    FnOk P w K mg base CX0 6 f fd ["rows"] (spAmount Pc) := by
  obtain ⟨f1, fd1, G1, g1, kp1, b1⟩ := CC
  obtain ⟨f2, fd2, G2, g2, kp2, b2⟩ := CF
  refine F0.ok sc_amount (fun vs H Q E h => ?_) (fun A outer s H vs Q E hr h => ?_)
  · obtain ⟨F, v, rs, rfl, _⟩ := h
    rfl
  · obtain ⟨F, v, rs, rfl, fh, hv, hok, ht, fP, q⟩ := h
    have hr2 : Room 3 _ := hr.mono (by decide)
    refine ⟨_, pss_cons (ps_expr (pe_call G1 hr (by rfl) g1 kp1 b1 .nil pass0 (pa_cons (pv 0) pa_nil)))
      (pss_one (ps_ret (Gx.pe_sumR (f := width) hr (by rfl) hsum TB rfl ⟨rfl, rfl, by decide +kernel, rfl, rfl, rfl, rfl, fun q hq e => absurd e ((show ∀ q ∈ _, q.2 ≠ NameKind.free by decide +kernel) q hq)⟩ (by decide) (by decide) (by decide)
        (pe_call G2 hr2 (by rfl) g2 kp2 b2 .nil pass0 (pa_cons (pv 0) pa_nil)) (elt_width rfl rfl rfl) (fun _ => rfl) (by decide +kernel)))), ?_⟩
    refine ⟨_, rfl, v, rs, rfl, (kL kRow).mono fh hv, hok, fun H1 s1 => ?_⟩
    have X1 := ext_of_same fh s1
    have hl := hok.1
    refine ⟨_, rfl, F, v, rs, rfl, X1.fh, hv, rows_valid hok.2, by omega, fun F2 H2 a xs out X2 na fa ha hout fw => ?_⟩
    have X := X1.trans X2
    obtain ⟨pp, hp, htr⟩ := ht
    have hp2 : H2 Pc = some (.tbl pp) := X.same _ _ hp
    have fP2 : F2 Pc = none := by rw [X.new Pc (by rw [hp]; simp)]; exact fP
    refine ⟨a, xs, out, rfl, ha, pr_mono (fun _ _ z => kRow.mono X2.fh z) hout, ⟨pp, hp2, htr⟩, fun H3 t3 => ?_⟩
    obtain ⟨tg, same⟩ := t3
    have e3 : ∃ o, H3 = upd H2 Pc o := by
      obtain ⟨p3, hp3, _⟩ := tg
      exact ⟨.tbl p3, funext fun b => by
        by_cases hb : b = Pc
        · rw [hb, upd_same, hp3]
        · rw [upd_ne hb, same b hb]⟩
    obtain ⟨o, rfl⟩ := e3
    exact q out F2 _ fw (X.up.put (.inr rfl) fP2) tg
end
end Rw
namespace Rw
open PySem L2
/-! ### how many points -/
def sumTo (g : Int → Int) : Nat → Int
  | 0 => g 0
  | n + 1 => sumTo g n + g ((n : Int) + 1)
theorem sumTo_add (g h : Int → Int) : ∀ n, sumTo (fun x => g x + h x) n = sumTo g n + sumTo h n
  | 0 => rfl
  | n + 1 => by
    show sumTo (fun x => g x + h x) n + (g _ + h _) = _
    rw [sumTo_add g h n]
    show _ = (sumTo g n + g _) + (sumTo h n + h _)
    omega
theorem sumTo_congr {g h : Int → Int} (n : Nat) (e : ∀ x, g x = h x) : sumTo g n = sumTo h n := by
  have : g = h := funext e
  rw [this]
theorem sumTo_zero {g : Int → Int} : ∀ n : Nat, (∀ x : Int, x ≤ n → g x = 0) → sumTo g n = 0
  | 0, h => h 0 (Int.le_refl _)
  | n + 1, h => by
    show sumTo g n + g _ = 0
    rw [sumTo_zero n fun x hx => h x (by omega), h ((n : Int) + 1) (by omega)]
    rfl
theorem sumTo_seg (a b : Int) (ha : 0 ≤ a) (hab : a ≤ b) : ∀ n : Nat, sumTo (fun x => ind (a ≤ x ∧ x ≤ b)) n = if (n : Int) < a then 0 else if (n : Int) ≤ b then n - a + 1 else b - a + 1
  | 0 => by
    show ind (a ≤ 0 ∧ 0 ≤ b) = _
    rcases ind_or (a ≤ 0 ∧ 0 ≤ b) with ⟨u, e⟩ | ⟨u, e⟩ <;> rw [e]
    · rw [if_neg (by omega), if_pos (by omega)]; omega
    · rw [if_pos (by omega)]
  | n + 1 => by
    show sumTo _ n + ind (a ≤ (n : Int) + 1 ∧ (n : Int) + 1 ≤ b) = _
    rw [sumTo_seg a b ha hab n]
    have e1 : ((n + 1 : Nat) : Int) = (n : Int) + 1 := by omega
    rw [e1]
    rcases ind_or (a ≤ (n : Int) + 1 ∧ (n : Int) + 1 ≤ b) with ⟨u, e⟩ | ⟨u, e⟩ <;> rw [e] <;> split <;> split <;> (try split) <;> (try split) <;> omega
def box (N : Nat) (g : Pt → Int) : Int := sumTo (fun h => sumTo (fun n => g (h, n)) N) 7
theorem box_add (N : Nat) (g h : Pt → Int) : box N (fun p => g p + h p) = box N g + box N h := by
  unfold box
  rw [← sumTo_add]
  exact sumTo_congr 7 fun x => sumTo_add _ _ N
theorem box_congr (N : Nat) {g h : Pt → Int} (e : ∀ p, g p = h p) : box N g = box N h := by
  have : g = h := funext e
  rw [this]
theorem sumTo_one {c : Int} {k : Nat} {v : Int} (h0 : 0 ≤ c) (h1 : c ≤ k) : sumTo (fun x => if x = c then v else 0) k = v := by
  induction k with
  | zero =>
    show (if (0 : Int) = c then v else 0) = v
    rw [if_pos (by omega)]
  | succ n ih =>
    show sumTo _ n + (if (n : Int) + 1 = c then v else 0) = v
    by_cases e : (n : Int) + 1 = c
    · rw [if_pos e, sumTo_zero n fun x hx => if_neg (by omega)]; omega
    · rw [if_neg e, ih (by omega)]; omega
theorem box_row {N : Nat} {r : Row} (h0 : 0 ≤ r.1) (h7 : r.1 ≤ 7) (a1 : 0 ≤ r.2.1) (ab : r.2.1 ≤ r.2.2) (bN : r.2.2 ≤ N) : box N (fun p => ind (inRow r p)) = width r := by
  have e : ∀ h : Int, sumTo (fun n => ind (inRow r (h, n))) N = if h = r.1 then width r else 0 := fun h => by
    by_cases e : h = r.1
    · rw [if_pos e]
      have : sumTo (fun n => ind (inRow r (h, n))) N = sumTo (fun x => ind (r.2.1 ≤ x ∧ x ≤ r.2.2)) N := sumTo_congr N fun x => by
        rcases ind_or (r.2.1 ≤ x ∧ x ≤ r.2.2) with ⟨u, eu⟩ | ⟨u, eu⟩ <;> rw [eu]
        · exact ind_pos ⟨e.symm, u⟩
        · exact ind_neg fun z => u z.2
      rw [this, sumTo_seg _ _ a1 ab]
      unfold width
      rw [if_neg (by omega)]
      split <;> omega
    · rw [if_neg e]
      exact sumTo_zero N fun x _ => ind_neg fun z => e z.1.symm
  unfold box
  rw [sumTo_congr 7 e]
  exact sumTo_one h0 h7
theorem box_zero (N : Nat) : box N (fun _ => 0) = 0 := by
  unfold box
  exact sumTo_zero 7 fun _ _ => sumTo_zero N fun _ _ => rfl
theorem box_cover {N : Nat} : ∀ {rs : List Row}, (∀ r ∈ rs, 0 ≤ r.1 ∧ r.1 ≤ 7 ∧ 0 ≤ r.2.1 ∧ r.2.1 ≤ r.2.2 ∧ r.2.2 ≤ N) → box N (cover (once rs)) = Gx.sumBy width rs
  | [], _ => box_zero N
  | r :: rs, h => by
    obtain ⟨a, b, c, d, e⟩ := h r List.mem_cons_self
    have ih := box_cover (rs := rs) fun s hs => h s (List.mem_cons_of_mem _ hs)
    have e1 : box N (cover (once (r :: rs))) = box N (fun p => ind (inRow r p) + cover (once rs) p) := box_congr N fun p => by
      show 1 * ind (inRow r p) + cover (once rs) p = _
      omega
    rw [e1, box_add, ih, box_row a b c d e]
    rfl
/-- how many points rows hold -/
def amt (rs : List Row) : Int := box LIM.toNat (fun p => ind (mem rs p))
theorem lim_nat : ((LIM.toNat : Nat) : Int) = LIM := by
  unfold LIM
  omega
theorem amt_told {rs out : List Row} (h : ∀ r ∈ rs, RowOk r) (t : Fewest rs out) : Gx.sumBy width out = amt rs := by
  have ok := canon_ok t.can fun p m => rows_box h ((t.mem p).mp m)
  rw [← box_cover (N := LIM.toNat) fun r hr => by
    obtain ⟨a, b, c, d, e⟩ := ok r hr
    rw [lim_nat]
    exact ⟨a, b, by omega, d, e⟩]
  unfold amt
  refine box_congr _ fun p => ?_
  rw [cover_canon t.can]
  rcases ind_or (mem rs p) with ⟨u, eu⟩ | ⟨u, eu⟩ <;> rw [eu]
  · exact ind_pos ((t.mem p).mpr u)
  · exact ind_neg fun z => u ((t.mem p).mp z)
theorem amt_sum {a b c d : List Row} (h : ∀ p, ind (mem a p) + ind (mem b p) = ind (mem c p) + ind (mem d p)) : amt a + amt b = amt c + amt d := by
  unfold amt
  rw [← box_add, ← box_add]
  exact box_congr _ h
end Rw
namespace Rw
open PySem L2
/-! ### the law's dice -/
def dice (s : Addr) (i m r : Int) : HO := .lst [.ref s, .int i, .int m, .int r]
structure Good (i m r : Int) : Prop where
  i0 : 0 ≤ i
  m0 : 0 ≤ m
  m1 : m < 2147483647
  r0 : 0 ≤ r
def spDice (K : PySem.W.Frag) : Sp := fun vs H Q _ => ∃ (s : Addr) (ns : List Int), vs = [.ref s] ∧ SqL K H s (ns.map V.int) ∧ ∀ (d : Addr) (m : Int), H d = none → Good 0 m 0 → Q (.ref d) (upd H d (dice s 0 m 0))
/-- the dice at d over the script at s -/
structure DiceAt (K : PySem.W.Frag) (F H : Hp) (d s : Addr) (ns : List Int) : Prop where
  fh : Same F H
  fd : F d = none
  sc : SqL K F s (ns.map V.int)
  ex : ∃ i m r : Int, H d = some (dice s i m r) ∧ Good i m r
/-- what a draw may do -/
def RetN (K : PySem.W.Frag) (F H : Hp) (d s : Addr) (ns : List Int) (many : Int) (Q : VK) : Prop := ∀ (z : Int) (H' : Hp), 0 ≤ z → z < many → Ext (· = d) F H F H' → DiceAt K F H' d s ns → Q (.int z) H'
def spNext (K : PySem.W.Frag) : Sp := fun vs H Q _ => ∃ (F : Hp) (d s : Addr) (ns : List Int) (many : Int), vs = [.ref d, .int many] ∧ DiceAt K F H d s ns ∧ 1 ≤ many ∧ many < 2 ^ 64 ∧ RetN K F H d s ns many Q
structure TxL (mg : Str → Option Value) : Prop where
  int : mg "int" = none
  len : mg "len" = none
  range : mg "range" = none
  min : mg "min" = none
theorem atI_int {ns : List Int} {i : Int} (h0 : 0 ≤ i) (h1 : i < ns.length) : ∃ c, atI (ns.map V.int) i = some (.int c) := by
  obtain ⟨j, rfl⟩ : ∃ j : Nat, i = (j : Int) := ⟨i.toNat, by omega⟩
  have hl : j < ns.length := by omega
  exact ⟨ns[j], atI_nat (by rw [List.getElem?_map, List.getElem?_eq_getElem hl]; rfl)⟩
theorem DiceAt.put {K : PySem.W.Frag} {F H : Hp} {d s : Addr} {ns : List Int} (D : DiceAt K F H d s ns) {i m r : Int} (g : Good i m r) : Ext (· = d) F H F (upd H d (dice s i m r)) ∧ DiceAt K F (upd H d (dice s i m r)) d s ns :=
  ⟨(Ext.refl D.fh).put (.inr rfl) D.fd, ⟨same_put D.fh D.fd, D.fd, D.sc, ⟨i, m, r, upd_same, g⟩⟩⟩
section
variable {P : Program} {w : World} {K : PySem.W.Frag} {mg : Str → Option Value} {base : Heap}
theorem ok_law_dice {f : Addr} {fd : FuncData} (F0 : Fun K "_law_dice" "_law_dice" s_law_dice f fd) (T : TxL mg) : FnOk P w K mg base CX0 1 f fd ["_law_script"] (spDice K) := by
  refine F0.ok sc_law_dice (fun vs H Q E h => ?_) (fun cdv A outer s H vs Q E hr h => ?_)
  · obtain ⟨s, ns, rfl, _⟩ := h
    rfl
  · obtain ⟨s, ns, rfl, hs, q⟩ := h
    refine ⟨_, pss_cons (ps_set (i := 1) sc_law_dice.nd rfl (.inl rfl) pe_int)
      (pss_cons (ps_for PassesOwn.never rfl (pi_list (pv 0)) (pg_name (i := 2) sc_law_dice.nd rfl (.inl rfl))
        (pss_one (ps_set (i := 1) sc_law_dice.nd rfl (.inl rfl) (pe_op op_mod (pe_op op_add (pe_op op_add (pe_op op_mul (pv 1) pe_int) (pe_op op_mul (pe_op op_mod (pv 2) pe_int) pe_int)) pe_int) pe_int))))
      (pss_one (ps_ret (pe_lst (pa_cons (pv 0) (pa_cons pe_int (pa_cons (pe_op op_mul (pv 1) (pe_callTy call_int1 (by rfl) T.int (by decide +kernel) (pa_cons (pe_cmpR op_gt (pe_callB call_len (by rfl) T.len PySem.boot_len (pa_cons (pv 0) pa_nil)) pe_int (nomark _)) pa_nil))) (pa_cons pe_int pa_nil)))))))), ?_⟩
    refine ⟨_, rfl, s, rfl, ⟨_, hs⟩, for_list (K := K) (a := s) (xs := ns.map V.int) (fun i σ H' => ∃ (m : Int) (y : Option V), σ = [some (.ref s), some (.int m), y] ∧ 0 ≤ m ∧ m < 2147483647 ∧ H' = H) ⟨0, none, rfl, by decide, by decide, rfl⟩ (fun i σ H' _ ⟨_, _, _, _, _, e⟩ => e ▸ hs) ?_ ?_⟩
    · rintro i x σ H' hi ⟨m, y, rfl, h0, h1, rfl⟩
      obtain ⟨c, hc, rfl⟩ : ∃ c, ns[i]? = some c ∧ x = .int c := by
        rw [List.getElem?_map] at hi
        cases e : ns[i]? with
        | none => rw [e] at hi; cases hi
        | some c => rw [e] at hi; exact ⟨c, rfl, (Option.some.inj hi).symm⟩
      have p1 : (0 : Int) < 2147483647 := by decide
      refine ⟨_, rfl, _, _, rfl, rfl, .inl ⟨by omega, by omega⟩, _, rfl, _, _, rfl, rfl, p1, _, _, rfl, rfl, .inr ⟨by decide, by decide⟩, _, _, rfl, rfl, _, _, rfl, rfl, _, _, rfl, rfl, p1, ?_⟩
      exact ⟨_, _, rfl, Int.emod_nonneg _ (by decide), Int.emod_lt_of_pos _ p1, rfl⟩
    · rintro σ H' ⟨m, y, rfl, h0, h1, rfl⟩
      refine ⟨_, rfl, _, rfl, _, rfl, _, _, rfl, .inl ⟨_, hs, rfl⟩, _, _, rfl, rfl, .inr ⟨_, rfl, _, _, rfl, rfl, .inl ⟨by omega, by omega⟩, ?_⟩⟩
      refine ⟨by show 4 ≤ sizeLine; decide, fun d nd => ?_⟩
      refine q d _ nd ⟨Int.le_refl _, ?_, ?_, Int.le_refl _⟩
      · split <;> omega
      · split <;> omega
theorem ok_law_next {f : Addr} {fd : FuncData} (F0 : Fun K "_law_next" "_law_next" s_law_next f fd) (T : TxL mg) : FnOk P w K mg base CX0 1 f fd ["_law_dice_here", "_law_many"] (spNext K) := by
  refine F0.ok sc_law_next (fun vs H Q E h => ?_) (fun cdv A outer s H vs Q E hr h => ?_)
  · obtain ⟨F, d, s, ns, many, rfl, _⟩ := h
    rfl
  · obtain ⟨F, d, s, ns, many, rfl, D, m1, m2, q⟩ := h
    obtain ⟨i, m, r, hd, g⟩ := D.ex
    have hdv : many.natAbs < 2 ^ 64 := by omega
    refine ⟨_, pss_cons (ps_if (pt_cmpR op_gt (pe_ix ix_list (pv 0) pe_int (fun _ _ => rfl)) pe_int (nomark _))
        (pss_cons (ps_set (i := 2) sc_law_next.nd rfl (.inl rfl) (pe_op op_mod (pe_ix ix_list (pv 0) pe_int (fun _ _ => rfl)) (pv 1)))
        (pss_cons (ps_asg (pe_op op_fdivW (pe_ix ix_list (pv 0) pe_int (fun _ _ => rfl)) (pv 1)) (pg_sub (pv 0) pe_int set_list))
        (pss_one (ps_ret (pv 2))))) pss_nil)
      (pss_cons (ps_asg (pe_op op_add (pe_ix ix_list (pv 0) pe_int (fun _ _ => rfl)) pe_int) (pg_sub (pv 0) pe_int set_list))
      (pss_cons (ps_if (pt_cmpR op_le (pe_ix ix_list (pv 0) pe_int (fun _ _ => rfl)) (pe_callB call_len (by rfl) T.len PySem.boot_len (pa_cons (pe_ix ix_list (pv 0) pe_int (fun _ _ => rfl)) pa_nil)) (nomark _))
        (pss_cons (ps_set (i := 3) sc_law_next.nd rfl (.inl rfl) (pe_ix ix_list (pe_ix ix_list (pv 0) pe_int (fun _ _ => rfl)) (pe_op op_sub (pe_ix ix_list (pv 0) pe_int (fun _ _ => rfl)) pe_int) (fun _ _ => rfl)))
        (pss_cons (ps_asg (pe_ifExp (pt_cmpR op_ge (pv 3) (pe_op op_pow pe_int pe_int) (nomark _)) (pe_op op_fdivW (pv 3) (pv 1)) pe_int) (pg_sub (pv 0) pe_int set_list))
        (pss_one (ps_ret (pe_op op_mod (pv 3) (pv 1)))))) pss_nil)
      (pss_cons (ps_asg (pe_op op_mod (pe_op op_mul (pe_ix ix_list (pv 0) pe_int (fun _ _ => rfl)) pe_int) pe_int) (pg_sub (pv 0) pe_int set_list))
      (pss_one (ps_ret (pe_op op_mod (pe_op op_fdiv (pe_ix ix_list (pv 0) pe_int (fun _ _ => rfl)) pe_int) (pv 1))))))), ?_⟩
    have p1 : (0 : Int) < 2147483647 := by decide
    have pm : 0 < many := by omega
    refine ⟨_, rfl, d, _, 3, .int r, rfl, rfl, SqL.of hd, rfl, _, _, rfl, rfl, _, rfl, ite2 (fun c => ?_) (fun c => ?_)⟩
    · -- some digits are left
      refine ⟨_, rfl, d, _, 3, .int r, rfl, rfl, SqL.of hd, rfl, _, rfl, _, _, rfl, rfl, pm, ?_⟩
      refine ⟨_, rfl, d, _, 3, .int r, rfl, rfl, SqL.of hd, rfl, _, rfl, _, _, rfl, rfl, wide_div pm hdv (by decide) (by decide), ?_⟩
      refine ⟨_, rfl, d, _, 3, 3, rfl, rfl, hd, rfl, ?_⟩
      have g' : Good i m (r / many) := ⟨g.i0, g.m0, g.m1, Int.ediv_nonneg g.r0 (by omega)⟩
      exact ⟨_, rfl, q _ _ (Int.emod_nonneg _ (by omega)) (Int.emod_lt_of_pos _ pm) (D.put g').1 (D.put g').2⟩
    · refine ⟨_, rfl, d, _, 1, .int i, rfl, rfl, SqL.of hd, rfl, _, _, rfl, rfl, ?_⟩
      refine ⟨_, rfl, d, _, 1, 1, rfl, rfl, hd, rfl, ?_⟩
      have g1 : Good (i + 1) m r := ⟨by have := g.i0; omega, g.m0, g.m1, g.r0⟩
      have D1 := (D.put g1).2
      have X1 := (D.put g1).1
      have hs1 : SqL K (upd H d (dice s (i + 1) m r)) s (ns.map V.int) := D1.fh.seq D.sc
      have go2 : ∀ {i' m' r' z : Int}, Good i' m' r' → 0 ≤ z → z < many → Q (.int z) (upd (upd H d (dice s (i + 1) m r)) d (dice s i' m' r')) := fun g' h0 h1 =>
        q _ _ h0 h1 (X1.trans (D1.put g').1) (D1.put g').2
      refine ⟨_, rfl, d, _, 1, .int (i + 1), rfl, rfl, SqL.of upd_same, rfl, _, rfl, d, _, 0, .ref s, rfl, rfl, SqL.of upd_same, rfl, _, _, rfl, .inl ⟨_, hs1, rfl⟩, _, _, rfl, rfl, _, rfl, ite2 (fun c2 => ?_) (fun c2 => ?_)⟩
      · have c2 := of_decide_eq_true c2
        rw [List.length_map] at c2
        obtain ⟨cell, hc⟩ := atI_int (ns := ns) (i := i + 1 - 1) (by have := g.i0; omega) (by omega)
        refine ⟨_, rfl, d, _, 0, .ref s, rfl, rfl, SqL.of upd_same, rfl, _, rfl, d, _, 1, .int (i + 1), rfl, rfl, SqL.of upd_same, rfl, _, _, rfl, rfl, s, _, _, .int cell, rfl, rfl, hs1, hc, ?_⟩
        refine ⟨_, rfl, _, _, rfl, rfl, ⟨by decide, by decide, by decide⟩, _, _, rfl, rfl, _, rfl, ite2 (fun c3 => ?_) (fun c3 => ?_)⟩
        · have c3 := of_decide_eq_true c3
          have cp : 0 ≤ cell := by
            have e : (10 : Int) ^ (18 : Int).toNat = 1000000000000000000 := by decide
            rw [e] at c3
            omega
          refine ⟨_, rfl, _, rfl, _, _, rfl, rfl, wide_div pm hdv (by decide) (by decide), _, rfl, d, _, 3, 3, rfl, rfl, upd_same, rfl, ?_⟩
          refine ⟨_, rfl, _, rfl, _, _, rfl, rfl, pm, ?_⟩
          exact go2 ⟨g1.i0, g1.m0, g1.m1, Int.ediv_nonneg cp (by omega)⟩ (Int.emod_nonneg _ (by omega)) (Int.emod_lt_of_pos _ pm)
        · refine ⟨_, rfl, d, _, 3, 3, rfl, rfl, upd_same, rfl, ?_⟩
          refine ⟨_, rfl, _, rfl, _, _, rfl, rfl, pm, ?_⟩
          exact go2 ⟨g1.i0, g1.m0, g1.m1, Int.le_refl _⟩ (Int.emod_nonneg _ (by omega)) (Int.emod_lt_of_pos _ pm)
      · have gm0 := g.m0
        have gm1 := g.m1
        refine ⟨_, rfl, d, _, 2, .int m, rfl, rfl, SqL.of upd_same, rfl, _, _, rfl, rfl, .inl ⟨by omega, by omega⟩, _, _, rfl, rfl, p1, _, rfl, d, _, 2, 2, rfl, rfl, upd_same, rfl, ?_⟩
        have g2 : Good (i + 1) (m * 48271 % 2147483647) r := ⟨g1.i0, Int.emod_nonneg _ (by decide), Int.emod_lt_of_pos _ p1, g1.r0⟩
        refine ⟨_, rfl, d, _, 2, .int (m * 48271 % 2147483647), rfl, rfl, SqL.of upd_same, rfl, _, _, rfl, rfl, ⟨by decide, by decide⟩, _, rfl, _, _, rfl, rfl, pm, ?_⟩
        exact go2 g2 (Int.emod_nonneg _ (by omega)) (Int.emod_lt_of_pos _ pm)
end
end Rw
namespace Rw
open PySem L2
/-- a drawn row -/
def Drawn (houses far : Int) (r : Row) : Prop := 0 ≤ r.1 ∧ r.1 < houses ∧ 1 ≤ r.2.1 ∧ r.2.1 ≤ r.2.2 ∧ r.2.2 ≤ far
def spRows (K : PySem.W.Frag) : Sp := fun vs H Q _ => ∃ (F : Hp) (d s : Addr) (ns : List Int) (houses far most : Int), vs = [.ref d, .int houses, .int far, .int most] ∧ DiceAt K F H d s ns ∧ 1 ≤ houses ∧ houses ≤ 8 ∧ 1 ≤ far ∧ far ≤ LIM ∧ 0 ≤ most ∧ most ≤ 1000 ∧
  ∀ (F' H' : Hp) (a : Addr) (xs : List V) (rows : List Row), Ext (· = d) F H F' H' → DiceAt K F' H' d s ns → H a = none → F' a = none → H' a = some (.lst xs) → Paired (kRow.is F') xs rows → (rows.length : Int) ≤ most → (∀ r ∈ rows, Drawn houses far r) → Q (.ref a) H'
theorem DiceAt.step {K : PySem.W.Frag} {F H F' H' : Hp} {d s : Addr} {ns : List Int} (D : DiceAt K F H d s ns) (X : Ext M0 F H F' H') : DiceAt K F' H' d s ns := by
  obtain ⟨i, m, r, hd, g⟩ := D.ex
  exact ⟨X.fh, by rw [X.new d (by rw [hd]; simp)]; exact D.fd, X.ff.seq D.sc, ⟨i, m, r, X.same _ _ hd, g⟩⟩
theorem DiceAt.ne {K : PySem.W.Frag} {F H : Hp} {d s p : Addr} {ns : List Int} (D : DiceAt K F H d s ns) (h : H p = none) : d ≠ p := by
  obtain ⟨i, m, r, hd, g⟩ := D.ex
  exact ne_of_none hd h
theorem DiceAt.lay {K : PySem.W.Frag} {F H : Hp} {d s p : Addr} {ns : List Int} {o : HO} (D : DiceAt K F H d s ns) (h : H p = none) : DiceAt K (upd F p o) (upd H p o) d s ns :=
  D.step ((Ext.refl D.fh).lay h)
theorem DiceAt.tmp {K : PySem.W.Frag} {F H : Hp} {d s p : Addr} {ns : List Int} {o : HO} (D : DiceAt K F H d s ns) (h : H p = none) : DiceAt K F (upd H p o) d s ns :=
  D.step ((Ext.refl D.fh).tmp h)
theorem DiceAt.set {K : PySem.W.Frag} {F H : Hp} {d s p : Addr} {ns : List Int} {o : HO} (D : DiceAt K F H d s ns) (h : d ≠ p) (f : F p = none) : DiceAt K F (upd H p o) d s ns := by
  obtain ⟨i, m, r, hd, g⟩ := D.ex
  exact ⟨same_put D.fh f, D.fd, D.sc, ⟨i, m, r, by rw [upd_ne h]; exact hd, g⟩⟩
section
variable {P : Program} {w : World} {K : PySem.W.Frag} {mg : Str → Option Value} {base : Heap}
theorem ok_law_rows {f : Addr} {fd : FuncData} (F0 : Fun K "_law_rows" "_law_rows" s_law_rows f fd) (T : TxL mg) (CN : Cal P w K mg base 1 "_law_next" ["_law_dice_here", "_law_many"] (spNext K)) : FnOk P w K mg base CX0 2 f fd ["_law_d", "_law_houses", "_law_far", "_law_most"] (spRows K) := by
  obtain ⟨f1, fd1, G1, g1, kp1, b1⟩ := CN
  refine F0.ok sc_law_rows (fun vs H Q E h => ?_) (fun cdv A outer s0 H vs Q E hr h => ?_)
  · obtain ⟨F, d, s, ns, houses, far, most, rfl, _⟩ := h
    rfl
  · obtain ⟨F, d, s, ns, houses, far, most, rfl, D0, h1, h8, f1', fL, m0, m1, q⟩ := h
    have eL : LIM = 1000000000000 := rfl
    refine ⟨_, pss_cons (ps_set (i := 4) sc_law_rows.nd rfl (.inl rfl) (pe_lst pa_nil))
      (pss_cons (ps_for PassesOwn.never rfl (pi_range1 (by rfl) T.range (pa_cons (pe_call G1 hr (by rfl) g1 kp1 b1 .nil pass0 (pa_cons (pv 0) (pa_cons (pe_op op_add (pv 3) pe_int) pa_nil))) pa_nil)) (pg_name (i := 5) sc_law_rows.nd rfl (.inl rfl))
        (pss_cons (ps_set (i := 6) sc_law_rows.nd rfl (.inl rfl) (pe_op op_add pe_int (pe_call G1 hr (by rfl) g1 kp1 b1 .nil pass0 (pa_cons (pv 0) (pa_cons (pv 2) pa_nil)))))
        (pss_cons (ps_set (i := 7) sc_law_rows.nd rfl (.inl rfl) (pe_ix ix_list (pe_lst (pa_cons pe_int (pa_cons (pe_call G1 hr (by rfl) g1 kp1 b1 .nil pass0 (pa_cons (pv 0) (pa_cons pe_int pa_nil))) (pa_cons (pe_call G1 hr (by rfl) g1 kp1 b1 .nil pass0 (pa_cons (pv 0) (pa_cons (pv 2) pa_nil))) pa_nil))))
            (pe_call G1 hr (by rfl) g1 kp1 b1 .nil pass0 (pa_cons (pv 0) (pa_cons pe_int pa_nil))) (fun _ _ => rfl)))
        (pss_one (ps_expr (pe_bm PySem.F.plainAttrs_list PySem.F.slot_list_append PySem.F.type_list_append mt_append (pv 4) (pa_cons (pe_tup (pa_cons (pe_call G1 hr (by rfl) g1 kp1 b1 .nil pass0 (pa_cons (pv 0) (pa_cons (pv 1) pa_nil))) (pa_cons (pv 6)
            (pa_cons (pe_callB (call_min2 (by rfl)) (by rfl) T.min (by decide +kernel) (pa_cons (pv 2) (pa_cons (pe_op op_add (pv 6) (pv 7)) pa_nil))) pa_nil)))) pa_nil)))))))
      (pss_one (ps_ret (pv 4)))), ?_⟩
    refine ⟨Nat.zero_le _, fun o no => ?_⟩
    have Fo : F o = none := D0.fh.free no
    have dO : d ≠ o := D0.ne no
    have X0 : Ext (· = d) F H F (upd H o (.lst [])) := (Ext.refl D0.fh).tmp no
    have ho0 : upd H o (.lst []) o = some (.lst []) := upd_same
    have D1 : DiceAt K F (upd H o (.lst [])) d s ns := D0.tmp no
    revert X0 ho0 D1
    generalize upd H o (.lst []) = H1
    intro X0 ho0 D1
    refine ⟨_, rfl, _, rfl, _, _, rfl, rfl, F, d, s, ns, most + 1, rfl, D1, by omega, by omega, fun z H2 z0 z1 X1 D2 => ?_⟩
    have ho2 : H2 o = some (.lst []) := X1.hh _ _ ho0 fun e => dO e.symm
    have X2 := X0.trans X1
    refine ⟨z, rfl, by omega, by omega, for_range (lo := 0) (n := z.toNat) (fun i σ H' => ∃ F' acc rows y5 y6 y7, σ = [some (.ref d), some (.int houses), some (.int far), some (.int most), some (.ref o), y5, y6, y7] ∧ Ext (· = d) F H F' H' ∧ DiceAt K F' H' d s ns ∧ H' o = some (.lst acc) ∧ F' o = none ∧ Paired (kRow.is F') acc rows ∧ rows.length = i ∧ ∀ r ∈ rows, Drawn houses far r)
      ⟨F, [], [], none, none, none, rfl, X2, D2, ho2, Fo, .nil, rfl, fun r h => absurd h (by simp)⟩ ?_ ?_⟩
    · rintro i σ H3 hi ⟨F', acc, rows, y5, y6, y7, rfl, X3, D3, ho3, fo3, hpr, hlen, hdr⟩
      -- first = 1 + next(d, far)
      refine ⟨_, rfl, _, rfl, F', d, s, ns, far, rfl, D3, f1', by omega, fun a H4 a0 a1 Y4 D4 => ?_⟩
      refine ⟨_, _, rfl, rfl, ?_⟩
      -- wide
      refine ⟨_, rfl, F', d, s, ns, 3, rfl, D4, by decide, by decide, fun b H5 b0 b1 Y5 D5 => ?_⟩
      refine ⟨_, rfl, _, rfl, F', d, s, ns, far, rfl, D5, f1', by omega, fun c H6 c0 c1 Y6 D6 => ?_⟩
      refine ⟨by show 3 ≤ sizeLine; decide, fun p np => ?_⟩
      have D6' : DiceAt K F' (upd H6 p (.lst [.int 0, .int b, .int c])) d s ns := D6.tmp np
      have dp : d ≠ p := D6.ne np
      refine ⟨_, rfl, F', d, s, ns, 3, rfl, D6', by decide, by decide, fun e H7 e0 e1 Y7 D7 => ?_⟩
      have hp7 : H7 p = some (.lst [.int 0, .int b, .int c]) := Y7.hh _ _ upd_same fun z => dp z.symm
      obtain ⟨wd, w0, hw⟩ : ∃ wd : Int, 0 ≤ wd ∧ atI [V.int 0, V.int b, V.int c] e = some (.int wd) := by
        rcases (show e = 0 ∨ e = 1 ∨ e = 2 by omega) with z | z | z
        · exact ⟨0, Int.le_refl _, by rw [z]; rfl⟩
        · exact ⟨b, b0, by rw [z]; rfl⟩
        · exact ⟨c, c0, by rw [z]; rfl⟩
      have Y : Ext (· = d) F' H3 F' H7 := ((Y4.trans Y5).trans Y6 |>.tmp np).trans Y7
      have ho7 : H7 o = some (.lst acc) := Y.hh _ _ ho3 fun z => dO z.symm
      refine ⟨p, _, e, _, rfl, rfl, SqL.of hp7, hw, ?_⟩
      -- append
      refine ⟨_, rfl, .inl ⟨rfl, _, SqL.of ho7⟩, _, rfl, _, rfl, F', d, s, ns, houses, rfl, D7, h1, by omega, fun h H8 hh0 hh1 Y8 D8 => ?_⟩
      have ho8 : H8 o = some (.lst acc) := Y8.hh _ _ ho7 fun z => dO z.symm
      refine ⟨_, rfl, _, rfl, _, rfl, _, rfl, _, _, rfl, rfl, _, _, rfl, by show 3 ≤ sizeLine; decide, fun t nt => ?_⟩
      have ot : o ≠ t := ne_of_none ho8 nt
      have la : acc.length = i := by rw [pr_len hpr]; exact hlen
      refine ⟨o, acc, _, rfl, rfl, by rw [upd_ne ot]; exact ho8, by rw [sizeLine_eq]; omega, ?_⟩
      have XT := (X3.trans Y).trans Y8
      have fo9 : upd F' t (.tup [.int h, .int (1 + a), .int (if 1 + a + wd < far then 1 + a + wd else far)]) o = none := by rw [upd_ne ot]; exact fo3
      have sm : Same F' (upd F' t (.tup [.int h, .int (1 + a), .int (if 1 + a + wd < far then 1 + a + wd else far)])) := same_upd (XT.ffree nt)
      refine ⟨upd F' t (.tup [.int h, .int (1 + a), .int (if 1 + a + wd < far then 1 + a + wd else far)]), acc ++ [.ref t], rows ++ [(h, 1 + a, if 1 + a + wd < far then 1 + a + wd else far)], _, _, _, rfl,
        (XT.lay nt).put (.inl no) fo9, (D8.lay nt).set dO fo9, upd_same, fo9, pr_snoc (pr_mono (fun _ _ z => kRow.mono sm z) hpr) ⟨t, rfl, upd_same⟩, by rw [List.length_append, hlen]; rfl, fun r hr => ?_⟩
      rcases List.mem_append.mp hr with hr | hr
      · exact hdr r hr
      · rw [List.mem_singleton.mp hr]
        refine ⟨hh0, hh1, ?_, ?_, ?_⟩
        · show 1 ≤ 1 + a; omega
        · show 1 + a ≤ if 1 + a + wd < far then 1 + a + wd else far
          split <;> omega
        · show (if 1 + a + wd < far then 1 + a + wd else far) ≤ far
          split <;> omega
    · rintro σ H3 ⟨F', acc, rows, y5, y6, y7, rfl, X3, D3, ho3, fo3, hpr, hlen, hdr⟩
      exact ⟨_, rfl, q F' H3 o acc rows X3 D3 no fo3 ho3 hpr (by omega) hdr⟩
end
end Rw
namespace Rw
open PySem L2
/-! ### alike: the law's own comparing, sort by sort -/
def sc0 (v u : V) : Prop := (∃ i, v = .int i ∧ u = .int i) ∨ (∃ b, v = .bl b ∧ u = .bl b) ∨ (∃ z, v = .str z ∧ u = .str z) ∨ (v = .non ∧ u = .non)
def Twin (H : Hp) : Nat → V → V → Prop
  | 0, _, _ => False
  | n + 1, v, u => sc0 v u ∨ ∃ a b xs ys, v = .ref a ∧ u = .ref b ∧ ((H a = some (.tup xs) ∧ H b = some (.tup ys)) ∨ (H a = some (.lst xs) ∧ H b = some (.lst ys))) ∧ ys.length ≤ 100000 ∧ xs.length = ys.length ∧ ∀ (i : Nat) (x y : V), xs[i]? = some x → ys[i]? = some y → Twin H n x y
theorem Twin.mono {H H' : Hp} (s : Same H H') : ∀ {n : Nat} {v u : V}, Twin H n v u → Twin H' n v u
  | 0, _, _, h => h
  | n + 1, v, u, .inl h => .inl h
  | n + 1, v, u, .inr ⟨a, b, xs, ys, ev, eu, h, l, e, p⟩ => .inr ⟨a, b, xs, ys, ev, eu, h.imp (fun ⟨x, y⟩ => ⟨s _ _ x, s _ _ y⟩) (fun ⟨x, y⟩ => ⟨s _ _ x, s _ _ y⟩), l, e, fun i x y hx hy => (p i x y hx hy).mono s⟩
def spLike (n : Nat) : Sp := fun vs H Q _ => ∃ (v u : V), vs = [v, u] ∧ Twin H n v u ∧ Q (.bl true) H
structure TxK (mg : Str → Option Value) : Prop where
  isinst : mg "isinstance" = none
  int : mg "int" = none
  bool : mg "bool" = none
  str : mg "str" = none
  tuple : mg "tuple" = none
  list : mg "list" = none
  len : mg "len" = none
  range : mg "range" = none
theorem bt_str : bootBuiltins "str" = some (.type "str") := by decide +kernel
theorem bt_list : bootBuiltins "list" = some (.type "list") := by decide +kernel
theorem isi_use {K : PySem.W.Frag} {H : Hp} {x : V} {t n : String} {r : Bool} {Q : VK} (ty : TyX K H x (.type t)) (k : kitB t n = some r) (q : Q (.bl r) H) : rIsi K [x, .ty n] H Q :=
  ⟨_, .ty n, _, _, _, rfl, .ty _, ty, kit_ty k, q⟩
section
variable {P : Program} {w : World} {K : PySem.W.Frag} {mg : Str → Option Value} {base : Heap}
theorem ok_law_like {f : Addr} {fd : FuncData} {n : Nat} (F0 : Fun K "_law_like" "_law_like" s_law_like f fd) (T : TxK mg) (CL : Cal P w K mg base (n + 1) "_law_like" ["_law_found", "_law_due"] (spLike n)) :
    FnOk P w K mg base CX0 (n + 2) f fd ["_law_found", "_law_due"] (spLike (n + 1)) := by
  obtain ⟨f1, fd1, G1, g1, kp1, b1⟩ := CL
  refine F0.ok sc_law_like (fun vs H Q E h => ?_) (fun cdv A outer s H vs Q E hr h => ?_)
  · obtain ⟨v, u, rfl, _⟩ := h
    rfl
  · obtain ⟨v, u, rfl, t, q⟩ := h
    refine ⟨_, pss_cons (ps_if (pt_val (pe_callB call_isi (by rfl) T.isinst (by decide +kernel) (pa_cons (pv 1) (pa_cons (pe_bty (by rfl) T.bool bt_bool) pa_nil))))
        (pss_one (ps_ret (pe_and (pe_callB call_isi (by rfl) T.isinst (by decide +kernel) (pa_cons (pv 0) (pa_cons (pe_bty (by rfl) T.bool bt_bool) pa_nil))) (pe_one (pe_cmpR op_eq (pv 0) (pv 1) (nomark _)))))) pss_nil)
      (pss_cons (ps_if (pt_val (pe_callB call_isi (by rfl) T.isinst (by decide +kernel) (pa_cons (pv 1) (pa_cons (pe_bty (by rfl) T.str bt_str) pa_nil))))
        (pss_one (ps_ret (pe_and (pe_callB call_isi (by rfl) T.isinst (by decide +kernel) (pa_cons (pv 0) (pa_cons (pe_bty (by rfl) T.str bt_str) pa_nil))) (pe_one (pe_cmpR op_eq (pv 0) (pv 1) (nomark _)))))) pss_nil)
      (pss_cons (ps_if (pt_val (pe_callB call_isi (by rfl) T.isinst (by decide +kernel) (pa_cons (pv 1) (pa_cons (pe_bty (by rfl) T.int bt_int) pa_nil))))
        (pss_one (ps_ret (pe_and (pe_callB call_isi (by rfl) T.isinst (by decide +kernel) (pa_cons (pv 0) (pa_cons (pe_bty (by rfl) T.int bt_int) pa_nil))) (pe_and (pe_not (pe_callB call_isi (by rfl) T.isinst (by decide +kernel) (pa_cons (pv 0) (pa_cons (pe_bty (by rfl) T.bool bt_bool) pa_nil)))) (pe_one (pe_cmpR op_eq (pv 0) (pv 1) (nomark _))))))) pss_nil)
      (pss_cons (ps_if (pt_cmp (pc_isN (pv 1))) (pss_one (ps_ret (pe_cmp (pc_isN (pv 0))))) pss_nil)
      (pss_cons (ps_if (PW.pt (pw_or (pt_cmpR op_ne (pe_callB call_isi (by rfl) T.isinst (by decide +kernel) (pa_cons (pv 1) (pa_cons (pe_bty (by rfl) T.tuple bt_tuple) pa_nil))) (pe_callB call_isi (by rfl) T.isinst (by decide +kernel) (pa_cons (pv 0) (pa_cons (pe_bty (by rfl) T.tuple bt_tuple) pa_nil))) (nomark _))
          (pw_or1 (pt_cmpR op_ne (pe_callB call_isi (by rfl) T.isinst (by decide +kernel) (pa_cons (pv 1) (pa_cons (pe_bty (by rfl) T.list bt_list) pa_nil))) (pe_callB call_isi (by rfl) T.isinst (by decide +kernel) (pa_cons (pv 0) (pa_cons (pe_bty (by rfl) T.list bt_list) pa_nil))) (nomark _))))) (pss_one (ps_ret pe_bl)) pss_nil)
      (pss_cons (ps_if (pt_cmpR op_ne (pe_callB call_len (by rfl) T.len PySem.boot_len (pa_cons (pv 0) pa_nil)) (pe_callB call_len (by rfl) T.len PySem.boot_len (pa_cons (pv 1) pa_nil)) (nomark _)) (pss_one (ps_ret pe_bl)) pss_nil)
      (pss_cons (ps_for PassesOwn.never rfl (pi_range1 (by rfl) T.range (pa_cons (pe_callB call_len (by rfl) T.len PySem.boot_len (pa_cons (pv 1) pa_nil)) pa_nil)) (pg_name (i := 2) sc_law_like.nd rfl (.inl rfl))
        (pss_one (ps_if (pt_not (pt_val (pe_call G1 hr (by rfl) g1 kp1 b1 .nil pass0 (pa_cons (pe_ix ix_seq (pv 0) (pv 2) (fun _ _ => rfl)) (pa_cons (pe_ix ix_seq (pv 1) (pv 2) (fun _ _ => rfl)) pa_nil))))) (pss_one (ps_ret pe_bl)) pss_nil)))
      (pss_one (ps_ret pe_bl)))))))), ?_⟩
    obtain (⟨i, rfl, rfl⟩ | ⟨b, rfl, rfl⟩ | ⟨z, rfl, rfl⟩ | ⟨rfl, rfl⟩) | ⟨a, b, xs, ys, rfl, rfl, hab, hl, hlen, hp⟩ := t
    · refine ⟨_, rfl, _, .ty "bool", _, _, _, rfl, .ty _, .base (.int i), kit_ib, false, rfl, iteF ?_⟩
      refine ⟨_, rfl, _, .ty "str", _, _, _, rfl, .ty _, .base (.int i), kit_ty (r := false) (by decide +kernel), false, rfl, iteF ?_⟩
      refine ⟨_, rfl, _, .ty "int", _, _, _, rfl, .ty _, .base (.int i), kit_ii, true, rfl, iteT ?_⟩
      refine ⟨_, rfl, _, .ty "int", _, _, _, rfl, .ty _, .base (.int i), kit_ii, true, rfl, iteT ?_⟩
      refine ⟨_, rfl, _, .ty "bool", _, _, _, rfl, .ty _, .base (.int i), kit_ib, false, rfl, true, rfl, iteT ?_⟩
      refine ⟨_, rfl, _, rfl, rfl, ?_⟩
      rw [decide_eq_true rfl]
      exact q
    · refine ⟨_, rfl, _, .ty "bool", _, _, _, rfl, .ty _, .base (.bl b), kit_ty (r := true) (by decide +kernel), true, rfl, iteT ?_⟩
      refine ⟨_, rfl, _, .ty "bool", _, _, _, rfl, .ty _, .base (.bl b), kit_ty (r := true) (by decide +kernel), true, rfl, iteT ?_⟩
      refine ⟨_, rfl, _, rfl, rfl, ?_⟩
      rw [decide_eq_true rfl]
      exact q
    · refine ⟨_, rfl, _, .ty "bool", _, _, _, rfl, .ty _, .base (.str z), kit_ty (r := false) (by decide +kernel), false, rfl, iteF ?_⟩
      refine ⟨_, rfl, _, .ty "str", _, _, _, rfl, .ty _, .base (.str z), kit_ty (r := true) (by decide +kernel), true, rfl, iteT ?_⟩
      refine ⟨_, rfl, _, .ty "str", _, _, _, rfl, .ty _, .base (.str z), kit_ty (r := true) (by decide +kernel), true, rfl, iteT ?_⟩
      refine ⟨_, rfl, _, rfl, rfl, ?_⟩
      rw [decide_eq_true rfl]
      exact q
    · refine ⟨_, rfl, _, .ty "bool", _, _, _, rfl, .ty _, .base .non, kit_ty (r := false) (by decide +kernel), false, rfl, iteF ?_⟩
      refine ⟨_, rfl, _, .ty "str", _, _, _, rfl, .ty _, .base .non, kit_ty (r := false) (by decide +kernel), false, rfl, iteF ?_⟩
      refine ⟨_, rfl, _, .ty "int", _, _, _, rfl, .ty _, .base .non, kit_ty (r := false) (by decide +kernel), false, rfl, iteF ?_⟩
      exact ⟨_, rfl, _, rfl, iteT ⟨_, rfl, q⟩⟩
    · -- a list or a tuple
      obtain ⟨T', c1, c2, ta, tb, k1, k2, k3, k4, k5, hs⟩ : ∃ (T' : String) (c1 c2 : Bool), TyX K H (.ref a) (.type T') ∧ TyX K H (.ref b) (.type T') ∧ kitB T' "bool" = some false ∧ kitB T' "str" = some false ∧ kitB T' "int" = some false ∧ kitB T' "tuple" = some c1 ∧ kitB T' "list" = some c2 ∧
          ((SqL K H a xs ∧ SqL K H b ys) ∨ (SqT K H a xs ∧ SqT K H b ys)) := by
        rcases hab with ⟨ha, hb⟩ | ⟨ha, hb⟩
        · exact ⟨"tuple", true, false, tyx_tup ha, tyx_tup hb, by decide +kernel, by decide +kernel, by decide +kernel, by decide +kernel, by decide +kernel, .inr ⟨SqT.of ha, SqT.of hb⟩⟩
        · exact ⟨"list", false, true, tyx_lst ha, tyx_lst hb, by decide +kernel, by decide +kernel, by decide +kernel, by decide +kernel, by decide +kernel, .inl ⟨SqL.of ha, SqL.of hb⟩⟩
      have la : LenV K (.ref a) H xs.length := hs.imp (fun z => ⟨xs, z.1, rfl⟩) fun z => ⟨xs, z.1, rfl⟩
      have lb : LenV K (.ref b) H ys.length := hs.imp (fun z => ⟨ys, z.2, rfl⟩) fun z => ⟨ys, z.2, rfl⟩
      refine ⟨_, rfl, _, .ty "bool", _, _, _, rfl, .ty _, tb, kit_ty k1, false, rfl, iteF ?_⟩
      refine ⟨_, rfl, _, .ty "str", _, _, _, rfl, .ty _, tb, kit_ty k2, false, rfl, iteF ?_⟩
      refine ⟨_, rfl, _, .ty "int", _, _, _, rfl, .ty _, tb, kit_ty k3, false, rfl, iteF ?_⟩
      refine ⟨_, rfl, _, rfl, iteF ?_⟩
      refine ⟨_, rfl, _, .ty "tuple", _, _, _, rfl, .ty _, tb, kit_ty k4, _, rfl, _, .ty "tuple", _, _, _, rfl, .ty _, ta, kit_ty k4, rfl, _, rfl, iteNS rfl ?_⟩
      refine ⟨_, rfl, _, .ty "list", _, _, _, rfl, .ty _, tb, kit_ty k5, _, rfl, _, .ty "list", _, _, _, rfl, .ty _, ta, kit_ty k5, rfl, _, rfl, iteNS rfl ?_⟩
      refine ⟨_, rfl, _, _, rfl, la, _, rfl, _, _, rfl, lb, rfl, _, rfl, iteNS (by rw [hlen]) ?_⟩
      refine ⟨_, rfl, _, _, rfl, lb, _, rfl, by omega, by omega, for_range (lo := 0) (n := ys.length) (fun i σ H' => ∃ y2, σ = [some (.ref a), some (.ref b), y2] ∧ H' = H) ⟨none, rfl, rfl⟩ ?_ ?_⟩
      · rintro i σ H' hi ⟨y2, rfl, rfl⟩
        obtain ⟨x, hx⟩ : ∃ x, xs[i]? = some x := ⟨_, List.getElem?_eq_getElem (by omega)⟩
        obtain ⟨y, hy⟩ : ∃ y, ys[i]? = some y := ⟨_, List.getElem?_eq_getElem hi⟩
        have ax : atI xs (0 + (i : Int)) = some x := by rw [Int.zero_add]; exact atI_nat hx
        have ay : atI ys (0 + (i : Int)) = some y := by rw [Int.zero_add]; exact atI_nat hy
        refine ⟨_, rfl, _, rfl, ?_⟩
        have ix : ∀ (Q : VK), (Q x H' → rIx K (.ref a) (.int (0 + (i : Int))) H' Q) := fun Q q => hs.elim (fun z => .inl ⟨a, xs, _, x, rfl, rfl, z.1, ax, q⟩) fun z => .inr (.inl ⟨a, xs, _, x, rfl, rfl, z.1, ax, q⟩)
        have iy : ∀ (Q : VK), (Q y H' → rIx K (.ref b) (.int (0 + (i : Int))) H' Q) := fun Q q => hs.elim (fun z => .inl ⟨b, ys, _, y, rfl, rfl, z.2, ay, q⟩) fun z => .inr (.inl ⟨b, ys, _, y, rfl, rfl, z.2, ay, q⟩)
        refine ix _ ⟨_, rfl, _, rfl, iy _ ⟨x, y, rfl, hp i x y hx hy, true, rfl, iteF ⟨_, rfl, rfl⟩⟩⟩
      · rintro σ H' ⟨y2, rfl, rfl⟩
        exact q
end
end Rw
namespace Rw
open PySem L2
/-! ### rows moved along -/
def mv1 (by' : Int) (r : Row) : Row := (r.1, r.2.1 + by', r.2.2 + by')
def moved (by' : Int) (rs : List Row) : List Row := rs.map (mv1 by')
def spMoved : Sp := fun vs H Q _ => ∃ (F : Hp) (v : V) (rs : List Row) (b : Int), vs = [v, .int b] ∧ Same F H ∧ (kL kRow).is F v rs ∧ rs.length ≤ 100000 ∧ RetL M0 F H kRow (· = moved b rs) Q
section
variable {P : Program} {w : World} {K : PySem.W.Frag} {mg : Str → Option Value} {base : Heap}
theorem ok_law_moved {f : Addr} {fd : FuncData} (F0 : Fun K "_law_moved" "_law_moved" s_law_moved f fd) : FnOk P w K mg base CX0 1 f fd ["_law_rows_here", "_law_by"] spMoved := by
  refine F0.ok sc_law_moved (fun vs H Q E h => ?_) (fun cdv A outer s H vs Q E hr h => ?_)
  · obtain ⟨F, v, rs, b, rfl, _⟩ := h
    rfl
  · obtain ⟨F, v, rs, b, rfl, fh, ⟨a, xs, rfl, ha, hp⟩, hl, q⟩ := h
    refine ⟨_, pss_one (ps_ret (pe_lc (own := [("_law_house", 2), ("_law_first", 3), ("_law_last", 4)]) (g := gTup K 3 (gCons (gName 2) (gCons (gName 3) (gCons (gName 4) gNil)))) (tt := tYes) (by rfl) sc_law_moved.nd (pi_list (pv 0))
        (blkOk_by (own := [("_law_house", 2), ("_law_first", 3), ("_law_last", 4)]) (N := ["_law_rows_here", "_law_by", "_law_house", "_law_first", "_law_last"]) (sc := defScope s_law_moved) (by decide +kernel))
        (fun _ _ _ _ _ => pg_tup (by rfl) (pgs_cons (pg_name (i := 2) sc_law_moved.nd rfl (Or.inl rfl)) (pgs_cons (pg_name (i := 3) sc_law_moved.nd rfl (Or.inl rfl)) (pgs_cons (pg_name (i := 4) sc_law_moved.nd rfl (Or.inl rfl)) pgs_nil)))) (fun _ _ _ _ _ => pts_nil)
        (fun _ _ _ _ _ => pe_tup (pa_cons (pv 2) (pa_cons (pe_op op_add (pv 3) (pv 1)) (pa_cons (pe_op op_add (pv 4) (pv 1)) pa_nil)))))), ?_⟩
    have X1 : Ext M0 F H F H := Ext.refl fh
    refine ⟨_, rfl, a, rfl, ⟨_, SqL.of (X1.fh _ _ ha)⟩, fun D nD => ?_⟩
    have HD : H D = none := nD
    refine it_by (walk_list (K := K) (a := a) (xs := xs)) (fun i H' => ∃ F' acc, Ext M0 F H F' H' ∧ H' D = some (.lst acc) ∧ F' D = none ∧ Paired (kRow.is F') acc (moved b (rs.take i)))
      ⟨F, [], X1.tmp nD, upd_same, X1.ffree nD, .nil⟩ (fun i H' _ ⟨_, _, z, _⟩ => SqL.of (z.fh _ _ (z.ff _ _ ha))) ?_ ?_
    · rintro i x H2 _ hi ⟨F', acc, X2, hD, fD, hacc⟩ ⟨rfl, hx⟩
      obtain ⟨r, hri, tr, rfl, htr⟩ := pr_get hp hx
      refine ⟨tr, _, rfl, SqT.of (X2.fh _ _ (X2.ff _ _ htr)), rfl, _, _, rfl, _, _, rfl, _, _, rfl, rfl, rfl, _, rfl, _, rfl, _, rfl, _, _, rfl, rfl, _, rfl, _, rfl, _, _, rfl, rfl, (by show 3 ≤ sizeLine; decide), fun t nt => ?_⟩
      have Dt : D ≠ t := ne_of_none hD nt
      have la : acc.length ≤ 100000 := by
        have e : (moved b (rs.take i)).length = (rs.take i).length := List.length_map ..
        rw [pr_len hacc, e]
        have h1 := List.length_take_le' i rs
        omega
      refine ⟨acc, by rw [upd_ne Dt]; exact hD, by rw [sizeLine_eq]; omega, ?_⟩
      have fD2 : upd F' t (.tup [.int r.1, .int (r.2.1 + b), .int (r.2.2 + b)]) D = none := by rw [upd_ne Dt]; exact fD
      have sm : Same F' (upd F' t (.tup [.int r.1, .int (r.2.1 + b), .int (r.2.2 + b)])) := same_upd (X2.ffree nt)
      refine ⟨upd F' t (.tup [.int r.1, .int (r.2.1 + b), .int (r.2.2 + b)]), acc ++ [.ref t], (X2.lay nt).put (.inl HD) fD2, upd_same, fD2, ?_⟩
      have eo : moved b (rs.take (i + 1)) = moved b (rs.take i) ++ [mv1 b r] := by rw [List.take_add_one, hri]; exact List.map_append ..
      rw [eo]
      exact pr_snoc (pr_mono (fun _ _ z => kRow.mono sm z) hacc) ⟨t, rfl, upd_same⟩
    · rintro H2 ⟨F', acc, X2, hD, fD, hacc⟩
      rw [pr_len hp, List.take_length] at hacc
      exact q F' H2 D acc _ X2 HD fD hD hacc rfl
end
end Rw
namespace Rw
open PySem L2
/-! ### the names of rows, one by one -/
structure DKy (kvs : List (List Key × V)) (ps : List Pt) : Prop where
  keys : kvs.map (·.1) = ps.map kk
  nd : ps.Nodup
theorem DKy.nil : DKy [] [] := ⟨rfl, .nil⟩
theorem DKy.len {kvs : List (List Key × V)} {ps : List Pt} (d : DKy kvs ps) : kvs.length = ps.length := by
  have h := congrArg List.length d.keys
  rw [List.length_map, List.length_map] at h
  exact h
theorem DKy.put {kvs : List (List Key × V)} {ps : List Pt} (d : DKy kvs ps) (q : Pt) (v : V) : ∃ ps', DKy (putK kvs (kk q) v) ps' ∧ (∀ p, p ∈ ps' ↔ p ∈ ps ∨ p = q) ∧ ps'.length ≤ ps.length + 1 := by
  by_cases m : q ∈ ps
  · refine ⟨ps, ⟨?_, d.nd⟩, fun p => ⟨.inl, fun h => h.elim id fun e => e ▸ m⟩, Nat.le_succ _⟩
    have a : (kvs.any fun kv => decide (kv.1 = kk q)) = true := by
      have h1 : kk q ∈ kvs.map (·.1) := by rw [d.keys]; exact List.mem_map.mpr ⟨q, m, rfl⟩
      obtain ⟨kv, hkv, e⟩ := List.mem_map.mp h1
      exact List.any_eq_true.mpr ⟨kv, hkv, decide_eq_true e⟩
    unfold putK
    rw [if_pos a, List.map_map, ← d.keys]
    refine List.map_congr_left fun kv _ => ?_
    by_cases e : kv.1 = kk q
    · simp only [Function.comp, if_pos e]
    · simp only [Function.comp, if_neg e]
  · refine ⟨ps ++ [q], ⟨?_, ?_⟩, fun p => by simp, by simp⟩
    · have a : ¬ (kvs.any fun kv => decide (kv.1 = kk q)) = true := fun h => by
        obtain ⟨kv, hkv, e⟩ := List.any_eq_true.mp h
        have h1 : kv.1 ∈ ps.map kk := by rw [← d.keys]; exact List.mem_map.mpr ⟨kv, hkv, rfl⟩
        rw [of_decide_eq_true e] at h1
        obtain ⟨p, hp, e2⟩ := List.mem_map.mp h1
        rw [kk_inj e2] at hp
        exact m hp
      unfold putK
      rw [if_neg a, List.map_append, List.map_append, d.keys]
      rfl
    · exact List.nodup_append.mpr ⟨d.nd, by simp, fun a ha b hb e => by rw [List.mem_singleton.mp hb] at e; exact m (e ▸ ha)⟩
/-- a frame that has all tuples -/
def Full (F H : Hp) : Prop := ∀ t xs, H t = some (.tup xs) → F t = some (.tup xs)
def absb (F H : Hp) : Hp := fun b => match H b with
  | some (.tup xs) => some (.tup xs)
  | _ => F b
theorem absb_tup {F H : Hp} {b : Addr} {xs : List V} (h : H b = some (.tup xs)) : absb F H b = some (.tup xs) := by unfold absb; rw [h]
theorem absb_ne {F H : Hp} {b : Addr} (h : ∀ xs, H b ≠ some (.tup xs)) : absb F H b = F b := by
  unfold absb
  split
  · rename_i xs e; exact absurd e (h xs)
  · rfl
theorem absb_or {F H : Hp} (b : Addr) : (∃ xs, H b = some (.tup xs) ∧ absb F H b = some (.tup xs)) ∨ ((∀ xs, H b ≠ some (.tup xs)) ∧ absb F H b = F b) := by
  by_cases h : ∃ xs, H b = some (.tup xs)
  · obtain ⟨xs, h⟩ := h
    exact .inl ⟨xs, h, absb_tup h⟩
  · have h' : ∀ xs, H b ≠ some (.tup xs) := fun xs e => h ⟨xs, e⟩
    exact .inr ⟨h', absb_ne h'⟩
theorem absb_full {F H : Hp} : Full (absb F H) H := fun _ _ h => absb_tup h
theorem absb_same {F H : Hp} (s : Same F H) : Same (absb F H) H := fun b o e => by
  rcases absb_or (F := F) (H := H) b with ⟨xs, h, e'⟩ | ⟨_, e'⟩
  · rw [e'] at e; rw [h]; exact e
  · rw [e'] at e; exact s _ _ e
theorem absb_sub {F H : Hp} (s : Same F H) : Same F (absb F H) := fun b o e => by
  rcases absb_or (F := F) (H := H) b with ⟨xs, h, e'⟩ | ⟨_, e'⟩
  · rw [e', ← h]; exact s _ _ e
  · rw [e']; exact e
/-- the old frame where there was something, the new heap but for one place elsewhere -/
def lift (F H G : Hp) : Hp := fun b => match H b with
  | some _ => F b
  | none => G b
theorem lift_old {F H G : Hp} {b : Addr} (h : H b ≠ none) : lift F H G b = F b := by
  unfold lift
  split
  · rfl
  · rename_i e; exact absurd e h
theorem lift_new {F H G : Hp} {b : Addr} (h : H b = none) : lift F H G b = G b := by unfold lift; rw [h]
theorem lift_ext {F H F1 H' G : Hp} (s0 : Same F H) (X : Ext M0 F H F1 H') (s : Same G H') : Ext M0 F H (lift F H G) H' := by
  refine ⟨fun b o e => ?_, fun b o e => ?_, X.hh, X.tr, fun b e => lift_old e⟩
  · rw [lift_old (by rw [s0 _ _ e]; simp)]; exact e
  · by_cases h : H b = none
    · rw [lift_new h] at e; exact s _ _ e
    · rw [lift_old h] at e; exact X.fh _ _ (X.ff _ _ e)
theorem lift_pt {F H F1 H' G : Hp} (X : Ext M0 F H F1 H') (fu : Full F H) (s : Same G H') {v : V} {p : Pt} (h : kPt.is G v p) : kPt.is (lift F H G) v p := by
  obtain ⟨t, e, ht⟩ := h
  refine ⟨t, e, ?_⟩
  cases q : H t with
  | none => rw [lift_new q]; exact ht
  | some o =>
    rw [lift_old (by rw [q]; simp)]
    have h1 := X.same _ _ q
    rw [s _ _ ht] at h1
    rw [← Option.some.inj h1] at q
    exact fu _ _ q
structure NamesOf (rs : List Row) (qs : List Pt) : Prop where
  sort : qs.Pairwise lt2
  mem : ∀ p, p ∈ qs ↔ mem rs p
  len : qs.length ≤ 400 * rs.length
def Small (rs : List Row) : Prop := rs.length ≤ 250 ∧ ∀ r ∈ rs, 1 ≤ r.2.1 ∧ r.2.1 ≤ r.2.2 ∧ r.2.2 ≤ 400
def spNames : Sp := fun vs H Q _ => ∃ (F : Hp) (v : V) (rs : List Row), vs = [v] ∧ Same F H ∧ Full F H ∧ (kL kRow).is F v rs ∧ Small rs ∧ RetL M0 F H kPt (NamesOf rs) Q
structure TxN (mg : Str → Option Value) : Prop where
  range : mg "range" = none
  sorted : mg "sorted" = none
theorem mem_take {rs : List Row} {i : Nat} {r : Row} (h : rs[i]? = some r) (p : Pt) : mem (rs.take (i + 1)) p ↔ mem (rs.take i) p ∨ inRow r p := by
  have eT : rs.take (i + 1) = rs.take i ++ [r] := by rw [List.take_add_one, h]; rfl
  rw [eT, mem_append]
  constructor
  · rintro (z | ⟨s, hs, z⟩)
    · exact .inl z
    · rw [List.mem_singleton.mp hs] at z; exact .inr z
  · rintro (z | z)
    · exact .inl z
    · exact .inr ⟨r, List.mem_singleton.mpr rfl, z⟩
section
variable {P : Program} {w : World} {K : PySem.W.Frag} {mg : Str → Option Value} {base : Heap}
theorem ok_law_names {f : Addr} {fd : FuncData} (F0 : Fun K "_law_names" "_law_names" s_law_names f fd) (T : TxN mg) : FnOk P w K mg base CX0 1 f fd ["_law_rows_here"] spNames := by
  refine F0.ok sc_law_names (fun vs H Q E h => ?_) (fun cdv A outer s H vs Q E hr h => ?_)
  · obtain ⟨F, v, rs, rfl, _⟩ := h
    rfl
  · obtain ⟨F, v, rs, rfl, fh, fu, ⟨a, xs, rfl, ha, hp⟩, ⟨hl, hsm⟩, q⟩ := h
    have hu := hu_of hr
    refine ⟨_, pss_cons (ps_set (i := 1) sc_law_names.nd rfl (.inl rfl) pe_dnewT)
      (pss_cons (ps_for PassesOwn.never rfl (pi_list (pv 0))
          (pg_tup rfl (pgs_cons (pg_name (i := 2) sc_law_names.nd rfl (.inl rfl)) (pgs_cons (pg_name (i := 3) sc_law_names.nd rfl (.inl rfl)) (pgs_cons (pg_name (i := 4) sc_law_names.nd rfl (.inl rfl)) pgs_nil))))
        (pss_one (ps_for PassesOwn.never rfl (pi_range2 (by rfl) T.range (pa_cons (pv 3) (pa_cons (pe_op op_add (pv 4) pe_int) pa_nil))) (pg_name (i := 5) sc_law_names.nd rfl (.inl rfl))
          (pss_one (ps_dput hu (pv 1) (pe_tup (pa_cons (pv 2) (pa_cons (pv 5) pa_nil))) pe_bl rfl)))))
      (pss_one (ps_ret (pe_callB (cr_sortedDT (by rfl)) (by rfl) T.sorted (by decide +kernel) (pa_cons (pv 1) pa_nil))))), ?_⟩
    intro d nd
    have fd0 : F d = none := fh.free nd
    refine ⟨_, rfl, a, rfl, ⟨xs, SqL.of ((same_upd nd) _ _ (fh _ _ ha))⟩, for_list (K := K) (a := a) (xs := xs) (fun i σ H1 => ∃ kvs ps y2 y3 y4 y5, σ = [some (.ref a), some (.ref d), y2, y3, y4, y5] ∧ Ext M0 F H F H1 ∧ H1 d = some (.dT kvs) ∧ DKy kvs ps ∧ (∀ p, p ∈ ps ↔ mem (rs.take i) p) ∧ ps.length ≤ 400 * i)
      ⟨[], [], none, none, none, none, rfl, (Ext.refl fh).put (.inl nd) fd0, upd_same, DKy.nil, fun p => ⟨fun h => absurd h (by simp), fun h => absurd h mem_nil⟩, Nat.le_refl _⟩ (fun i σ H1 _ ⟨_, _, _, _, _, _, _, X1, _⟩ => SqL.of (X1.fh _ _ ha)) ?_ ?_⟩
    · rintro i x σ H1 hi ⟨kvs, ps, y2, y3, y4, y5, rfl, X1, hd, hk, hm, hn⟩
      obtain ⟨r, hri, t, rfl, ht⟩ := pr_get hp hi
      obtain ⟨r1, r2, r3⟩ := hsm _ (List.mem_of_getElem? hri)
      have i250 : i < 250 := by
        have := (List.getElem?_eq_some_iff.mp hri).1
        omega
      refine ⟨t, _, rfl, SqT.of (X1.fh _ _ ht), rfl, _, _, rfl, _, _, rfl, _, _, rfl, rfl, ?_⟩
      refine ⟨_, rfl, _, rfl, _, _, rfl, rfl, r.2.1, r.2.2 + 1, rfl, ⟨by omega, by omega, by omega, by omega⟩, for_range (lo := r.2.1) (n := (r.2.2 + 1 - r.2.1).toNat) (fun j σ H' => ∃ kvs ps y5, σ = [some (.ref a), some (.ref d), some (.int r.1), some (.int r.2.1), some (.int r.2.2), y5] ∧ Ext M0 F H F H' ∧ H' d = some (.dT kvs) ∧ DKy kvs ps ∧ (∀ p, p ∈ ps ↔ mem (rs.take i) p ∨ (p.1 = r.1 ∧ r.2.1 ≤ p.2 ∧ p.2 < r.2.1 + (j : Int))) ∧ ps.length ≤ 400 * i + j)
        ⟨kvs, ps, y5, rfl, X1, hd, hk, fun p => by rw [hm p]; exact ⟨.inl, fun z => z.elim id fun z => absurd z (by omega)⟩, hn⟩ ?_ ?_⟩
      · rintro j σ H2 hj ⟨kvs2, ps2, y5', rfl, X2, hd2, hk2, hm2, hn2⟩
        have hj4 : j < 400 := by omega
        refine ⟨_, rfl, _, rfl, _, rfl, (by show 2 ≤ sizeLine; decide), fun k1 nk1 => ?_⟩
        have dk1 : d ≠ k1 := ne_of_none hd2 nk1
        have hd3 : upd H2 k1 (.tup [.int r.1, .int (r.2.1 + (j : Int))]) d = some (.dT kvs2) := by rw [upd_ne dk1]; exact hd2
        obtain ⟨ps3, hk3, hm3, hn3⟩ := hk2.put (r.1, r.2.1 + (j : Int)) (.bl true)
        refine ⟨d, _, rfl, DPut.t (k := kk (r.1, r.2.1 + (j : Int))) hd3 upd_same (by rw [hk2.len, sizeLine_eq]; omega), ?_⟩
        refine ⟨_, ps3, _, rfl, (X2.tmp nk1).put (.inl nd) fd0, upd_same, hk3, fun p => ?_, by omega⟩
        rw [hm3 p, hm2 p]
        constructor
        · rintro ((z | z) | z)
          · exact .inl z
          · exact .inr (by omega)
          · rw [z]; exact .inr ⟨rfl, by simp only; omega, by simp only; omega⟩
        · rintro (z | z)
          · exact .inl (.inl z)
          · by_cases e : p.2 = r.2.1 + (j : Int)
            · exact .inr (Prod.ext z.1 e)
            · exact .inl (.inr (by omega))
      · rintro σ H2 ⟨kvs2, ps2, y5', rfl, X2, hd2, hk2, hm2, hn2⟩
        refine ⟨kvs2, ps2, _, _, _, _, rfl, X2, hd2, hk2, fun p => ?_, by omega⟩
        rw [hm2 p, mem_take hri p]
        refine or_congr Iff.rfl ?_
        unfold inRow
        constructor
        · rintro ⟨z1, z2, z3⟩; exact ⟨z1.symm, z2, by omega⟩
        · rintro ⟨z1, z2, z3⟩; exact ⟨z1.symm, z2, by omega⟩
    · rintro σ H1 ⟨kvs, ps, y2, y3, y4, y5, rfl, X1, hd, hk, hm, hn⟩
      rw [pr_len hp, List.take_length] at hm
      refine ⟨_, rfl, d, kvs, ps, rfl, hd, hk.keys, hk.nd, fun ys qs p hys hperm hsort np => ?_⟩
      have X2 := lift_ext fh X1 (Same.refl H1)
      have X3 := X2.tmp (o := .lst ys) np
      have fp : lift F H H1 p = none := X2.ffree np
      refine q _ _ p ys qs X3 (X1.free np) fp upd_same (pr_mono (fun _ _ z => lift_pt X1 fu (Same.refl H1) z) hys) ⟨hsort, fun p => by rw [hperm.mem_iff, hm p], ?_⟩
      rw [hperm.length_eq]
      have := pr_len hp
      omega
end
end Rw
namespace Rw
open PySem L2
/-! ### names told as rows -/
structure ToldOf (ps : List Pt) (out : List Row) : Prop where
  can : Canon out
  mem : ∀ p, mem out p ↔ p ∈ ps
  len : out.length ≤ ps.length
theorem ToldOf.nil : ToldOf [] [] := ⟨.nil, fun p => ⟨fun h => absurd h mem_nil, fun h => absurd h (by simp)⟩, Nat.le_refl _⟩
theorem ToldOf.behind {ps : List Pt} {out : List Row} {k : Pt} (t : ToldOf ps out) (h : ∀ p ∈ ps, lt2 p k) {r : Row} (hr : r ∈ out) : r.1 < k.1 ∨ (r.1 = k.1 ∧ r.2.2 < k.2) := by
  have m := h _ ((t.mem (r.1, r.2.2)).mp (t.can.last hr))
  unfold lt2 at m
  simp only at m
  omega
theorem ToldOf.grow {ps : List Pt} {init : List Row} {r : Row} {k : Pt} (t : ToldOf ps (init ++ [r])) (h : ∀ p ∈ ps, lt2 p k) (e1 : r.1 = k.1) (e2 : r.2.2 + 1 = k.2) : ToldOf (ps ++ [k]) (init ++ [(k.1, r.2.1, k.2)]) := by
  have hr : r ∈ init ++ [r] := by simp
  have o := t.can.ok r hr
  have pw := List.pairwise_append.mp t.can.ord
  have ci : Canon init := ⟨fun s hs => t.can.ok s (List.mem_append_left _ hs), pw.1⟩
  refine ⟨ci.snoc (by simp only; omega) fun s hs => ?_, fun p => ?_, by have := t.len; simp at this ⊢; omega⟩
  · have b := pw.2.2 s hs r (by simp)
    unfold before at b ⊢
    simp only at b ⊢
    omega
  · have m := t.mem p
    rw [mem_append] at m ⊢
    rw [List.mem_append, List.mem_singleton, ← m]
    have one : Rw.mem [(k.1, r.2.1, k.2)] p ↔ Rw.mem [r] p ∨ p = k := by
      unfold Rw.mem inRow
      simp only [List.mem_singleton, exists_eq_left]
      constructor
      · rintro ⟨a, b, c⟩
        by_cases z : p.2 = k.2
        · exact .inr (Prod.ext a.symm z)
        · exact .inl ⟨by omega, b, by omega⟩
      · rintro (⟨a, b, c⟩ | rfl)
        · exact ⟨by omega, b, by omega⟩
        · exact ⟨rfl, by omega, Int.le_refl _⟩
    rw [one, or_assoc]
theorem ToldOf.more {ps : List Pt} {out : List Row} {k : Pt} (t : ToldOf ps out) (h : ∀ p ∈ ps, lt2 p k) (hn : ∀ init r, out = init ++ [r] → ¬ (r.1 = k.1 ∧ r.2.2 + 1 = k.2)) : ToldOf (ps ++ [k]) (out ++ [(k.1, k.2, k.2)]) := by
  refine ⟨t.can.snoc (Int.le_refl _) fun s hs => ?_, fun p => ?_, by have := t.len; simp; omega⟩
  · have b := t.behind h hs
    unfold before
    simp only
    by_cases e : s.1 = k.1 ∧ s.2.2 + 1 = k.2
    · exfalso
      rcases List.eq_nil_or_concat out with z | ⟨init, r, z⟩
      · rw [z] at hs; simp at hs
      · rw [List.concat_eq_append] at z
        have nr := hn init r z
        rw [z] at hs
        rcases List.mem_append.mp hs with hs | hs
        · have c := t.can.ord
          rw [z] at c
          have q := (List.pairwise_append.mp c).2.2 s hs r (by simp)
          have br := t.behind h (r := r) (by rw [z]; simp)
          have o := t.can.ok r (by rw [z]; simp)
          unfold before at q
          omega
        · rw [List.mem_singleton.mp hs] at e
          exact nr e
    · omega
  · rw [mem_append, List.mem_append, List.mem_singleton, t.mem p]
    refine or_congr Iff.rfl ?_
    unfold Rw.mem inRow
    simp only [List.mem_singleton, exists_eq_left]
    constructor
    · rintro ⟨a, b, c⟩
      exact Prod.ext a.symm (by omega)
    · rintro rfl
      exact ⟨rfl, Int.le_refl _, Int.le_refl _⟩
theorem ixN_last (n : Nat) : ixN (n + 1) (-1) = some n := by
  unfold ixN
  rw [if_neg (by decide), if_pos (by omega)]
  congr 1
  omega
def spTold : Sp := fun vs H Q _ => ∃ (F : Hp) (v : V) (ps : List Pt), vs = [v] ∧ Same F H ∧ (kL kPt).is F v ps ∧ ps.Pairwise lt2 ∧ ps.length ≤ 1000000 ∧ RetL M0 F H kRow (ToldOf ps) Q
theorem pr_concat {α : Type} {R : V → α → Prop} {vs : List V} {xs : List α} {x : α} (h : Paired R vs (xs ++ [x])) : ∃ us u, vs = us ++ [u] ∧ Paired R us xs ∧ R u x := by
  have hl := pr_len h
  rw [List.length_append, List.length_singleton] at hl
  obtain ⟨u, hu, ru⟩ := pr_get' (i := xs.length) (x := x) h (by simp)
  refine ⟨vs.take xs.length, u, ?_, ?_, ru⟩
  · have e : vs.take (xs.length + 1) = vs.take xs.length ++ [u] := by rw [List.take_add_one, hu]; rfl
    rw [← e, ← hl, List.take_length]
  · have := pr_take xs.length h
    rw [List.take_left'] at this
    · exact this
    · rfl
theorem set_last {α : Type} (xs : List α) (x y : α) : (xs ++ [x]).set xs.length y = xs ++ [y] := by
  rw [List.set_append_right _ _ (Nat.le_refl _), Nat.sub_self]
  rfl
section
variable {P : Program} {w : World} {K : PySem.W.Frag} {mg : Str → Option Value} {base : Heap}
theorem ok_law_told_rows {f : Addr} {fd : FuncData} (F0 : Fun K "_law_told_rows" "_law_told_rows" s_law_told_rows f fd) : FnOk P w K mg base CX0 1 f fd ["_law_names_here"] spTold := by
  refine F0.ok sc_law_told_rows (fun vs H Q E h => ?_) (fun cdv A outer s H vs Q E hr h => ?_)
  · obtain ⟨F, v, ps, rfl, _⟩ := h
    rfl
  · obtain ⟨F, v, ps, rfl, fh, ⟨a, xs, rfl, ha, hp⟩, hsort, hl, q⟩ := h
    have hu := hr.units
    refine ⟨_, pss_cons (ps_set (i := 1) sc_law_told_rows.nd rfl (.inl rfl) (pe_lst pa_nil))
      (pss_cons (ps_for PassesOwn.never rfl (pi_list (pv 0)) (pg_tup rfl (pgs_cons (pg_name (i := 2) sc_law_told_rows.nd rfl (.inl rfl)) (pgs_cons (pg_name (i := 3) sc_law_told_rows.nd rfl (.inl rfl)) pgs_nil)))
        (pss_one (ps_if (PW.pt (pw_and (pt_cmpR (op_neD hu) (pv 1) (pe_lst pa_nil) (nomark _))
            (pw_and (pt_cmpR op_eq (pe_ix ix_tup (pe_ix ix_list (pv 1) (pe_un un_neg pe_int) (fun _ _ => rfl)) pe_int (fun _ _ => rfl)) (pv 2) (nomark _))
            (pw_and1 (pt_cmpR op_eq (pe_op op_add (pe_ix ix_tup (pe_ix ix_list (pv 1) (pe_un un_neg pe_int) (fun _ _ => rfl)) pe_int (fun _ _ => rfl)) pe_int) (pv 3) (nomark _))))))
          (pss_one (ps_asg (pe_tup (pa_cons (pv 2) (pa_cons (pe_ix ix_tup (pe_ix ix_list (pv 1) (pe_un un_neg pe_int) (fun _ _ => rfl)) pe_int (fun _ _ => rfl)) (pa_cons (pv 3) pa_nil)))) (pg_sub (pv 1) (pe_un un_neg pe_int) set_list)))
          (pss_one (ps_expr (pe_bm PySem.F.plainAttrs_list PySem.F.slot_list_append PySem.F.type_list_append mt_append (pv 1) (pa_cons (pe_tup (pa_cons (pv 2) (pa_cons (pv 3) (pa_cons (pv 3) pa_nil)))) pa_nil)))))))
      (pss_one (ps_ret (pv 1)))), ?_⟩
    refine ⟨Nat.zero_le _, fun o no => ?_⟩
    have Fo : F o = none := fh.free no
    have X0 : Ext M0 F H F (upd H o (.lst [])) := (Ext.refl fh).tmp no
    have ho0 : upd H o (.lst []) o = some (.lst []) := upd_same
    revert X0 ho0
    generalize upd H o (.lst []) = H0
    intro X0 ho0
    refine ⟨_, rfl, a, rfl, ⟨xs, SqL.of (X0.fh _ _ ha)⟩, for_list (K := K) (a := a) (xs := xs) (fun i σ H' => ∃ F' acc out y2 y3, σ = [some (.ref a), some (.ref o), y2, y3] ∧ Ext M0 F H F' H' ∧ F' o = none ∧ H' o = some (.lst acc) ∧ Paired (kRow.is F') acc out ∧ ToldOf (ps.take i) out)
      ⟨F, [], [], none, none, rfl, X0, Fo, ho0, .nil, ToldOf.nil⟩ (fun i σ H' _ ⟨_, _, _, _, _, _, X, _⟩ => SqL.of (X.fh _ _ (X.ff _ _ ha))) ?_ ?_⟩
    · rintro i x σ H1 hi ⟨F1, acc, out, y2, y3, rfl, X1, fo, ho1, hac, ht⟩
      obtain ⟨k, hk, t, rfl, htk⟩ := pr_get hp hi
      have htk1 := X1.fh _ _ (X1.ff _ _ htk)
      have eT : ps.take (i + 1) = ps.take i ++ [k] := by rw [List.take_add_one, hk]; rfl
      have hik : i < ps.length := (List.getElem?_eq_some_iff.mp hk).1
      have hlt : ∀ p ∈ ps.take i, lt2 p k := fun p hpm => by
        obtain ⟨j, hj, e⟩ := List.getElem_of_mem hpm
        have hji : j < i := by
          have := List.length_take_le i ps
          omega
        rw [List.getElem_take] at e
        have ek : ps[i] = k := by
          have := List.getElem?_eq_getElem hik
          rw [hk] at this
          exact (Option.some.inj this).symm
        rw [← e, ← ek]
        exact List.pairwise_iff_getElem.mp hsort j i (by omega) hik hji
      have la : acc.length ≤ 1000000 := by
        have h1 := List.length_take_le' i ps
        have := ht.len
        rw [pr_len hac]
        omega
      rw [eT]
      refine ⟨t, _, rfl, SqT.of htk1, rfl, _, _, rfl, _, _, rfl, rfl, ?_⟩
      refine ⟨_, rfl, Nat.zero_le _, fun p np => ?_⟩
      have op : o ≠ p := ne_of_none ho1 np
      have X2 := X1.tmp (o := .lst []) np
      have ho2 : upd H1 p (.lst []) o = some (.lst acc) := by rw [upd_ne op]; exact ho1
      refine ⟨dL dRow out, dL dRow [], (enc_L enc_row).dp (X2.frz no fo ho2).fh (kL_new fo hac), (enc_L enc_row).dp (k := kL kRow) (Same.refl _) ⟨p, [], rfl, upd_same, .nil⟩, shaped_rows _, shaped_rows _, ?_⟩
      rw [eqv_rows]
      revert X2 ho2
      generalize upd H1 p (.lst []) = H2
      intro X2 ho2
      by_cases z : ∃ init r, out = init ++ [r] ∧ r.1 = k.1 ∧ r.2.2 + 1 = k.2
      · obtain ⟨init, r, rfl, e1, e2⟩ := z
        obtain ⟨us, u, rfl, hus, tu, rfl, htu⟩ := pr_concat hac
        have lu : us.length = init.length := pr_len hus
        have htu2 := X2.fh _ _ htu
        have ne : (!decide (init ++ [r] = [])) = true := by rw [decide_eq_false (by simp)]; rfl
        rw [ne]
        refine ⟨_, rfl, iteT ?_⟩
        refine ⟨_, rfl, _, rfl, o, _, -1, .ref tu, rfl, rfl, SqL.of ho2, atI_last us _, tu, _, 0, _, rfl, rfl, SqT.of htu2, rfl, _, rfl, rfl, _, rfl, ?_⟩
        rw [decide_eq_true (show V.int r.1 = V.int k.1 by rw [e1])]
        refine iteT ?_
        refine ⟨_, rfl, _, rfl, o, _, -1, .ref tu, rfl, rfl, SqL.of ho2, atI_last us _, tu, _, 2, _, rfl, rfl, SqT.of htu2, rfl, _, _, rfl, rfl, _, rfl, rfl, _, rfl, ?_⟩
        rw [decide_eq_true (show V.int (r.2.2 + 1) = V.int k.2 by rw [e2])]
        refine iteT ?_
        -- found[-1] = (house, found[-1][1], number)
        refine ⟨_, rfl, _, rfl, _, rfl, o, _, -1, .ref tu, rfl, rfl, SqL.of ho2, atI_last us _, tu, _, 1, _, rfl, rfl, SqT.of htu2, rfl, _, rfl, (by show 3 ≤ sizeLine; decide), fun t2 nt2 => ?_⟩
        have ot : o ≠ t2 := ne_of_none ho2 nt2
        refine ⟨_, rfl, _, rfl, o, us ++ [.ref tu], -1, us.length, rfl, rfl, by rw [upd_ne ot]; exact ho2, by rw [List.length_append, List.length_singleton]; exact ixN_last _, ?_⟩
        rw [set_last]
        have fo9 : upd F1 t2 (.tup [.int k.1, .int r.2.1, .int k.2]) o = none := by rw [upd_ne ot]; exact fo
        have sm : Same F1 (upd F1 t2 (.tup [.int k.1, .int r.2.1, .int k.2])) := same_upd (X2.ffree nt2)
        exact ⟨upd F1 t2 (.tup [.int k.1, .int r.2.1, .int k.2]), us ++ [.ref t2], init ++ [(k.1, r.2.1, k.2)], _, _, rfl, (X2.lay nt2).put (.inl no) fo9, fo9, upd_same, pr_snoc (pr_mono (fun _ _ z => kRow.mono sm z) hus) ⟨t2, rfl, upd_same⟩, ht.grow hlt e1 e2⟩
      · have hn : ∀ init r, out = init ++ [r] → ¬ (r.1 = k.1 ∧ r.2.2 + 1 = k.2) := fun init r e q => z ⟨init, r, e, q⟩
        have fin := ht.more hlt hn
        rcases List.eq_nil_or_concat out with c | ⟨init, r, c⟩
        · have ne : (!decide (out = [])) = false := by rw [decide_eq_true c]; rfl
          rw [ne]
          refine ⟨_, rfl, iteF (iteF ?_)⟩
          refine ⟨_, rfl, .inl ⟨rfl, _, SqL.of ho2⟩, _, rfl, _, rfl, _, rfl, (by show 3 ≤ sizeLine; decide), fun t2 nt2 => ?_⟩
          have ot : o ≠ t2 := ne_of_none ho2 nt2
          refine ⟨o, acc, _, rfl, rfl, by rw [upd_ne ot]; exact ho2, by rw [sizeLine_eq]; omega, ?_⟩
          have fo9 : upd F1 t2 (.tup [.int k.1, .int k.2, .int k.2]) o = none := by rw [upd_ne ot]; exact fo
          have sm : Same F1 (upd F1 t2 (.tup [.int k.1, .int k.2, .int k.2])) := same_upd (X2.ffree nt2)
          exact ⟨upd F1 t2 (.tup [.int k.1, .int k.2, .int k.2]), acc ++ [.ref t2], out ++ [(k.1, k.2, k.2)], _, _, rfl, (X2.lay nt2).put (.inl no) fo9, fo9, upd_same, pr_snoc (pr_mono (fun _ _ z => kRow.mono sm z) hac) ⟨t2, rfl, upd_same⟩, fin⟩
        · rw [List.concat_eq_append] at c
          subst c
          have hac' := hac
          obtain ⟨us, u, rfl, hus, tu, rfl, htu⟩ := pr_concat hac
          have htu2 := X2.fh _ _ htu
          have ne : (!decide (init ++ [r] = [])) = true := by rw [decide_eq_false (by simp)]; rfl
          rw [ne]
          refine ⟨_, rfl, iteT ?_⟩
          refine ⟨_, rfl, _, rfl, o, _, -1, .ref tu, rfl, rfl, SqL.of ho2, atI_last us _, tu, _, 0, _, rfl, rfl, SqT.of htu2, rfl, _, rfl, rfl, _, rfl, ?_⟩
          by_cases e1 : r.1 = k.1
          · have e2 : ¬ r.2.2 + 1 = k.2 := fun e2 => hn init r rfl ⟨e1, e2⟩
            rw [decide_eq_true (show V.int r.1 = V.int k.1 by rw [e1])]
            refine iteT ?_
            refine ⟨_, rfl, _, rfl, o, _, -1, .ref tu, rfl, rfl, SqL.of ho2, atI_last us _, tu, _, 2, _, rfl, rfl, SqT.of htu2, rfl, _, _, rfl, rfl, _, rfl, rfl, _, rfl, ?_⟩
            rw [decide_eq_false (show ¬ V.int (r.2.2 + 1) = V.int k.2 from fun z => e2 (V.int.inj z))]
            refine iteF ?_
            refine ⟨_, rfl, .inl ⟨rfl, _, SqL.of ho2⟩, _, rfl, _, rfl, _, rfl, (by show 3 ≤ sizeLine; decide), fun t2 nt2 => ?_⟩
            have ot : o ≠ t2 := ne_of_none ho2 nt2
            refine ⟨o, _, _, rfl, rfl, by rw [upd_ne ot]; exact ho2, by rw [sizeLine_eq]; omega, ?_⟩
            have fo9 : upd F1 t2 (.tup [.int k.1, .int k.2, .int k.2]) o = none := by rw [upd_ne ot]; exact fo
            have sm : Same F1 (upd F1 t2 (.tup [.int k.1, .int k.2, .int k.2])) := same_upd (X2.ffree nt2)
            exact ⟨upd F1 t2 (.tup [.int k.1, .int k.2, .int k.2]), _, _, _, _, rfl, (X2.lay nt2).put (.inl no) fo9, fo9, upd_same, pr_snoc (pr_mono (fun _ _ z => kRow.mono sm z) hac') ⟨t2, rfl, upd_same⟩, fin⟩
          · rw [decide_eq_false (show ¬ V.int r.1 = V.int k.1 from fun z => e1 (V.int.inj z))]
            refine iteF (iteF ?_)
            refine ⟨_, rfl, .inl ⟨rfl, _, SqL.of ho2⟩, _, rfl, _, rfl, _, rfl, (by show 3 ≤ sizeLine; decide), fun t2 nt2 => ?_⟩
            have ot : o ≠ t2 := ne_of_none ho2 nt2
            refine ⟨o, _, _, rfl, rfl, by rw [upd_ne ot]; exact ho2, by rw [sizeLine_eq]; omega, ?_⟩
            have fo9 : upd F1 t2 (.tup [.int k.1, .int k.2, .int k.2]) o = none := by rw [upd_ne ot]; exact fo
            have sm : Same F1 (upd F1 t2 (.tup [.int k.1, .int k.2, .int k.2])) := same_upd (X2.ffree nt2)
            exact ⟨upd F1 t2 (.tup [.int k.1, .int k.2, .int k.2]), _, _, _, _, rfl, (X2.lay nt2).put (.inl no) fo9, fo9, upd_same, pr_snoc (pr_mono (fun _ _ z => kRow.mono sm z) hac') ⟨t2, rfl, upd_same⟩, fin⟩
    · rintro σ H1 ⟨F1, acc, out, y2, y3, rfl, X1, fo, ho1, hac, ht⟩
      rw [pr_len hp, List.take_length] at ht
      exact ⟨_, rfl, q F1 H1 o acc out X1 no fo ho1 hac ht⟩
end
end Rw
namespace Rw
open PySem PySem.Spec PyProof.Rows L2
/-! ### sets of pairs, up to what a table of 128 places bears -/
/-- the hash of a pair, by itself -/
def pairHash (x y : Int) : Int := reduceHash (Builtin.Tuple.tupleHashOf [hashInt x, hashInt y])
theorem pairHash_is (P : Program) (w : World) (x y : Int) : thash P w [x, y] = pairHash x y := rfl
def field : List (Int × Int) := (List.range 3).flatMap fun x : Nat => (List.range 25).map fun y : Nat => ((x : Int), (y : Int) + 1)
def noTwin : List Int → Bool
  | [] => true
  | x :: xs => !(xs.any fun y => decide (x = y)) && noTwin xs
theorem field_apart : noTwin (field.map fun p => pairHash p.1 p.2) = true := by decide +kernel
theorem noTwin_nd : ∀ {xs : List Int}, noTwin xs = true → xs.Nodup
  | [], _ => .nil
  | x :: xs, h => by
    unfold noTwin at h
    rw [Bool.and_eq_true, Bool.not_eq_true'] at h
    refine List.nodup_cons.mpr ⟨fun m => ?_, noTwin_nd h.2⟩
    have := List.any_eq_false.mp h.1 x m
    simp at this
theorem field_mem {x y : Int} (h0 : 0 ≤ x) (h3 : x < 3) (h1 : 1 ≤ y) (h25 : y ≤ 25) : (x, y) ∈ field := by
  refine List.mem_flatMap.mpr ⟨x.toNat, List.mem_range.mpr (by omega), List.mem_map.mpr ⟨(y - 1).toNat, List.mem_range.mpr (by omega), ?_⟩⟩
  exact Prod.ext (by simp only; omega) (by simp only; omega)
/-- the pairs that are spoken of -/
def InField (k : List Int) : Prop := ∃ x y : Int, k = [x, y] ∧ 0 ≤ x ∧ x < 3 ∧ 1 ≤ y ∧ y ≤ 25
theorem nodup_inj {α β : Type} {f : α → β} : ∀ {l : List α}, (l.map f).Nodup → ∀ {a b : α}, a ∈ l → b ∈ l → f a = f b → a = b
  | [], _, _, _, h, _, _ => absurd h (by simp)
  | c :: l, nd, a, b, ha, hb, e => by
    rw [List.map_cons] at nd
    obtain ⟨n1, n2⟩ := List.nodup_cons.mp nd
    rcases List.mem_cons.mp ha with ea | ha2 <;> rcases List.mem_cons.mp hb with eb | hb2
    · rw [ea, eb]
    · exact absurd (List.mem_map.mpr ⟨b, hb2, by rw [← e, ea]⟩) n1
    · exact absurd (List.mem_map.mpr ⟨a, ha2, by rw [e, eb]⟩) n1
    · exact nodup_inj n2 ha2 hb2 e
theorem field_inj (P : Program) (w : World) {k k' : List Int} (h : InField k) (h' : InField k') (e : thash P w k = thash P w k') : k = k' := by
  obtain ⟨x, y, rfl, a1, a2, a3, a4⟩ := h
  obtain ⟨x', y', rfl, b1, b2, b3, b4⟩ := h'
  rw [pairHash_is, pairHash_is] at e
  have z := nodup_inj (noTwin_nd field_apart) (field_mem a1 a2 a3 a4) (field_mem b1 b2 b3 b4) e
  rw [(Prod.mk.inj z).1, (Prod.mk.inj z).2]
/-- a tracked set of pairs of the field -/
structure Big (P : Program) (w : World) (h : Heap) (a : Addr) (L : List (Addr × List Int)) (es : Array (Int × Value)) (ep : Nat) (t : SetTable) : Prop where
  obj : ∃ o, h.get? a = some o ∧ o.ExactSet ∧ o.data = .set es ep t
  ent : es.toList = rowsOf P w L
  lay : TabOk t (L.map fun p => thash P w p.2)
  apart : (L.map (·.2)).Nodup
  elt : ∀ p ∈ L, IsT P w h p.2 p.1
  pl : t.plain = true
  ld : w.params.followText "set-order" = true ∨ t.led = true
  free : L.length * 5 < t.mask * 3
  fld : ∀ p ∈ L, InField p.2
section
variable {P : Program} {w : World} {A : Around} {E : Value → Shared → Prop} {s : Shared} {a : Addr} {L : List (Addr × List Int)} {es : Array (Int × Value)} {ep : Nat} {t : SetTable}
theorem Big.small (B : Big P w s.heap a L es ep t) (h : L.length < 64) : SetTR P w s.heap a L es ep t := ⟨B.obj, B.ent, B.lay, B.apart, B.elt, B.pl, B.ld, B.free, h⟩
theorem Big.of {h : Heap} (R : SetTR P w h a L es ep t) (f : ∀ p ∈ L, InField p.2) : Big P w h a L es ep t := ⟨R.ob, R.rows, R.tab, R.nd, R.tup, R.plain, R.led, R.room, f⟩
theorem Big.most {h : Heap} (B : Big P w h a L es ep t) : t.mask ≤ 127 ∧ L.length ≤ 76 := by
  have r := B.free
  rcases B.lay.mok with e | e | e <;> omega
theorem Big.size {h : Heap} (B : Big P w h a L es ep t) : es.size = L.length := by
  rw [← Array.length_toList, B.ent, rowsOf, List.length_map]
theorem Big.fits {h : Heap} (B : Big P w h a L es ep t) : t.fits es.size = true := by
  have e1 : t.place.size = L.length := by rw [B.lay.sz, List.length_map]
  have e2 := B.size
  have r := B.free
  simp only [SetTable.fits, SetTable.fill, B.lay.dm, Bool.and_eq_true, beq_iff_eq, decide_eq_true_eq]
  have z : (#[] : Array Nat).size = 0 := rfl
  omega
theorem Big.at {h : Heap} (B : Big P w h a L es ep t) {i : Nat} {p : Addr × List Int} (e : L[i]? = some p) : es[i]? = some (thash P w p.2, .ref p.1) := by
  have z : es.toList[i]? = some (thash P w p.2, .ref p.1) := by rw [B.ent, rowsOf, List.getElem?_map, e]; rfl
  rw [← z, Array.getElem?_toList]
theorem Big.stays {h : Heap} (B : Big P w h a L es ep t) : ¬ t.gaveWay = true := by
  have o := mask_odd B.lay.mok
  simp [SetTable.gaveWay, o]
/-- the search: equal hashes are equal pairs, so one look is all -/
theorem Big.search (B : Big P w s.heap a L es ep t) {x : Addr} {k : List Int} (hx : IsT P w s.heap k x) (hk : InField k) (hu : A.units < cLine) {Q : SetFound → Shared → Prop}
    (yes : k ∈ L.map (·.2) → Q (.there none) s)
    (no : ∀ K, k ∉ L.map (·.2) → way t.mask (thash P w k) K ∉ t.place.toList → (∀ c, c < K → way t.mask (thash P w k) c ∈ t.place.toList) → Q (.free (way t.mask (thash P w k) K) false) s) :
    wpAny (model P w) A (setSearch a (.ref x) (thash P w k) true) Q E s := by
  obtain ⟨o, ho, _, hd⟩ := B.obj
  have r := B.free
  obtain ⟨K, k1, k2, k3⟩ := B.lay.first (h := thash P w k) (by rw [List.length_map]; omega)
  have len : t.place.toList.length = L.length := by rw [Array.length_toList, B.lay.sz, List.length_map]
  have key : ∀ {i : Nat} {p : Addr × List Int}, L[i]? = some p → (es[i]?.map (·.1)).getD 0 = thash P w p.2 := fun e => by rw [B.at e]; rfl
  have same : ∀ {i : Nat} {p : Addr × List Int}, L[i]? = some p → (es[i]?.map (·.1)).getD 0 = thash P w k → p.2 = k := fun e h =>
    field_inj P w (B.fld _ (List.mem_of_getElem? e)) hk ((key e).symm.trans h)
  have go := go_spec t B.lay.ris B.lay.dm (fun i => (es[i]?.map (·.1)).getD 0) (thash P w k) (10 * SetTable.turns t.mask) K (runAt t.mask (SetTable.bits (thash P w k) % (t.mask + 1)) (SetTable.bits (thash P w k))) rfl k1 k3 k2
  have met : t.probe (fun i => (es[i]?.map (·.1)).getD 0) (thash P w k) ((none : Option SetTable.Probe).getD (t.probeStart (thash P w k))) = SetTable.probe.go t (fun i => (es[i]?.map (·.1)).getD 0) (thash P w k) (10 * SetTable.turns t.mask) (runAt t.mask (SetTable.bits (thash P w k) % (t.mask + 1)) (SetTable.bits (thash P w k))) := rfl
  rw [setSearch, show (100000 : Nat) = 99999 + 1 from rfl, setSearchFrom_succ]
  refine wpAny_bind (wpAny_setState_of ho hd B.fits ?_)
  dsimp only
  refine wp_if_neg B.stays ?_
  try refine wpAny_bind (wpAny_pure ?_)
  rw [met]
  rcases go with ⟨q, i, _, q2, q3, _, q5⟩ | ⟨n1, n2⟩
  · have hi : i < L.length := by rw [← len]; exact (List.getElem?_eq_some_iff.mp q2).1
    obtain ⟨p, hp⟩ : ∃ p, L[i]? = some p := ⟨_, List.getElem?_eq_getElem hi⟩
    have e := same hp q3
    have hm := List.mem_of_getElem? hp
    rw [q5]
    dsimp only
    have found : wpAny (model P w) A (searchRest a (.ref x) (thash P w k) true 99999 es t (nth t.mask (runAt t.mask (SetTable.bits (thash P w k) % (t.mask + 1)) (SetTable.bits (thash P w k))) q).j i (nth t.mask (runAt t.mask (SetTable.bits (thash P w k) % (t.mask + 1)) (SetTable.bits (thash P w k))) (q + 1))) Q E s := by
      rw [searchRest, B.at hp]
      dsimp only
      refine wpAny_bind (wpAny_holding (wpAny_eqBool_tuple hu (B.elt p hm) hx (wpAny_bind (wpAny_setState_of ho hd B.fits ?_))))
      dsimp only
      exact wp_if_pos (by simp [e]) (wpAny_pure (yes (List.mem_map.mpr ⟨p, hm, e⟩)))
    cases hl : t.led with
    | true => exact wp_if_neg (by simp) found
    | false =>
      refine wp_if_pos (by simp) (wpAny_bind (seen_tup hx (fun y hy => ?_) (wp_if_neg (by decide) found)))
      obtain ⟨u, hu1, hu2⟩ := List.mem_map.mp hy
      have hu3 : u ∈ es.toList := by
        have := (Array.mem_filter.mp (Array.mem_toList_iff.mp hu1)).1
        exact Array.mem_toList_iff.mpr this
      rw [B.ent] at hu3
      obtain ⟨p2, hp2, e2⟩ := List.mem_map.mp hu3
      exact ⟨p2.2, p2.1, by rw [← hu2, ← e2], B.elt p2 hp2⟩
  · rw [n2]
    dsimp only
    refine wpAny_pure (no K (fun m => ?_) k2 k3)
    obtain ⟨p, hp, e⟩ := List.mem_map.mp m
    obtain ⟨i, hi, e0⟩ := List.getElem_of_mem hp
    have hp' : L[i]? = some p := by rw [List.getElem?_eq_getElem hi, e0]
    obtain ⟨j, hj⟩ : ∃ j, t.place.toList[i]? = some j := ⟨_, List.getElem?_eq_getElem (by rw [len]; exact hi)⟩
    obtain ⟨c, c1, c2⟩ := B.lay.before k2 (h := thash P w k) (i := i) (by rw [List.getElem?_map, hp', ← e]; rfl) hj
    exact n1 c i c1 (by rw [hj, ← c2]) (by rw [key hp', e])
end
end Rw
namespace Rw
open PySem PySem.Spec PyProof.Rows L2
theorem field_len : field.length = 75 := by decide +kernel
theorem len_of_nodup : ∀ (l D : List (Int × Int)), l.Nodup → (∀ x ∈ l, x ∈ D) → l.length ≤ D.length := fun l D n h => nodup_sub l D n h
/-- distinct pairs of the field are few -/
theorem infield_few {ks : List (List Int)} (nd : ks.Nodup) (h : ∀ k ∈ ks, InField k) : ks.length ≤ 75 := by
  have z : ((ks.map fun k => (k.getD 0 0, k.getD 1 0)) : List (Int × Int)).Nodup := by
    refine List.pairwise_map.mpr (List.Pairwise.imp_of_mem (fun {a b} ha hb ne e => ne ?_) nd)
    obtain ⟨x, y, rfl, _⟩ := h a ha
    obtain ⟨x', y', rfl, _⟩ := h b hb
    have e1 : x = x' := congrArg Prod.fst e
    have e2 : y = y' := congrArg Prod.snd e
    rw [e1, e2]
  have c := len_of_nodup _ field z fun p hp => by
    obtain ⟨k, hk, rfl⟩ := List.mem_map.mp hp
    obtain ⟨x, y, rfl, a1, a2, a3, a4⟩ := h k hk
    exact field_mem a1 a2 a3 a4
  rw [List.length_map, field_len] at c
  exact c
section
variable {P : Program} {w : World} {A : Around} {E : Value → Shared → Prop} {s : Shared} {a : Addr} {L : List (Addr × List Int)} {es : Array (Int × Value)} {ep : Nat} {t : SetTable}
/-- one pair more -/
theorem Big.add (B : Big P w s.heap a L es ep t) {x : Addr} {k : List Int} (hx : IsT P w s.heap k x) (hk : InField k) (hu : A.units < cLine) {Q : Bool → Shared → Prop}
    (then' : ∀ b h' L' es' ep' t', Heap.SameBut a s.heap h' → Big P w h' a L' es' ep' t' → (k ∈ L.map (·.2) → L' = L) → (k ∉ L.map (·.2) → L'.Perm ((x, k) :: L)) → Q b { s with heap := h' }) :
    wpAny (model P w) A (setAddHashed a (.ref x) (thash P w k)) Q E s := by
  by_cases few : L.length + 1 < 64
  · refine add_at (B.small (by omega)) hx hu few fun b h' L' es' ep' t' sb R c1 c2 => then' b h' L' es' ep' t' sb (Big.of R fun p hp => ?_) c1 c2
    by_cases m : k ∈ L.map (·.2)
    · rw [c1 m] at hp; exact B.fld p hp
    · rcases List.mem_cons.mp ((c2 m).mem_iff.mp hp) with e | hp
      · rw [e]; exact hk
      · exact B.fld p hp
  · have r := B.free
    have m127 : t.mask = 127 := by rcases B.lay.mok with e | e | e <;> omega
    obtain ⟨o, ho, hex, hd⟩ := B.obj
    rw [setAddHashed]
    refine wpAny_holding ?_
    rw [show (100000 : Nat) = 99999 + 1 from rfl, setAddHashedIn_succ]
    refine wpAny_bind (wpAny_setState_of ho hd B.fits ?_)
    dsimp only
    refine wp_if_neg (by simp [byScan, Value.scannable]) (wpAny_bind (B.search hx hk hu (fun m => ?_) fun K m k2 k3 => ?_))
    · exact wpAny_pure (then' false s.heap L es ep t (Heap.SameBut.refl a s.heap) B (fun _ => rfl) fun z => absurd m z)
    · dsimp only
      refine wpAny_bind (wpAny_setState_of ho hd B.fits ?_)
      dsimp only
      obtain ⟨p1, p2, p3, p4, p5, p6, _, _, p9⟩ := B.lay.put k2 k3
      have pl1 : (t.put (way t.mask (thash P w k) K)).1.plain = true := p6.trans B.pl
      have ld1 : w.params.followText "set-order" = true ∨ (t.put (way t.mask (thash P w k) K)).1.led = true := by rw [p5]; exact B.ld
      have bound : L.length + 1 ≤ 75 := by
        have nd : (k :: L.map (·.2)).Nodup := List.nodup_cons.mpr ⟨m, B.apart⟩
        have := infield_few nd fun q hq => by
          rcases List.mem_cons.mp hq with e | hq
          · rw [e]; exact hk
          · obtain ⟨p, hp, rfl⟩ := List.mem_map.mp hq
            exact B.fld p hp
        rw [List.length_cons, List.length_map] at this
        exact this
      have full : ¬ (t.put (way t.mask (thash P w k) K)).1.tooFull = true := fun z => by
        have e : (t.put (way t.mask (thash P w k) K)).1.fill * 5 ≥ (t.put (way t.mask (thash P w k) K)).1.mask * 3 := by simpa [SetTable.tooFull] using z
        rw [p9, p4, List.length_map] at e
        omega
      cases hput : t.put (way t.mask (thash P w k) K) with
      | mk t1 pos =>
        rw [hput] at p1 p3 p4 pl1 ld1 full
        dsimp only at p1 p3 p4 pl1 ld1 full ⊢
        rw [← p1] at p2 p3
        -- the rows with the new one at its place
        have perm : (L.take pos ++ (x, k) :: L.drop pos).Perm ((x, k) :: L) := put_perm L pos (x, k)
        have num : (L.take pos ++ (x, k) :: L.drop pos).length = L.length + 1 := by rw [perm.length_eq, List.length_cons]
        have ent1 : (SetTable.insertAt es pos (thash P w k, Value.ref x)).toList = rowsOf P w (L.take pos ++ (x, k) :: L.drop pos) := by
          rw [rows_put, ← B.ent]; exact SetTable.toList_insertAt ..
        have lay1 : TabOk t1 ((L.take pos ++ (x, k) :: L.drop pos).map fun p => thash P w p.2) := by
          rw [List.map_append, List.map_cons, List.map_take, List.map_drop]; exact p3
        have apart1 : ((L.take pos ++ (x, k) :: L.drop pos).map (·.2)).Nodup := (perm.map (·.2)).nodup_iff.mpr (List.nodup_cons.mpr ⟨m, B.apart⟩)
        have size1 : (SetTable.insertAt es pos (thash P w k, Value.ref x)).size = L.length + 1 := by
          rw [← Array.length_toList, ent1, rowsOf, List.length_map, num]
        revert perm num ent1 lay1 apart1 size1
        generalize L.take pos ++ (x, k) :: L.drop pos = L1
        generalize SetTable.insertAt es pos (thash P w k, Value.ref x) = es1
        intro perm num ent1 lay1 apart1 size1
        have sb : Heap.SameBut a s.heap (s.heap.update a (Obj.putSet es1 t1)) := Heap.SameBut.update ..
        have last : Q true { s with heap := s.heap.update a (Obj.putSet es1 t1) } := by
          refine then' true _ L1 es1 (ep + 1) t1 sb ⟨⟨_, store_at (es' := es1) (t' := t1) ho hd, hex, rfl⟩, ent1, lay1, apart1, fun p hp => ?_, pl1, ld1, by rw [num, p4]; omega, fun p hp => ?_⟩ (fun z => absurd z m) fun _ => perm
          · rcases List.mem_cons.mp (perm.mem_iff.mp hp) with e | hp
            · rw [e]; exact isT_same hx ho hd sb
            · exact isT_same (B.elt p hp) ho hd sb
          · rcases List.mem_cons.mp (perm.mem_iff.mp hp) with e | hp
            · rw [e]; exact hk
            · exact B.fld p hp
        refine wp_if_pos pl1 (wpAny_bind (hashBy_tup hx ?_))
        simp only [if_true, full]
        refine wpAny_bind (wpAny_storeSet_of ho hd ?_ (by rw [size1, sizeLine_eq]; omega))
        exact wp_if_neg (by simp) (wpAny_pure last)
end
end Rw
namespace Rw
open PySem PySem.Spec PyProof.Rows L2
section
variable {P : Program} {w : World} {A : Around} {E : Value → Shared → Prop} {s : Shared}
theorem Big.held {h h' : Heap} {a : Addr} {L : List (Addr × List Int)} {es : Array (Int × Value)} {ep : Nat} {t : SetTable} (B : Big P w h a L es ep t) (ha : ∀ o, h.get? a = some o → h'.get? a = some o) (ht : ∀ p ∈ L, IsT P w h' p.2 p.1) : Big P w h' a L es ep t := by
  obtain ⟨o, e, z⟩ := B.obj
  exact ⟨⟨o, ha o e, z⟩, B.ent, B.lay, B.apart, ht, B.pl, B.ld, B.free, B.fld⟩
theorem Big.fresh {h : Heap} {a : Addr} (e : h.get? a = some { cls := .type "set", dict := none, data := .set #[] 0 (.fresh 0 0 (!w.params.followText "set-order")) }) : Big P w h a [] #[] 0 (.fresh 0 0 (!w.params.followText "set-order")) :=
  Big.of (setTR_fresh e) fun p hp => absurd hp (by simp)
/-- all items of a walk go into the set -/
theorem Big.loop {I : Addr} {fp wr : List Addr} {G : Array GenState → Array GenState → Prop} {n : Nat} {Pv : Nat → Value → Prop} {St : Nat → Shared → Prop} {R : Result → Shared → Prop} (W : WalksS P w A.in1 I fp wr G n Pv St) {S : Addr} (out : S ∉ fp)
    {ks : List (Addr × List Int)} (hn : n = ks.length) (val : ∀ i v, Pv i v → ∃ p, ks[i]? = some p ∧ v = .ref p.1) {h0 : Heap} (tup : ∀ p ∈ ks, IsT P w h0 p.2 p.1) (fld : ∀ p ∈ ks, InField p.2) (S0 : h0.get? S = none) (w0 : ∀ b ∈ wr, h0.get? b = none) (hu : A.in1.units < cLine) :
    ∀ (left i : Nat) (s : Shared), i + left = n → St i s → (∀ b o, h0.get? b = some o → s.heap.get? b = some o) → ∀ (L : List (Addr × List Int)) (es : Array (Int × Value)) (ep : Nat) (t : SetTable), Big P w s.heap S L es ep t → Got ks i L →
      (∀ s' L es ep t, Moved (S :: wr) G s s' → Big P w s'.heap S L es ep t → Got ks n L → (∀ b o, h0.get? b = some o → s'.heap.get? b = some o) → R (.ok (.ret .none)) s') →
      codeAny (model P w) A (.builtin "set.update.loop" ⟨[.ref S, .ref I], []⟩) R s := by
  have off : S ∉ wr := fun z => out (W.sub _ z)
  have wide : ∀ b ∈ wr, b ∈ S :: wr := fun b z => List.mem_cons_of_mem _ z
  have keeps : ∀ {s s' : Shared}, Moved wr G s s' → (∀ b o, h0.get? b = some o → s.heap.get? b = some o) → ∀ b o, h0.get? b = some o → s'.heap.get? b = some o := fun mv old b o e =>
    mv.heap b o (fun z => by rw [w0 b z] at e; cases e) (old b o e)
  intro left
  induction left with
  | zero =>
    intro i s hi st old L es ep t B g fin
    have e : i = n := by omega
    refine codeAny_builtin F.entry_set_update_loop ?_
    rw [Around.under_plainId F.plain_set_update_loop]
    show wpAny (model P w) A.in1 (pyNext (.ref I) >>= _) _ _ s
    refine wpAny_bind (W.done s _ _ (e ▸ st) fun s' mv => wpAny_pure (fin s' L es ep t (mv.mono wide) (B.held (fun o z => mv.heap S o off z) fun p hp => isT_keep (tup p ?_) (keeps mv old)) (e ▸ g) (keeps mv old)))
    exact List.mem_of_mem_take (g.sub p hp)
  | succ left ih =>
    intro i s hi st old L es ep t B g fin
    refine codeAny_builtin F.entry_set_update_loop ?_
    rw [Around.under_plainId F.plain_set_update_loop]
    show wpAny (model P w) A.in1 (pyNext (.ref I) >>= _) _ _ s
    refine wpAny_bind (W.item i s _ _ (by omega) st fun v s' pv st' mv => ?_)
    obtain ⟨p, hp, rfl⟩ := val i v pv
    have pm := List.mem_of_getElem? hp
    have old' := keeps mv old
    have B' : Big P w s'.heap S L es ep t := B.held (fun o z => mv.heap S o off z) fun q hq => isT_keep (tup q (List.mem_of_mem_take (g.sub q hq))) old'
    have hx : IsT P w s'.heap p.2 p.1 := isT_keep (tup p pm) old'
    show wpAny (model P w) A.in1 (holding [Value.ref p.1] (setAdd S (.ref p.1)) >>= _) _ _ s'
    rw [setAdd]
    refine wpAny_bind (wpAny_holding (wpAny_holding (wpAny_bind (wpAny_pyHash_tuple hu hx ?_))))
    refine Big.add (s := { s' with toks := s'.toks + (p.2.length + 1) }) B' hx (fld p pm) hu fun b h' L' es' ep' t' sb B2 c1 c2 => wpAny_pure ⟨plainId_quiet F.plain_set_update_loop _, ?_⟩
    have g' : Got ks (i + 1) L' := by
      by_cases c : p.2 ∈ L.map (·.2)
      · rw [c1 c]; exact g.same hp c
      · exact g.more hp (c2 c)
    have apartS : ∀ b, b ≠ S → h'.get? b = s'.heap.get? b := fun b z => sb.2 b z
    refine ih (i + 1) _ (by omega) (W.frame _ s' _ _ st' (Nat.le_add_right _ _) fun b hb o e => (apartS b fun z => out (z ▸ hb)).trans e) (fun b o e => (apartS b fun z => by rw [z, S0] at e; cases e).trans (old' b o e)) L' es' ep' t' B2 g' fun s2 L2 es2 ep2 t2 mv2 B3 g3 old3 => ?_
    refine fin s2 L2 es2 ep2 t2 (Moved.trans W.gtrans ((mv.mono wide).then_heap (Nat.le_add_right _ _) fun b o hb e => (apartS b fun z => hb (z ▸ List.mem_cons_self)).trans e) mv2) B3 g3 old3
end
end Rw
namespace Rw
open PySem PySem.Spec PyProof.Rows L2
section
variable {P : Program} {w : World} {A : Around} {E : Value → Shared → Prop} {s : Shared}
/-- the object of a set that was just made -/
abbrev setObj (w : World) : Obj := { cls := .type "set", dict := none, data := .set #[] 0 (.fresh 0 0 (!w.params.followText "set-order")) }
set_option maxHeartbeats 3200000 in
/-- set(xs), xs a list of pairs of the field -/
theorem call_setBig {l : Addr} {items : Array Value} {ks : List (Addr × List Int)} {Q : Value → Shared → Prop} (calm : A.handled = none) (isl : s.heap.IsList l items) (eq : items.toList = ks.map fun p => Value.ref p.1)
    (tup : ∀ p ∈ ks, IsT P w s.heap p.2 p.1) (fld : ∀ p ∈ ks, InField p.2) (hu : A.units + 3 < cLine)
    (fin : ∀ (h' : Heap) (tk : Nat) L es ep t, Big P w h' s.heap.objs.size L es ep t → Got ks ks.length L → (∀ b o, s.heap.get? b = some o → h'.get? b = some o) → Q (.ref s.heap.objs.size) { s with heap := h', toks := tk }) :
    wpAny (model P w) A (call (.type "set") [.ref l]) Q E s := by
  have num : items.size = ks.length := by rw [← Array.length_toList, eq, List.length_map]
  obtain ⟨c0, tl0, hmro⟩ := F.called_set.mro
  have hmade := F.called_set.made
  have hsub := F.called_set.sub
  have hnt := F.called_set.notType
  have hcc := F.called_set.canCreate
  have htc := F.typeCall_set_1 (.ref l)
  refine wpAny_call (codeAny_of_tree (?_ : wpAny _ _ (callAny (.type "set") _) _ _ _))
  refine wpAny_pure ⟨Code.quiet_builtin _ (by decide +kernel), codeAny_builtin F.entry_type_call (?_)⟩
  rw [Around.under_plain (weight_type_call_type "set" [.ref l] []) rfl]
  repeat (any_goals (first | assumption | wp_step))
  refine codeAny_mono (code_set_led1 (.ref l) (E := E) (Q₁ := fun u s1 => u = .ref s.heap.objs.size ∧ s1 = { s with heap := s.heap.push (setObj w) }) ⟨rfl, rfl⟩) fun r s1 hr => ?_
  rcases r with e | fl
  · exact hr
  cases fl with
  | next => exact hr.elim
  | brk => exact hr.elim
  | cont => exact hr.elim
  | ret u =>
    obtain ⟨rfl, rfl⟩ := hr
    have new : (s.heap.push (setObj w)).get? s.heap.objs.size = some (setObj w) := Heap.get?_push_size _ rfl
    have isS : Shared.TypeIs { s with heap := s.heap.push (setObj w) } (.ref s.heap.objs.size) "set" := ⟨_, new, rfl⟩
    have hli := F.called_set.init.lookup
    have hbi := F.called_set.init.bind (.ref s.heap.objs.size)
    repeat (any_goals (first | assumption | wp_step))
    refine codeAny_mono (codeAny_call_builtin (R := wants (fun u s2 => u = .none ∧ ∃ h' tk L es ep t, s2 = { s with heap := h', toks := tk } ∧ Big P w h' s.heap.objs.size L es ep t ∧ Got ks ks.length L ∧ (∀ b o, s.heap.get? b = some o → h'.get? b = some o)) E)
      F.called_set.init.plain F.entry_set_init (check_set_init_1 isS ?_)) fun r2 s2 hr2 => ?_
    · -- set.__init__ goes through the list
      obtain ⟨lo, hlo, lc, n, ld⟩ := isl
      obtain ⟨lcls, ldict, ldata, lslots⟩ := lo
      simp only at lc ld
      subst lc ld
      have hls := F.sub_list_set
      have hlf := F.sub_list_frozenset
      have hne : (Value.type "list" == Value.type "dict") = false := by decide
      have hol : (s.heap.push (setObj w)).get? l = some { cls := .type "list", dict := ldict, data := .seq items n, slots := lslots } := Heap.get?_push_of_some _ hlo
      have isl1 : (s.heap.push (setObj w)).IsList l items := ⟨_, hol, rfl, n, rfl⟩
      unfold Builtin.«set.__init__» noKeywords Builtin.Frozenset.updateFrom
      generalize hIt : pyIter = It
      wp_walk
      subst hIt
      refine wpAny_pyIter_list isl1 (wpAny_bind (wpAny_runValue ?_))
      have small : l < s.heap.objs.size := Heap.lt_size hlo
      have calm3 : A.in1.in1.in1.handled = none := by simp [calm]
      have sz : (s.heap.push (setObj w)).objs.size = s.heap.objs.size + 1 := Heap.size_push ..
      have none_at : ∀ b, s.heap.objs.size ≤ b → s.heap.get? b = none := fun b hb => by
        cases q : s.heap.get? b with
        | none => rfl
        | some o => exact absurd (Nat.lt_of_lt_of_le (Heap.lt_size q) hb) (Nat.lt_irrefl _)
      refine Big.loop (ks := ks) (h0 := s.heap) ((Walks.list calm3 _ l (by rw [sz]; exact Nat.ne_of_lt (Nat.lt_succ_of_lt small)) items).toS) (S := s.heap.objs.size) (fun z => by rw [sz] at z; rcases List.mem_cons.mp z with z | z; exact Nat.ne_of_lt (Nat.lt_succ_self _) z; exact Nat.ne_of_gt small (List.mem_singleton.mp z)) num (fun i v hv => ?_) tup fld (none_at _ (Nat.le_refl _)) (fun b hb => none_at b (by rw [List.mem_singleton.mp hb, sz]; exact Nat.le_succ _)) hu items.size 0 _ (Nat.zero_add _)
        ⟨⟨_, Heap.get?_push_size _ rfl, rfl, rfl⟩, isl1.push _⟩ (fun b o e => Heap.get?_push_of_some _ (Heap.get?_push_of_some _ e)) [] #[] 0 _ (Big.fresh (Heap.get?_push_of_some _ new)) (Got.zero ks) fun s' L es ep t mv B g old => ?_
      · have q : items.toList[i]? = some v := by rw [Array.getElem?_toList]; exact hv
        rw [eq, List.getElem?_map] at q
        cases hq : ks[i]? with
        | none => rw [hq] at q; cases q
        | some p => rw [hq] at q; exact ⟨p, rfl, (Option.some.inj q).symm⟩
      · obtain ⟨h', g2, d', tk', os'⟩ := s'
        have eg : g2 = s.gens := mv.gens
        have ed : d' = s.drawn := mv.drawn
        have eo : os' = s.os := mv.os
        subst eg ed eo
        rw [num] at g
        show wpAny _ _ _ _ _ _
        refine wpAny_pure (?_ : wpAny _ _ (ret Value.none) _ _ _)
        exact wpAny_pure ⟨rfl, h', tk', L, es, ep, t, rfl, B, g, old⟩
    · rcases r2 with e | fl2
      · exact hr2
      cases fl2 with
      | next => exact hr2.elim
      | brk => exact hr2.elim
      | cont => exact hr2.elim
      | ret u =>
        obtain ⟨rfl, h', tk, L, es, ep, t, rfl, B, g, old⟩ := hr2
        repeat (any_goals (first | assumption | wp_step))
        exact fin _ _ _ _ _ _ B g old
end
end Rw
namespace Rw
open PySem PySem.Spec PyProof.Rows L2
section
variable {P : Program} {w : World} {A : Around} {E : Value → Shared → Prop} {s : Shared}
/-- sorted(set) -/
theorem sorted_big {a : Addr} {L : List (Addr × List Int)} {es : Array (Int × Value)} {ep : Nat} {t : SetTable} {k : Value → Int × Int} {Q : Value → Shared → Prop} (B : Big P w s.heap a L es ep t) (calm : A.handled = none)
    (pairs : ∀ p ∈ L, Srt.IsPair s.heap (.ref p.1) (k (.ref p.1)).1 (k (.ref p.1)).2)
    (fin : ∀ (s' : Shared) (h1 : Heap) (e : Addr) (vs out : List Value), SrtO.Srtd (fun v u => SrtO.lexB (k v) (k u)) out → SrtO.Stb (fun v u => SrtO.lexB (k v) (k u)) out vs → vs.Perm (L.map fun p => Value.ref p.1) → s'.gens = s.gens → s'.os = s.os →
      (∀ b o, s.heap.get? b = some o → s'.heap.get? b = some o) → s.heap.objs.size ≤ e → (∃ n, s'.heap.get? e = some (seqObj "list" out.toArray n)) → Q (.ref e) s') :
    wpAny (model P w) A (call (.builtin "sorted") [.ref a]) Q E s := by
  obtain ⟨o, ho, hex, hd⟩ := B.obj
  have few := B.most.2
  have size := B.size
  refine Calls.call_function_entry kind_sorted plain_sorted entry_sorted (args_sorted1 _) (?_ : wpAny _ _ (Builtin.«sorted» _) _ _ _)
  unfold Builtin.«sorted»
  refine wpAny_bind (m := checkCount "sorted" 1 1 _) (wpAny_pure (wpAny_bind (collect_set (A := A.in1) calm ⟨o, ho, hex.1, hd⟩ B.fits (by rw [size]; unfold scanBound; omega) B.lay.ris B.ld fun s1 vs k1 le g1 o1 pm => ?_)))
  have ev : es.toList.map (·.2) = L.map fun p => Value.ref p.1 := by rw [B.ent, rowsOf, List.map_map]; rfl
  rw [ev] at pm
  have num : vs.length ≤ 76 := by rw [pm.length_eq, List.length_map]; exact few
  have fit : vs.length ≤ sizeLine := by rw [sizeLine_eq]; omega
  refine wpAny_bind (wpAny_newList (?_ : wpAny _ _ _ _ _ { s1 with heap := s1.heap.push (seqObj "list" vs.toArray 0) }) fit)
  have lst : (s1.heap.push (seqObj "list" vs.toArray 0)).get? s1.heap.objs.size = some (seqObj "list" vs.toArray 0) := Heap.get?_push_size _ rfl
  have old : ∀ b o, s.heap.get? b = some o → (s1.heap.push (seqObj "list" vs.toArray 0)).get? b = some o := fun b o q => Heap.get?_push_of_some _ (k1 b o q)
  refine wpAny_bind (wpAny_holding (wpAny_call_entry slot_list_sort ⟨_, lst, rfl⟩ entry_list_sort
    (SrtO.list_sort_ord (s := { s1 with heap := s1.heap.push (seqObj "list" vs.toArray 0) }) (SrtO.swo_lex k) lst fit (fun h2 => ?_) fun out a1 a2 => ⟨_, rfl, ?_⟩) (args_list_sort _)))
  · refine SrtO.pairs_sortableO (s := { s1 with heap := s1.heap.push (seqObj "list" vs.toArray 0) }) (by omega) (fun v hm => ?_) fun o e' => ?_
    · obtain ⟨p, hp, rfl⟩ := List.mem_map.mp (pm.mem_iff.mp hm)
      exact (pairs p hp).keeps fun b o e _ => old b o e
    · cases e'.symm.trans lst
      exact fun c => absurd (Value.type.inj c) (by decide)
  · have at' := sortedHeap_at (vs := vs) (out := out.toArray) lst
    refine wpAny_pure ⟨_, rfl, fin { s1 with heap := sortedHeap (s1.heap.push (seqObj "list" vs.toArray 0)) s1.heap.objs.size vs out.toArray } s1.heap s1.heap.objs.size vs out a1 a2 pm g1 o1 (fun b o q => ?_) le at'⟩
    have lt := Heap.lt_size (k1 b o q)
    rw [sortedHeap_old (Nat.ne_of_lt lt) (by rw [size_push']; exact Nat.lt_succ_of_lt lt)]
    exact old b o q
end
/-- the set at a without its tuples -/
structure Bare (P : Program) (w : World) (h : Heap) (a : Addr) (L : List (Addr × List Int)) : Prop where
  ex : ∃ (es : Array (Int × Value)) (ep : Nat) (t : SetTable) (h0 : Heap), Big P w h0 a L es ep t ∧ ∃ o, h.get? a = some o ∧ o.ExactSet ∧ o.data = .set es ep t
theorem Bare.of {P : Program} {w : World} {h : Heap} {a : Addr} {L : List (Addr × List Int)} {es : Array (Int × Value)} {ep : Nat} {t : SetTable} (B : Big P w h a L es ep t) : Bare P w h a L := ⟨es, ep, t, h, B, B.obj⟩
theorem Bare.full {P : Program} {w : World} {h : Heap} {a : Addr} {L : List (Addr × List Int)} (R : Bare P w h a L) (tup : ∀ p ∈ L, IsT P w h p.2 p.1) : ∃ es ep t, Big P w h a L es ep t := by
  obtain ⟨es, ep, t, h0, B, o⟩ := R.ex
  exact ⟨es, ep, t, o, B.ent, B.lay, B.apart, tup, B.pl, B.ld, B.free, B.fld⟩
def BigO (P : Program) (w : World) (a : Addr) (L : List (Addr × List Int)) : HO := .ext fun h => Bare P w h a L
theorem bigO_new {P : Program} {w : World} {H : Hp} {h : Heap} {a : Addr} {L : List (Addr × List Int)} (R : Bare P w h a L) : ObjOk P w H h a (BigO P w a L) := by
  obtain ⟨es, ep, t, h0, B, o, ho, r⟩ := id R.ex
  refine ⟨R, ⟨o, ho⟩, fun h1 h2 p k => ?_⟩
  obtain ⟨es', ep', t', h0', B', o', ho', r'⟩ := Bare.ex p
  exact ⟨es', ep', t', h0', B', o', k o' ho', r'⟩
section
variable {X : Cx}
def rSetBig (K : PySem.W.Frag) (P : Program) (w : World) : List V → Hp → VK → Prop := fun xs H Q => ∃ (l : Addr) (ks : List (Addr × List Int)), xs = [V.ref l] ∧ SqL K H l (ks.map fun p => V.ref p.1) ∧ (∀ p ∈ ks, SqT K H p.1 (p.2.map V.int)) ∧ (∀ p ∈ ks, InField p.2) ∧
  ∀ a L, H a = none → (∀ p ∈ L, p ∈ ks) → (∀ p ∈ ks, p.2 ∈ L.map (·.2)) → Q (.ref a) (upd H a (BigO P w a L))
theorem cr_setBig (hc : X.calm = true) (hu : X.A.units + 64 < cLine) : CallR X (.type "set") (rSetBig X.K X.prog X.w) := by
  intro pins s σ H xs us Q I r h
  obtain ⟨l, ks, rfl, hl, tup, fld, q⟩ := h
  rw [Vals.ref1 r]
  obtain ⟨its, rv, pl, _⟩ := I.list hl
  have new : H s.heap.objs.size = none := I.hok.fresh (Nat.le_refl _)
  refine call_setBig (P := X.prog) (w := X.w) (ks := ks) (I.ok.hd hc) pl.isList (by simpa using refs_of_vals rv) (fun p hp => I.isT (tup p hp)) fld (by omega) fun h' tk L es ep t B g old => ?_
  exact ⟨.ref s.heap.objs.size, _, I.laid (t' := tk) old (Nat.le_refl _) (bigO_new (Bare.of B)), rfl, q _ L new (fun p hp => List.mem_of_mem_take (g.sub p hp)) fun p hp => g.all p (by rw [List.take_length]; exact hp)⟩
def rSortBig (P : Program) (w : World) : List V → Hp → VK → Prop := fun vs H Q => ∃ (a : Addr) (L : List (Addr × List Int)), vs = [V.ref a] ∧ H a = some (BigO P w a L) ∧ (∀ p ∈ L, ∃ q : Pt, p.2 = [q.1, q.2] ∧ kPt.is H (.ref p.1) q) ∧
  ∀ (ys : List V) (qs : List Pt) (p : Addr), Paired (kPt.is H) ys qs → qs.Pairwise lt2 → (∀ q : Pt, q ∈ qs ↔ [q.1, q.2] ∈ L.map (·.2)) → (∀ y ∈ ys, ∃ p ∈ L, y = V.ref p.1) → H p = none → Q (.ref p) (upd H p (.lst ys))
theorem cr_sortBig (hc : X.calm = true) : CallR X (.builtin "sorted") (rSortBig X.prog X.w) := by
  intro pins s σ H xs us Q I r h
  obtain ⟨a, L, rfl, ha, pts, q⟩ := h
  rw [Vals.ref1 r]
  have isq : ∀ p ∈ L, SqT X.K H p.1 (p.2.map V.int) := fun p hp => by
    obtain ⟨z, e, t, e', ht⟩ := pts p hp
    cases e'
    rw [e]
    exact SqT.of ht
  have R : Bare X.prog X.w s.heap a L := (I.hok a _ ha).1
  obtain ⟨es, ep, t, B⟩ := R.full fun p hp => I.isT (isq p hp)
  have back : ∀ p ∈ L, kPt.is H (.ref p.1) (ptOf H (backV (.ref p.1))) := fun p hp => by
    obtain ⟨z, _, hz⟩ := pts p hp
    have e : ptOf H (backV (Value.ref p.1)) = z := ptOf_eq hz
    rw [e]; exact hz
  refine sorted_big (k := fun u => ptOf H (backV u)) B (I.ok.hd hc) (fun p hp => isPair_of I (back p hp)) fun s' h1 e vs out a1 a2 pm g o old le at' => ?_
  have new : H e = none := I.hok.fresh le
  have refs : ∀ u ∈ out, ∃ p ∈ L, u = Value.ref p.1 := fun u hu => by
    obtain ⟨p, hp, e⟩ := List.mem_map.mp (pm.mem_iff.mp (a2.perm.mem_iff.mp hu))
    exact ⟨p, hp, e.symm⟩
  have perm : (out.map backV).Perm (L.map fun p => V.ref p.1) := by
    have z := (a2.perm.trans pm).map backV
    rw [List.map_map] at z
    exact z
  have hpp : Paired (kPt.is H) (L.map fun p => V.ref p.1) (L.map fun p => ptOf H (backV (.ref p.1))) := by
    have z : ∀ M : List (Addr × List Int), (∀ p ∈ M, p ∈ L) → Paired (kPt.is H) (M.map fun p => V.ref p.1) (M.map fun p => ptOf H (backV (.ref p.1))) := by
      intro M
      induction M with
      | nil => exact fun _ => .nil
      | cons p M ih => exact fun h => .cons (back p (h p List.mem_cons_self)) (ih fun q hq => h q (List.mem_cons_of_mem _ hq))
    exact z L fun _ h => h
  have key : ∀ p ∈ L, p.2 = [(ptOf H (backV (.ref p.1))).1, (ptOf H (backV (.ref p.1))).2] := fun p hp => by
    obtain ⟨z, e, hz⟩ := pts p hp
    rw [e, show ptOf H (backV (Value.ref p.1)) = z from ptOf_eq hz]
  have nd : (L.map fun p => ptOf H (backV (.ref p.1))).Nodup := by
    refine List.pairwise_map.mpr (List.Pairwise.imp_of_mem (fun {p q} hp hq ne e => ne ?_) (List.pairwise_map.mp B.apart))
    rw [key p hp, key q hq, e]
  have st : SrtO.Stb (ltP (ptOf H)) (out.map backV) (vs.map backV) := SrtO.Stb.map (ltP_swo (ptOf H)) backV a2
  have hpp2 : Paired (kPt.is H) (vs.map backV) ((vs.map backV).map (ptOf H)) := pr_of_all fun v hv => by
    obtain ⟨u, hu, rfl⟩ := List.mem_map.mp hv
    obtain ⟨p, hp, e⟩ := List.mem_map.mp (pm.mem_iff.mp hu)
    rw [← e]
    exact back p hp
  have pmv : ((vs.map backV).map (ptOf H)).Perm (L.map fun p => ptOf H (backV (.ref p.1))) := by
    have z := (pm.map backV).map (ptOf H)
    rw [List.map_map, List.map_map, List.map_map] at z
    rw [List.map_map]
    exact z
  obtain ⟨qs, b1, b2, b3⟩ := sorted_pts hpp2 (pmv.nodup_iff.mpr nd) (SrtO.srtd_map a1) st
  have memq : ∀ z : Pt, z ∈ qs ↔ [z.1, z.2] ∈ L.map (·.2) := fun z => by
    rw [b2.mem_iff, pmv.mem_iff]
    constructor
    · intro h
      obtain ⟨p, hp, e⟩ := List.mem_map.mp h
      exact List.mem_map.mpr ⟨p, hp, by rw [key p hp, e]⟩
    · intro h
      obtain ⟨p, hp, e⟩ := List.mem_map.mp h
      rw [key p hp] at e
      injection e with e1 e2
      injection e2 with e2 _
      exact List.mem_map.mpr ⟨p, hp, Prod.ext e1 e2⟩
  obtain ⟨n, hob⟩ := at'
  have len : (out.map backV).length ≤ sizeLine := by
    rw [perm.length_eq, List.length_map, sizeLine_eq]
    have := B.most.2
    omega
  have hv : Vals (out.map backV) out := vals_back fun u hu => by
    obtain ⟨p, _, e⟩ := refs u hu
    exact ⟨p.1, e⟩
  have es' : s' = { s with heap := s'.heap, gens := s'.gens, drawn := s'.drawn, toks := s'.toks } := by
    cases s'; cases s; cases o; rfl
  rw [es']
  have J : Inv X pins σ (upd H e (.lst (out.map backV))) { s with heap := s'.heap, gens := s'.gens, drawn := s'.drawn, toks := s'.toks } :=
    I.call (ch := []) (Un.laid old le new) (I.hok.laid old le ⟨len, out, n, hv, hob⟩) (by rw [g]; exact I.bare) fun _ z => nomatch z
  refine ⟨.ref e, _, J, rfl, q (out.map backV) qs e b1 b3 memq (fun y hy => ?_) new⟩
  obtain ⟨u, hu, rfl⟩ := List.mem_map.mp hy
  obtain ⟨p, hp, e⟩ := refs u hu
  exact ⟨p, hp, by rw [e]; rfl⟩
end
end Rw
namespace Rw
open PySem L2
/-! ### lists of lists of rows, and pairs, as data -/
theorem eqvAll_LL : ∀ xs ys : List (List Row), PyData.eqvAll (xs.map (dL dRow)) (ys.map (dL dRow)) = decide (xs = ys)
  | [], [] => rfl
  | [], _ :: _ => by simp [PyData.eqvAll]
  | _ :: _, [] => by simp [PyData.eqvAll]
  | x :: xs, y :: ys => by
    rw [List.map_cons, List.map_cons, PyData.eqvAll, eqv_rows, eqvAll_LL xs ys]
    by_cases e1 : x = y <;> by_cases e2 : xs = ys <;> simp [e1, e2]
theorem eqv_LL (xs ys : List (List Row)) : PyData.eqv (dL (dL dRow) xs) (dL (dL dRow) ys) = decide (xs = ys) := by
  rw [show dL (dL dRow) xs = .list (xs.map (dL dRow)) from rfl, show dL (dL dRow) ys = .list (ys.map (dL dRow)) from rfl, PyData.eqv]
  exact eqvAll_LL xs ys
theorem canLay_LL : ∀ xs : List (List Row), PyData.canLayAll0 (xs.map (dL dRow)) = true
  | [] => rfl
  | x :: xs => by
    rw [List.map_cons, PyData.canLayAll0, canLay_LL xs, show dL dRow x = .list (x.map dRow) from rfl, PyData.canLay0, canLay_rows x]
    rfl
theorem depth_LL : ∀ xs : List (List Row), PyData.depthAll (xs.map (dL dRow)) ≤ 2
  | [] => by simp [PyData.depthAll]
  | x :: xs => by
    rw [List.map_cons, PyData.depthAll]
    have := depth_LL xs
    have h : (dL dRow x).depth ≤ 2 := by
      rw [show dL dRow x = .list (x.map dRow) from rfl, PyData.depth]
      have := depth_rows x
      omega
    omega
theorem shaped_LL (xs : List (List Row)) : SeqAt.shaped (dL (dL dRow) xs) = true := by
  rw [show dL (dL dRow) xs = .list (xs.map (dL dRow)) from rfl, SeqAt.shaped, PyData.canLay0, canLay_LL, PyData.depth]
  have := depth_LL xs
  simp
  omega
theorem eqv_pt (p q : Pt) : PyData.eqv (dPt p) (dPt q) = decide (p = q) := by
  obtain ⟨a, b⟩ := p
  obtain ⟨a', b'⟩ := q
  unfold dPt
  simp only [PyData.eqv, PyData.eqvAll, Bool.and_true]
  by_cases e1 : a = a' <;> by_cases e2 : b = b' <;> simp [e1, e2]
theorem any_pts (p : Pt) : ∀ ps : List Pt, ((ps.map dPt).any fun z => PyData.eqv z (dPt p)) = decide (p ∈ ps)
  | [] => by simp
  | q :: ps => by
    rw [List.map_cons, List.any_cons, any_pts p ps, eqv_pt]
    by_cases e1 : q = p
    · simp [e1]
    · have e1' : ¬ p = q := fun z => e1 z.symm
      by_cases e2 : p ∈ ps <;> simp [e1, e1', e2]
theorem canLay_pts : ∀ ps : List Pt, PyData.canLayAll0 (ps.map dPt) = true
  | [] => rfl
  | x :: xs => by
    rw [List.map_cons, PyData.canLayAll0, canLay_pts xs]
    simp [dPt, PyData.canLay0, PyData.canLayAll0]
theorem depth_pts : ∀ ps : List Pt, PyData.depthAll (ps.map dPt) ≤ 1
  | [] => by simp [PyData.depthAll]
  | x :: xs => by
    rw [List.map_cons, PyData.depthAll]
    have := depth_pts xs
    have h : (dPt x).depth ≤ 1 := by simp [dPt, PyData.depth, PyData.depthAll]
    omega
theorem shaped_pts (ps : List Pt) : SeqAt.shaped (.list (ps.map dPt)) = true := by
  rw [SeqAt.shaped, PyData.canLay0, canLay_pts, PyData.depth]
  have := depth_pts ps
  simp
  omega
theorem shaped_pt (p : Pt) : SeqAt.shaped (dPt p) = true := by
  simp [SeqAt.shaped, dPt, PyData.canLay0, PyData.canLayAll0, PyData.depth, PyData.depthAll]
/-- two lists of the same rows are alike -/
theorem twin_rows {F G H : Hp} {v u : V} {rs : List Row} (s1 : Same F H) (s2 : Same G H) (h1 : (kL kRow).is F v rs) (h2 : (kL kRow).is G u rs) (hl : rs.length ≤ 100000) : Twin H 3 v u := by
  obtain ⟨a, xs, rfl, ha, pa⟩ := h1
  obtain ⟨b, ys, rfl, hb, pb⟩ := h2
  refine .inr ⟨a, b, xs, ys, rfl, rfl, .inr ⟨s1 _ _ ha, s2 _ _ hb⟩, by rw [pr_len pb]; exact hl, by rw [pr_len pa, pr_len pb], fun i x y hx hy => ?_⟩
  obtain ⟨r, er, t, rfl, ht⟩ := pr_get pa hx
  obtain ⟨r', er', t', rfl, ht'⟩ := pr_get pb hy
  rw [er] at er'
  cases er'
  refine .inr ⟨t, t', _, _, rfl, rfl, .inl ⟨s1 _ _ ht, s2 _ _ ht'⟩, by simp, rfl, fun j c e hc he => ?_⟩
  match j, hc, he with
  | 0, hc, he => cases hc; cases he; exact .inl (.inl ⟨_, rfl, rfl⟩)
  | 1, hc, he => cases hc; cases he; exact .inl (.inl ⟨_, rfl, rfl⟩)
  | 2, hc, he => cases hc; cases he; exact .inl (.inl ⟨_, rfl, rfl⟩)
  | n + 3, hc, he => simp at hc
theorem cut_first (xs : List V) : cutV xs none (some 1) = xs.take 1 := by
  unfold cutV HT.sIx
  cases xs with
  | nil => simp
  | cons x xs => simp
theorem Ext.absb {F H F' H' : Hp} (fu : Full F H) (X : Ext M0 F H F' H') : Ext M0 F H (absb F' H') H' := by
  refine ⟨X.ff.trans (absb_sub X.fh), absb_same X.fh, X.hh, X.tr, fun b hb => ?_⟩
  rcases absb_or (F := F') (H := H') b with ⟨xs, e, e'⟩ | ⟨_, e'⟩
  · cases q : H b with
    | none => exact absurd q hb
    | some o =>
      have z := X.same _ _ q
      rw [e] at z
      rw [← Option.some.inj z] at q
      rw [e', fu _ _ q]
  · rw [e']; exact X.new b hb
theorem DiceAt.absb {K : PySem.W.Frag} {F H : Hp} {d s : Addr} {ns : List Int} (D : DiceAt K F H d s ns) : DiceAt K (absb F H) H d s ns := by
  obtain ⟨i, m, r, hd, g⟩ := D.ex
  refine ⟨absb_same D.fh, ?_, (absb_sub D.fh).seq D.sc, i, m, r, hd, g⟩
  rw [absb_ne (fun xs e => by rw [hd] at e; cases e)]
  exact D.fd
theorem same_fz {F H : Hp} {o : Addr} {x : HO} (s : Same F H) (e : H o = some x) : Same (upd F o x) H := fun b u z => by
  by_cases hb : b = o
  · rw [hb, upd_same] at z; rw [hb, e]; exact z
  · rw [upd_ne hb] at z; exact s _ _ z
theorem DiceAt.fz {K : PySem.W.Frag} {F H : Hp} {d s o : Addr} {x : HO} {ns : List Int} (D : DiceAt K F H d s ns) (n : d ≠ o) (f : F o = none) (e : H o = some x) : DiceAt K (upd F o x) H d s ns :=
  ⟨same_fz D.fh e, by rw [upd_ne n]; exact D.fd, (same_upd f).seq D.sc, D.ex⟩
def Drawn3 (p : Pt) : Prop := 0 ≤ p.1 ∧ p.1 < 3 ∧ 1 ≤ p.2 ∧ p.2 ≤ 25
theorem drawn3 {rs : List Row} (h : ∀ r ∈ rs, Drawn 3 25 r) {p : Pt} (m : mem rs p) : Drawn3 p := by
  obtain ⟨r, hr, i1, i2, i3⟩ := m
  obtain ⟨a, b, c, d, e⟩ := h r hr
  exact ⟨by omega, by omega, by omega, by omega⟩
theorem pts_few {ps : List Pt} (nd : ps.Pairwise (· ≠ ·)) (h : ∀ p ∈ ps, Drawn3 p) : ps.length ≤ 75 := by
  have c := len_of_nodup ps field nd fun p hp => by
    obtain ⟨a, b, c, d⟩ := h p hp
    exact field_mem a b c d
  rw [field_len] at c
  exact c
/-- pairs by their places -/
theorem places {F : Hp} : ∀ {vs : List V} {ps : List Pt}, Paired (kPt.is F) vs ps → ∃ ks : List (Addr × List Int), vs = ks.map (fun p => V.ref p.1) ∧ ks.map (·.2) = ps.map (fun p => [p.1, p.2]) ∧ ∀ k ∈ ks, F k.1 = some (.tup (k.2.map V.int))
  | _, _, .nil => ⟨[], rfl, rfl, fun k h => absurd h (by simp)⟩
  | _, p :: _, .cons ⟨t, e, ht⟩ r => by
    obtain ⟨ks, e1, e2, e3⟩ := places r
    refine ⟨(t, [p.1, p.2]) :: ks, by rw [List.map_cons, ← e1, e], by rw [List.map_cons, List.map_cons, e2], fun k hk => ?_⟩
    rcases List.mem_cons.mp hk with rfl | hk
    · exact ht
    · exact e3 k hk
theorem pr_back {F H : Hp} (s : Same F H) : ∀ {vs : List V} {ps : List Pt}, Paired (kPt.is H) vs ps → (∀ v ∈ vs, ∃ t xs, v = V.ref t ∧ F t = some (.tup xs)) → Paired (kPt.is F) vs ps
  | _, _, .nil, _ => .nil
  | _, _, .cons ⟨t, e, ht⟩ r, h => by
    refine .cons ?_ (pr_back s r fun v hv => h v (List.mem_cons_of_mem _ hv))
    obtain ⟨t', xs, e', ht'⟩ := h _ List.mem_cons_self
    rw [e] at e'
    cases e'
    have z := s _ _ ht'
    rw [ht] at z
    rw [← Option.some.inj z] at ht'
    exact ⟨t, e, ht'⟩
/-- what the turns keep -/
structure B3 (K : PySem.W.Frag) (F H : Hp) (d s : Addr) (ns : List Int) (o : Addr) (sets : List (List Row)) (D : Addr) (nss : List (List Pt)) : Prop where
  dice : DiceAt K F H d s ns
  sets : (kL (kL kRow)).is F (.ref o) sets
  names : (kL (kL kPt)).is F (.ref D) nss
theorem B3.step {K : PySem.W.Frag} {F H F' H' : Hp} {d s o D : Addr} {ns : List Int} {sets : List (List Row)} {nss : List (List Pt)} (B : B3 K F H d s ns o sets D nss) (X : Ext M0 F H F' H') : B3 K F' H' d s ns o sets D nss :=
  ⟨B.dice.step X, (kL (kL kRow)).mono X.ff B.sets, (kL (kL kPt)).mono X.ff B.names⟩
theorem B3.mv {K : PySem.W.Frag} {F H F' H' : Hp} {d s o D : Addr} {ns : List Int} {sets : List (List Row)} {nss : List (List Pt)} (B : B3 K F H d s ns o sets D nss) (m : Same F F') (D' : DiceAt K F' H' d s ns) : B3 K F' H' d s ns o sets D nss :=
  ⟨D', (kL (kL kRow)).mono m B.sets, (kL (kL kPt)).mono m B.names⟩
/-! ### moved rows -/
theorem mem_moved {b : Int} {rs : List Row} {p : Pt} : mem (moved b rs) p ↔ mem rs (p.1, p.2 - b) := by
  constructor
  · rintro ⟨r, hr, i1, i2, i3⟩
    obtain ⟨s, hs, rfl⟩ := List.mem_map.mp hr
    simp only [mv1] at i1 i2 i3
    exact ⟨s, hs, i1, by simp only; omega, by simp only; omega⟩
  · rintro ⟨r, hr, i1, i2, i3⟩
    simp only at i1 i2 i3
    exact ⟨_, List.mem_map.mpr ⟨r, hr, rfl⟩, i1, by simp only [mv1]; omega, by simp only [mv1]; omega⟩
theorem canon_moved {b : Int} {rs : List Row} (c : Canon rs) : Canon (moved b rs) := by
  refine ⟨fun r hr => ?_, List.pairwise_map.mpr (c.ord.imp fun {r s} h => ?_)⟩
  · obtain ⟨s, hs, rfl⟩ := List.mem_map.mp hr
    have := c.ok s hs
    simp only [mv1]
    omega
  · unfold before at h ⊢
    simp only [mv1]
    omega
theorem ind_iff {A B : Prop} [Decidable A] [Decidable B] (h : A ↔ B) : ind A = ind B := by
  by_cases a : A
  · rw [ind_pos a, ind_pos (h.mp a)]
  · rw [ind_neg a, ind_neg fun b => a (h.mpr b)]
theorem cnt_moved (b : Int) (p : Pt) : ∀ sets : List (List Row), cnt (sets.map (moved b)) p = cnt sets (p.1, p.2 - b)
  | [] => rfl
  | rs :: sets => by
    show ind (mem (moved b rs) p) + cnt (sets.map (moved b)) p = ind (mem rs (p.1, p.2 - b)) + cnt sets (p.1, p.2 - b)
    rw [cnt_moved b p sets, ind_iff mem_moved]
theorem cnt_pos {p : Pt} : ∀ {sets : List (List Row)}, 1 ≤ cnt sets p → ∃ rs ∈ sets, mem rs p
  | [], h => absurd h (show ¬ (1 : Int) ≤ 0 by decide)
  | rs :: sets, h => by
    by_cases m : mem rs p
    · exact ⟨rs, List.mem_cons_self, m⟩
    · have e : cnt (rs :: sets) p = ind (mem rs p) + cnt sets p := rfl
      rw [e, ind_neg m] at h
      obtain ⟨q, hq, hm⟩ := cnt_pos (p := p) (sets := sets) (by omega)
      exact ⟨q, List.mem_cons_of_mem _ hq, hm⟩
theorem cnt_nn (p : Pt) : ∀ sets : List (List Row), 0 ≤ cnt sets p
  | [] => Int.le_refl _
  | rs :: sets => by
    have e : cnt (rs :: sets) p = ind (mem rs p) + cnt sets p := rfl
    rw [e]
    have := cnt_nn p sets
    rcases ind_or (mem rs p) with ⟨_, z⟩ | ⟨_, z⟩ <;> rw [z] <;> omega
theorem cnt_next {sets : List (List Row)} {i : Nat} {rs : List Row} (h : sets[i]? = some rs) (p : Pt) : cnt (sets.take (i + 1)) p = cnt (sets.take i) p + ind (mem rs p) := by
  have e : sets.take (i + 1) = sets.take i ++ [rs] := by rw [List.take_add_one, h]; rfl
  rw [e, cnt_snoc]
/-- what the law is about: by_many's telling is what counting each name gives -/
theorem held_told {sets : List (List Row)} {least b : Int} {every due : List Pt} {t out : List Row} (h1 : 1 ≤ least) (he : ∀ p, p ∈ every ↔ ∃ rs ∈ sets, mem rs p) (hd : ∀ p, p ∈ due ↔ p ∈ every ∧ least ≤ cnt sets p) (ht : ToldOf due t) (ho : Held (sets.map (moved b)) least out) : out = moved b t := by
  refine Canon.uniq ho.can (canon_moved ht.can) fun p => ?_
  rw [ho.mem p, mem_moved, ht.mem, hd, cnt_moved]
  exact ⟨fun z => ⟨(he _).mpr (cnt_pos (by omega)), z⟩, fun z => z.2⟩
end Rw
namespace Rw
open PySem L2
/-! ### the round of i -> 5 i + 1 meets every place, for every power of two -/
def X5 : Nat → Nat
  | 0 => 0
  | k + 1 => 5 * X5 k + 1
theorem X5_add (a : Nat) : ∀ b, X5 (a + b) = (4 * X5 a + 1) * X5 b + X5 a
  | 0 => by simp [X5]
  | b + 1 => by
    show 5 * X5 (a + b) + 1 = (4 * X5 a + 1) * (5 * X5 b + 1) + X5 a
    rw [X5_add a b, Nat.mul_add (4 * X5 a + 1), Nat.mul_one, Nat.mul_left_comm (4 * X5 a + 1) 5]
    omega
theorem X5_pow : ∀ e, ∃ q, X5 (2 ^ e) = 2 ^ e * (2 * q + 1)
  | 0 => ⟨0, rfl⟩
  | e + 1 => by
    obtain ⟨q, h⟩ := X5_pow e
    have e2 : 2 ^ (e + 1) = 2 ^ e + 2 ^ e := by rw [Nat.pow_succ]; omega
    refine ⟨2 * (2 ^ e * (2 * q + 1)) * q + (2 ^ e * (2 * q + 1)) + q, ?_⟩
    rw [e2, X5_add, h]
    generalize hn : 2 ^ e = n
    have e3 : (4 * (n * (2 * q + 1)) + 1) * (n * (2 * q + 1)) + n * (2 * q + 1) = (n + n) * ((2 * (n * (2 * q + 1)) + 1) * (2 * q + 1)) := by
      generalize hy : n * (2 * q + 1) = y
      have : (n + n) * ((2 * y + 1) * (2 * q + 1)) = 2 * ((2 * y + 1) * (n * (2 * q + 1))) := by
        rw [← Nat.two_mul, Nat.mul_assoc, Nat.mul_left_comm n]
      rw [this, hy, Nat.add_mul, Nat.add_mul, Nat.mul_add 2, Nat.mul_assoc, Nat.mul_assoc]
      omega
    rw [e3]
    congr 1
    generalize n * (2 * q + 1) = y
    rw [Nat.add_mul, Nat.mul_add (2 * y)]
    have : 2 * y * (2 * q) = 2 * (2 * y * q) := by rw [Nat.mul_left_comm]
    rw [this]
    omega
theorem X5_all : ∀ (e j : Nat), j < 2 ^ e → ∃ b, b < 2 ^ e ∧ X5 b % 2 ^ e = j
  | 0, j, h => ⟨0, by decide, by have : j = 0 := by simpa using h
                                 rw [this]; rfl⟩
  | e + 1, j, h => by
    have e2 : 2 ^ (e + 1) = 2 * 2 ^ e := by rw [Nat.pow_succ, Nat.mul_comm]
    rw [e2] at h ⊢
    obtain ⟨q, hq⟩ := X5_pow e
    have npos0 : 0 < 2 ^ e := Nat.pow_pos (by decide)
    obtain ⟨n, hn⟩ : ∃ n, n = 2 ^ e := ⟨_, rfl⟩
    rw [← hn] at h hq npos0 ⊢
    have ih : ∀ j, j < n → ∃ b, b < n ∧ X5 b % n = j := fun j hj => by rw [hn] at hj ⊢; exact X5_all e j hj
    have npos : 0 < n := npos0
    obtain ⟨b, hb, hj⟩ := ih (j % n) (Nat.mod_lt _ npos)
    have d1 : X5 b = n * (X5 b / n) + j % n := by rw [← hj]; exact (Nat.div_add_mod _ _).symm
    have d2 : X5 (b + n) = n * (X5 b / n + (4 * X5 b + 1) * (2 * q + 1)) + j % n := by
      rw [X5_add, hq, Nat.mul_left_comm]
      generalize (4 * X5 b + 1) * (2 * q + 1) = W
      rw [Nat.mul_add]
      omega
    have odd : ∃ r, (4 * X5 b + 1) * (2 * q + 1) = 2 * r + 1 := ⟨4 * X5 b * q + 2 * X5 b + q, by
      rw [Nat.add_mul, Nat.mul_add (4 * X5 b)]
      have : 4 * X5 b * (2 * q) = 2 * (4 * X5 b * q) := by rw [Nat.mul_left_comm]
      rw [this]
      omega⟩
    obtain ⟨r, hr⟩ := odd
    rw [hr] at d2
    have jn : j = j % n ∨ j = n + j % n := by
      have := Nat.div_add_mod j n
      have l : j / n < 2 := Nat.div_lt_of_lt_mul (by omega)
      generalize j / n = w at this l
      rcases (show w = 0 ∨ w = 1 by omega) with z | z
      · rw [z, Nat.mul_zero] at this; omega
      · rw [z, Nat.mul_one] at this; omega
    have lt := Nat.mod_lt j npos
    have mod_of : ∀ {x s ε : Nat}, x = n * (2 * s + ε) + j % n → ε ≤ 1 → x % (2 * n) = ε * n + j % n := fun {x s ε} hx he => by
      have e3 : x = 2 * n * s + (ε * n + j % n) := by
        rw [hx, Nat.mul_add, Nat.mul_comm n ε, ← Nat.mul_assoc, Nat.mul_comm n 2]
        omega
      rw [e3, Nat.mul_add_mod, Nat.mod_eq_of_lt]
      rcases (show ε = 0 ∨ ε = 1 by omega) with z | z <;> rw [z] <;> omega
    generalize X5 b / n = t at d1 d2
    rcases (show (∃ s, t = 2 * s) ∨ ∃ s, t = 2 * s + 1 from by
      rcases Nat.mod_two_eq_zero_or_one t with z | z
      · exact .inl ⟨t / 2, by omega⟩
      · exact .inr ⟨t / 2, by omega⟩) with ⟨s, rfl⟩ | ⟨s, rfl⟩ <;> rcases jn with z | z
    · exact ⟨b, by omega, by rw [mod_of (s := s) (ε := 0) (by rw [d1]; rfl) (by decide)]; omega⟩
    · exact ⟨b + n, by omega, by rw [mod_of (s := s + r) (ε := 1) (by rw [d2]; congr 2; omega) (by decide)]; omega⟩
    · exact ⟨b + n, by omega, by rw [mod_of (s := s + r + 1) (ε := 0) (by rw [d2]; congr 2; omega) (by decide)]; omega⟩
    · exact ⟨b, by omega, by rw [mod_of (s := s) (ε := 1) (by rw [d1]) (by decide)]; omega⟩
theorem lcgN_X5 (m : Nat) : ∀ k, lcgN m k = X5 k % (m + 1)
  | 0 => by simp [lcgN, X5]
  | k + 1 => by
    show (lcgN m k * 5 + 1) % (m + 1) = (5 * X5 k + 1) % (m + 1)
    rw [lcgN_X5 m k, Nat.mul_comm, Nat.add_mod, Nat.mul_mod, Nat.mod_mod, ← Nat.mul_mod, ← Nat.add_mod]
/-- a mask of any power of two -/
def Mask2 (m : Nat) : Prop := ∃ e, m + 1 = 2 ^ e
theorem lcg_every {m : Nat} (h : Mask2 m) {j : Nat} (hj : j ≤ m) : ∃ b, b ≤ m ∧ lcgN m b = j := by
  obtain ⟨e, he⟩ := h
  obtain ⟨b, hb, hx⟩ := X5_all e j (by omega)
  exact ⟨b, by omega, by rw [lcgN_X5, he]; exact hx⟩
theorem lcg_back {m : Nat} (h : Mask2 m) : lcgN m (m + 1) = 0 := by
  obtain ⟨e, he⟩ := h
  obtain ⟨q, hq⟩ := X5_pow e
  rw [lcgN_X5, he, hq, Nat.mul_mod_right]
end Rw
namespace Rw
open PySem L2
theorem lcg_again {m : Nat} (h : Mask2 m) : ∀ k, lcgN m (m + 1 + k) = lcgN m k
  | 0 => lcg_back h
  | k + 1 => congrArg (fun x => (x * 5 + 1) % (m + 1)) (lcg_again h k)
theorem lcg_from {m : Nat} (h : Mask2 m) {i j : Nat} (hi : i ≤ m) (hj : j ≤ m) : ∃ k, k ≤ m ∧ lcgI m i k = j := by
  obtain ⟨a, a1, a2⟩ := lcg_every h hi
  obtain ⟨b, b1, b2⟩ := lcg_every h hj
  subst a2
  by_cases c : a ≤ b
  · refine ⟨b - a, by omega, ?_⟩
    rw [lcgN_add, show a + (b - a) = b by omega, b2]
  · refine ⟨b + (m + 1) - a, by omega, ?_⟩
    rw [lcgN_add, show a + (b + (m + 1) - a) = m + 1 + b by omega, lcg_again h, b2]
/-- a search comes to every place -/
theorem way_every {m : Nat} (h : Mask2 m) (x : Int) {j : Nat} (hj : j ≤ m) : ∃ k, k < 10 * SetTable.turns m ∧ way m x k = j := by
  obtain ⟨k, k1, k2⟩ := lcg_from h (runI_le m (SetTable.bits x) 12) hj
  obtain ⟨q, q1, q2⟩ := run_nth m (SetTable.bits x) (12 + k)
  refine ⟨q, by simp only [SetTable.turns]; omega, ?_⟩
  show (nth m _ q).j = j
  rw [q2]
  show runI m (SetTable.bits x) (12 + k) = j
  rw [runI_tail (bits_lt x), k2]
/-- a table of any size whose places are all found again -/
structure Tab2 (t : SetTable) (hs : List Int) : Prop where
  up : Ris t.place.toList
  none' : t.dummies = #[]
  num : t.place.size = hs.length
  mask : Mask2 t.mask
  within : ∀ x ∈ t.place.toList, x ≤ t.mask
  found : ∀ (i : Nat) (h : Int) (j : Nat), hs[i]? = some h → t.place.toList[i]? = some j → ∃ k, way t.mask h k = j ∧ ∀ k', k' < k → way t.mask h k' ∈ t.place.toList
/-- the first free place on a way -/
theorem Tab2.first {t : SetTable} {hs : List Int} (T : Tab2 t hs) (room : hs.length ≤ t.mask) (h : Int) : ∃ K, K < 10 * SetTable.turns t.mask ∧ way t.mask h K ∉ t.place.toList ∧ ∀ k, k < K → way t.mask h k ∈ t.place.toList := by
  have len : t.place.toList.length < t.mask + 1 := by rw [Array.length_toList, T.num]; omega
  obtain ⟨j, j1, j2⟩ := st_missing t.place.toList (t.mask + 1) len
  obtain ⟨k, k1, k2⟩ := way_every T.mask h (show j ≤ t.mask by omega)
  obtain ⟨K, K1, K2, K3⟩ := st_least (p := fun c => way t.mask h c ∉ t.place.toList) k (by show way t.mask h k ∉ _; rw [k2]; exact j2)
  exact ⟨K, by omega, K2, fun c hc => Classical.byContradiction fun z => K3 c hc z⟩
theorem Tab2.before {t : SetTable} {hs : List Int} (T : Tab2 t hs) {h : Int} {K i j : Nat} (hK : way t.mask h K ∉ t.place.toList) (hi : hs[i]? = some h) (hj : t.place.toList[i]? = some j) : ∃ k, k < K ∧ way t.mask h k = j := by
  obtain ⟨k, k1, k2⟩ := T.found i h j hi hj
  refine ⟨k, ?_, k1⟩
  rcases Nat.lt_trichotomy k K with c | c | c
  · exact c
  · exact absurd (List.mem_of_getElem? hj) (by rw [← k1, c]; exact hK)
  · exact absurd (k2 K c) hK
end Rw
namespace Rw
open PySem L2
/-- a way stays within the table, whatever its size -/
theorem way_in (m : Nat) (h : Int) (k : Nat) : way m h k ≤ m := by
  have i0 : SetTable.bits h % (m + 1) ≤ m := by
    have := Nat.mod_lt (SetTable.bits h) (show 0 < m + 1 by omega)
    omega
  have e := runEnd_bd i0
  have z := nth_in (m := m) k (runAt m (SetTable.bits h % (m + 1)) (SetTable.bits h)) (by simp only [runAt]; omega)
  show (nth m _ k).j ≤ m
  omega
theorem run_every {m : Nat} (hm : Mask2 m) (h : Int) {j : Nat} (hj : j ≤ m) : ∃ n, n ≤ m + 12 ∧ runI m (SetTable.bits h) n = j := by
  obtain ⟨k, k1, k2⟩ := lcg_from hm (runI_le m (SetTable.bits h) 12) hj
  exact ⟨12 + k, by omega, (runI_tail (bits_lt h) k).trans k2⟩
/-- where one that is laid anew comes to sit -/
theorem spot {m : Nat} (hm : Mask2 m) (owner : Array (Option Nat)) (h : Int) {j : Nat} (hj : j ≤ m) (empty : oAt owner j = none) :
    ∃ K, SetTable.layClean.free m owner (SetTable.turns m) (SetTable.bits h % (m + 1)) (SetTable.bits h) = some (way m h K) ∧ oAt owner (way m h K) = none ∧ ∀ k, k < K → oAt owner (way m h k) ≠ none := by
  obtain ⟨n, n1, n2⟩ := run_every hm h hj
  generalize ho : off m (SetTable.bits h % (m + 1)) (SetTable.bits h) n = o
  have at' : way m h o = j := by
    rw [← ho, way, nth_off, itL_run]
    exact n2
  obtain ⟨K, K1, K2, K3⟩ := st_least (p := fun c => oAt owner (way m h c) = none) o (by rw [at']; exact empty)
  refine ⟨K, free_spec m owner _ n _ _ K (by simp only [SetTable.turns]; omega) (by rw [ho]; exact K1) (fun c hc => ?_) (by rw [show oAt owner (nth m (runAt m (SetTable.bits h % (m + 1)) (SetTable.bits h)) K).j = none from K2]; rfl), K2, K3⟩
  have z := K3 c hc
  cases q : oAt owner (nth m (runAt m (SetTable.bits h % (m + 1)) (SetTable.bits h)) c).j with
  | none => exact absurd q z
  | some _ => rfl
theorem own_more {m : Nat} (hm : Mask2 m) {done : List Int} {owner : Array (Option Nat)} (W : Own m done owner) (room : done.length ≤ m) (h : Int) :
    ∃ j, SetTable.layClean.free m owner (SetTable.turns m) (SetTable.bits h % (m + 1)) (SetTable.bits h) = some j ∧ Own m (done ++ [h]) (owner.setIfInBounds j (some done.length)) := by
  obtain ⟨ps, p1, p2⟩ := W.ps
  obtain ⟨j0, b0, n0⟩ := st_missing ps (m + 1) (by omega)
  obtain ⟨K, K1, K2, K3⟩ := spot hm owner h (show j0 ≤ m by omega) (Classical.byContradiction fun z => n0 (p2 j0 (by omega) z))
  have here : oAt (owner.setIfInBounds (way m h K) (some done.length)) (way m h K) = some done.length := oAt_set_self _ (by rw [W.sz]; have := way_in m h K; omega)
  have else' : ∀ {i : Nat}, i ≠ way m h K → oAt (owner.setIfInBounds (way m h K) (some done.length)) i = oAt owner i := fun c => oAt_set_ne _ c
  have taken : ∀ {i : Nat}, oAt owner i ≠ none → oAt (owner.setIfInBounds (way m h K) (some done.length)) i ≠ none := fun {i} z => by
    by_cases c : i = way m h K
    · rw [c, here]; simp
    · rw [else' c]; exact z
  refine ⟨_, K1, by rw [Array.size_setIfInBounds, W.sz], fun j k hj e => ?_, fun k hk => ?_, way m h K :: ps, by simp [p1], fun j hj e => ?_⟩
  · by_cases c : j = way m h K
    · rw [c, here] at e
      exact ⟨h, K, by rw [← Option.some.inj e]; simp, c.symm, fun k' z => taken (K3 k' z)⟩
    · rw [else' c] at e
      obtain ⟨h', K', q1, q2, q3⟩ := W.at_ j k hj e
      exact ⟨h', K', by rw [List.getElem?_append_left (List.getElem?_eq_some_iff.mp q1).1]; exact q1, q2, fun k' z => taken (q3 k' z)⟩
  · rcases Nat.lt_or_ge k done.length with c | c
    · obtain ⟨j, hj, e⟩ := W.all k c
      exact ⟨j, hj, by rw [else' fun z => by rw [z, K2] at e; cases e]; exact e⟩
    · rw [List.length_append, List.length_singleton] at hk
      exact ⟨way m h K, way_in m h K, by rw [here, show k = done.length by omega]⟩
  · by_cases c : j = way m h K
    · rw [c]; exact List.mem_cons_self
    · rw [else' c] at e
      exact List.mem_cons_of_mem _ (p2 j hj e)
theorem lay_all {m : Nat} (hm : Mask2 m) : ∀ (rest done : List Int) (owner : Array (Option Nat)), Own m done owner → done.length + rest.length ≤ m → ∃ o2, rest.foldl (stepF m) (some (owner, done.length)) = some (o2, (done ++ rest).length) ∧ Own m (done ++ rest) o2
  | [], done, owner, W, _ => ⟨owner, by simp, by simpa using W⟩
  | h :: rest, done, owner, W, l => by
    simp only [List.length_cons] at l
    obtain ⟨j, e, W1⟩ := own_more hm W (by omega) h
    obtain ⟨o2, f, W2⟩ := lay_all hm rest (done ++ [h]) _ W1 (by simp; omega)
    refine ⟨o2, ?_, by simpa using W2⟩
    rw [List.foldl_cons, stepF_some e]
    simpa using f
theorem laid_clean {m : Nat} (hm : Mask2 m) {hs : Array Int} (l : hs.size ≤ m) : ∃ owner, SetTable.layClean m hs = some owner ∧ Own m hs.toList owner := by
  obtain ⟨o2, f, W⟩ := lay_all hm hs.toList [] _ (Own.init m) (by simpa using l)
  refine ⟨o2, ?_, by simpa using W⟩
  rw [layClean_eq, show (some (Array.replicate (m + 1) (none : Option Nat), 0)) = some (Array.replicate (m + 1) none, ([] : List Int).length) from rfl, f]
  rfl
end Rw
namespace Rw
open PySem L2
/-- one put in -/
theorem Tab2.put {t : SetTable} {hs : List Int} (T : Tab2 t hs) {h : Int} {K : Nat} (free : way t.mask h K ∉ t.place.toList) (full : ∀ k, k < K → way t.mask h k ∈ t.place.toList) :
    (t.put (way t.mask h K)).2 = SetTable.below t.place (way t.mask h K) ∧ SetTable.below t.place (way t.mask h K) ≤ hs.length ∧ Tab2 (t.put (way t.mask h K)).1 (hs.take (SetTable.below t.place (way t.mask h K)) ++ h :: hs.drop (SetTable.below t.place (way t.mask h K))) ∧
    (t.put (way t.mask h K)).1.mask = t.mask ∧ (t.put (way t.mask h K)).1.led = t.led ∧ (t.put (way t.mask h K)).1.plain = t.plain ∧ (t.put (way t.mask h K)).1.fill = hs.length + 1 := by
  have inside := way_in t.mask h K
  obtain ⟨j, ej⟩ : ∃ j, way t.mask h K = j := ⟨_, rfl⟩
  rw [ej] at free inside ⊢
  have cut := (below_cut T.up j).1
  have len : t.place.toList.length = hs.length := by rw [Array.length_toList, T.num]
  obtain ⟨p, ep⟩ : ∃ p, SetTable.below t.place j = p := ⟨_, rfl⟩
  have place := put_place t j
  rw [ep] at place cut ⊢
  have pl : p ≤ t.place.toList.length := by rw [Array.length_toList]; exact cut
  have ph : p ≤ hs.length := len ▸ pl
  have absent : t.place[SetTable.below t.place j]? ≠ some j := fun e => free (List.mem_of_getElem? (by rw [Array.getElem?_toList]; exact e))
  have size : (t.put j).1.place.size = hs.length + 1 := by rw [← Array.length_toList, place, len_ins _ pl, len]
  have still : ∀ {x : Nat}, x ∈ t.place.toList → x ∈ (t.put j).1.place.toList := fun z => by rw [place]; exact mem_ins.2 (.inr z)
  refine ⟨by rw [← ep]; rfl, ph, ⟨ris_insert T.up absent, put_dm T.none' j, by rw [len_ins _ ph]; exact size, T.mask, fun x hx => ?_, fun i h' j' e1 e2 => ?_⟩, rfl, rfl, rfl, ?_⟩
  · rw [place] at hx
    rcases mem_ins.1 hx with z | z
    · rw [z]; exact inside
    · exact T.within x z
  · rw [tins_get hs ph] at e1
    rw [place, tins_get _ pl] at e2
    have old : ∀ i0, hs[i0]? = some h' → t.place.toList[i0]? = some j' → ∃ k, way t.mask h' k = j' ∧ ∀ k', k' < k → way t.mask h' k' ∈ (t.put j).1.place.toList := fun i0 q1 q2 => by
      obtain ⟨k, k1, k2⟩ := T.found i0 h' j' q1 q2
      exact ⟨k, k1, fun k' z => still (k2 k' z)⟩
    rcases Nat.lt_trichotomy i p with c | c | c
    · rw [if_pos c] at e1 e2
      exact old i e1 e2
    · rw [if_neg (by omega), if_pos c] at e1 e2
      cases e1
      cases e2
      exact ⟨K, ej, fun k' z => still (full k' z)⟩
    · rw [if_neg (by omega), if_neg (by omega)] at e1 e2
      exact old (i - 1) e1 e2
  · show (t.put j).1.place.size + (t.put j).1.dummies.size = hs.length + 1
    rw [size, put_dm T.none' j]
    rfl
/-- laid anew, whatever the size -/
theorem Tab2.relaid (t : SetTable) {hs : Array Int} {wanted M : Nat} (size : SetTable.sizeAbove wanted - 1 = M) (hM : Mask2 M) (room : hs.size ≤ M) :
    ∃ t' order, t.relaid hs wanted = some (t', order) ∧ order.toList.Perm (List.range hs.size) ∧ Tab2 t' (order.toList.map fun i => hs.getD i 0) ∧ t'.mask = M ∧ t'.led = t.led ∧ t'.plain = t.plain := by
  obtain ⟨owner, e, W⟩ := laid_clean hM room
  have mem := fun {j k : Nat} => mem_live (owner := owner) (m := M) W.sz (j := j) (k := k)
  obtain ⟨up, low⟩ := ris_live (fun j => owner.getD j none) (List.range (M + 1)) (by unfold Ris; first | exact List.pairwise_lt_range | exact List.pairwise_lt_range _)
  have up : Ris ((liveOf M owner).map (·.1)) := up
  have low : ∀ x ∈ (liveOf M owner).map (·.1), x ∈ List.range (M + 1) := low
  have num : (liveOf M owner).length = hs.size := by
    obtain ⟨ps, p1, p2⟩ := W.ps
    have nd : ((liveOf M owner).map (·.1)).Nodup := up.imp fun z => Nat.ne_of_lt z
    have a := nat_nodup_len ((liveOf M owner).map (·.1)) ps nd fun x hx => by
      obtain ⟨⟨y, k⟩, hq, rfl⟩ := List.mem_map.mp hx
      obtain ⟨b1, b2⟩ := mem.1 hq
      exact p2 y b1 (by rw [b2]; simp)
    have b := nat_nodup_len (List.range hs.size) ((liveOf M owner).map (·.2)) List.nodup_range fun k hk => by
      obtain ⟨j, b1, b2⟩ := W.all k (by simpa using hk)
      exact List.mem_map.mpr ⟨(j, k), mem.2 ⟨b1, b2⟩, rfl⟩
    rw [List.length_map, p1] at a
    rw [List.length_map, List.length_range] at b
    have z : hs.toList.length = hs.size := rfl
    omega
  refine ⟨tabOf t M owner, ((liveOf M owner).map (·.2)).toArray, by rw [relaid_eq, size, e]; rfl, perm_range hs.size _ (by simpa using num) fun k hk => ?_, ⟨up, rfl, ?_, hM, fun x hx => ?_, fun i h j e1 e2 => ?_⟩, rfl, rfl, rfl⟩
  · obtain ⟨j, b1, b2⟩ := W.all k (by simpa using hk)
    exact List.mem_map.mpr ⟨(j, k), mem.2 ⟨b1, b2⟩, rfl⟩
  · show ((liveOf M owner).map (·.1)).toArray.size = (((liveOf M owner).map (·.2)).map fun i => hs.getD i 0).length
    simp
  · have := List.mem_range.mp (low x hx)
    show x ≤ M
    omega
  · have e1 : (((liveOf M owner).map (·.2)).map fun i => hs.getD i 0)[i]? = some h := e1
    have e2 : ((liveOf M owner).map (·.1))[i]? = some j := e2
    rw [List.getElem?_map, List.getElem?_map] at e1
    rw [List.getElem?_map] at e2
    cases q : (liveOf M owner)[i]? with
    | none => rw [q] at e2; cases e2
    | some x =>
      obtain ⟨y, k⟩ := x
      rw [q] at e1 e2
      have ey : y = j := Option.some.inj e2
      have eh : hs.getD k 0 = h := Option.some.inj e1
      subst ey
      obtain ⟨b1, b2⟩ := mem.1 (List.mem_of_getElem? q)
      obtain ⟨h0, K, a1, a2, a3⟩ := W.at_ y k b1 b2
      have e0 : hs.getD k 0 = h0 := by rw [Array.getD_eq_getD_getElem?, ← Array.getElem?_toList, a1]; rfl
      obtain rfl : h0 = h := e0.symm.trans eh
      refine ⟨K, a2, fun k' hk' => ?_⟩
      show way M h0 k' ∈ (liveOf M owner).map (·.1)
      cases z : oAt owner (way M h0 k') with
      | none => exact absurd z (a3 k' hk')
      | some k2 => exact List.mem_map.mpr ⟨(way M h0 k', k2), mem.2 ⟨way_in M h0 k', z⟩, rfl⟩
end Rw
namespace Rw
open PySem PySem.Spec PyProof.Rows L2
/-! ### 3200 pairs whose hashes are apart, told by a small remainder -/
def wide : List (Int × Int) := (List.range 8).flatMap fun x : Nat => (List.range 400).map fun y : Nat => ((x : Int), (y : Int) + 1)
def rest (p : Int × Int) : Nat := (pairHash p.1 p.2 % (2 : Int) ^ 64).toNat % 16713
def marks : List (Int × Int) → Nat → Bool
  | [], _ => true
  | p :: ps, acc => !acc.testBit (rest p) && marks ps (acc ||| (1 <<< rest p))
theorem marks_nd : ∀ (ps : List (Int × Int)) (acc : Nat), marks ps acc = true → (∀ p ∈ ps, acc.testBit (rest p) = false) ∧ (ps.map rest).Nodup
  | [], _, _ => ⟨fun p h => absurd h (by simp), .nil⟩
  | p :: ps, acc, h => by
    unfold marks at h
    rw [Bool.and_eq_true, Bool.not_eq_true'] at h
    obtain ⟨a, b⟩ := marks_nd ps _ h.2
    have z : ∀ q ∈ ps, acc.testBit (rest q) = false ∧ rest p ≠ rest q := fun q hq => by
      have c := a q hq
      rw [Nat.testBit_or, Bool.or_eq_false_iff] at c
      refine ⟨c.1, fun e => ?_⟩
      have d := c.2
      rw [← e, Nat.testBit_shiftLeft] at d
      simp at d
    refine ⟨fun q hq => ?_, List.nodup_cons.mpr ⟨fun m => ?_, b⟩⟩
    · rcases List.mem_cons.mp hq with rfl | hq
      · exact h.1
      · exact (z q hq).1
    · obtain ⟨q, hq, e⟩ := List.mem_map.mp m
      exact (z q hq).2 e.symm
theorem wide_marks : marks wide 0 = true := by decide +kernel
theorem wide_mem {x y : Int} (h0 : 0 ≤ x) (h8 : x < 8) (h1 : 1 ≤ y) (h400 : y ≤ 400) : (x, y) ∈ wide := by
  refine List.mem_flatMap.mpr ⟨x.toNat, List.mem_range.mpr (by omega), List.mem_map.mpr ⟨(y - 1).toNat, List.mem_range.mpr (by omega), ?_⟩⟩
  exact Prod.ext (by simp only; omega) (by simp only; omega)
def InWide (k : List Int) : Prop := ∃ x y : Int, k = [x, y] ∧ 0 ≤ x ∧ x < 8 ∧ 1 ≤ y ∧ y ≤ 400
theorem wide_inj (P : Program) (w : World) {k k' : List Int} (h : InWide k) (h' : InWide k') (e : thash P w k = thash P w k') : k = k' := by
  obtain ⟨x, y, rfl, a1, a2, a3, a4⟩ := h
  obtain ⟨x', y', rfl, b1, b2, b3, b4⟩ := h'
  rw [pairHash_is, pairHash_is] at e
  have z := nodup_inj (marks_nd wide 0 wide_marks).2 (wide_mem a1 a2 a3 a4) (wide_mem b1 b2 b3 b4) (show rest (x, y) = rest (x', y') by unfold rest; rw [e])
  rw [(Prod.mk.inj z).1, (Prod.mk.inj z).2]
end Rw
namespace Rw
open PySem PySem.Spec PyProof.Rows L2
theorem mask_odd2 {m : Nat} (h : Mask2 m) (b : 7 ≤ m) : m % 2 = 1 := by
  obtain ⟨e, he⟩ := h
  cases e with
  | zero => simp at he; omega
  | succ e => rw [Nat.pow_succ] at he; omega
/-! ### how large a table is laid -/
theorem above_go (n : Nat) : ∀ (f size : Nat), (∃ e, size = 2 ^ e) → n < size * 2 ^ f → (∃ e, SetTable.sizeAbove.go n f size = 2 ^ e) ∧ n < SetTable.sizeAbove.go n f size ∧ (SetTable.sizeAbove.go n f size = size ∨ SetTable.sizeAbove.go n f size ≤ 2 * n)
  | 0, size, p, h => ⟨p, by simpa [SetTable.sizeAbove.go] using h, .inl rfl⟩
  | f + 1, size, ⟨e, p⟩, h => by
    unfold SetTable.sizeAbove.go
    by_cases c : size ≤ n
    · rw [if_pos c]
      obtain ⟨a, b, d⟩ := above_go n f (size * 2) ⟨e + 1, by rw [p, Nat.pow_succ]⟩ (by rw [Nat.mul_assoc, ← Nat.pow_succ']; exact h)
      exact ⟨a, b, .inr (by rcases d with d | d <;> omega)⟩
    · rw [if_neg c]
      exact ⟨⟨e, p⟩, by omega, .inl rfl⟩
theorem above (n : Nat) (h : n < 2 ^ 40) : Mask2 (SetTable.sizeAbove n - 1) ∧ n < SetTable.sizeAbove n ∧ SetTable.sizeAbove n ≤ 2 * n + 8 := by
  obtain ⟨⟨e, a⟩, b, c⟩ := above_go n 64 8 ⟨3, rfl⟩ (Nat.lt_of_lt_of_le h (by decide))
  have e1 : SetTable.sizeAbove n = SetTable.sizeAbove.go n 64 8 := rfl
  rw [e1]
  refine ⟨⟨e, by rw [← a]; omega⟩, b, by rcases c with c | c <;> omega⟩
/-- a tracked set of pairs of the field -/
structure Wig (P : Program) (w : World) (h : Heap) (a : Addr) (L : List (Addr × List Int)) (es : Array (Int × Value)) (ep : Nat) (t : SetTable) : Prop where
  obj : ∃ o, h.get? a = some o ∧ o.ExactSet ∧ o.data = .set es ep t
  ent : es.toList = rowsOf P w L
  lay : Tab2 t (L.map fun p => thash P w p.2)
  apart : (L.map (·.2)).Nodup
  elt : ∀ p ∈ L, IsT P w h p.2 p.1
  pl : t.plain = true
  ld : w.params.followText "set-order" = true ∨ t.led = true
  free : L.length * 5 < t.mask * 3
  fld : ∀ p ∈ L, InWide p.2
  big : 7 ≤ t.mask
section
variable {P : Program} {w : World} {A : Around} {E : Value → Shared → Prop} {s : Shared} {a : Addr} {L : List (Addr × List Int)} {es : Array (Int × Value)} {ep : Nat} {t : SetTable}
theorem Wig.size {h : Heap} (B : Wig P w h a L es ep t) : es.size = L.length := by
  rw [← Array.length_toList, B.ent, rowsOf, List.length_map]
theorem Wig.fits {h : Heap} (B : Wig P w h a L es ep t) : t.fits es.size = true := by
  have e1 : t.place.size = L.length := by rw [B.lay.num, List.length_map]
  have e2 := B.size
  have r := B.free
  simp only [SetTable.fits, SetTable.fill, B.lay.none', Bool.and_eq_true, beq_iff_eq, decide_eq_true_eq]
  have z : (#[] : Array Nat).size = 0 := rfl
  omega
theorem Wig.at {h : Heap} (B : Wig P w h a L es ep t) {i : Nat} {p : Addr × List Int} (e : L[i]? = some p) : es[i]? = some (thash P w p.2, .ref p.1) := by
  have z : es.toList[i]? = some (thash P w p.2, .ref p.1) := by rw [B.ent, rowsOf, List.getElem?_map, e]; rfl
  rw [← z, Array.getElem?_toList]
theorem Wig.stays {h : Heap} (B : Wig P w h a L es ep t) : ¬ t.gaveWay = true := by
  have o := mask_odd2 B.lay.mask B.big
  simp [SetTable.gaveWay, o]
/-- the search: equal hashes are equal pairs, so one look is all -/
theorem Wig.search (B : Wig P w s.heap a L es ep t) {x : Addr} {k : List Int} (hx : IsT P w s.heap k x) (hk : InWide k) (hu : A.units < cLine) {Q : SetFound → Shared → Prop}
    (yes : k ∈ L.map (·.2) → Q (.there none) s)
    (no : ∀ K, k ∉ L.map (·.2) → way t.mask (thash P w k) K ∉ t.place.toList → (∀ c, c < K → way t.mask (thash P w k) c ∈ t.place.toList) → Q (.free (way t.mask (thash P w k) K) false) s) :
    wpAny (model P w) A (setSearch a (.ref x) (thash P w k) true) Q E s := by
  obtain ⟨o, ho, _, hd⟩ := B.obj
  have r := B.free
  obtain ⟨K, k1, k2, k3⟩ := B.lay.first (h := thash P w k) (by rw [List.length_map]; omega)
  have len : t.place.toList.length = L.length := by rw [Array.length_toList, B.lay.num, List.length_map]
  have key : ∀ {i : Nat} {p : Addr × List Int}, L[i]? = some p → (es[i]?.map (·.1)).getD 0 = thash P w p.2 := fun e => by rw [B.at e]; rfl
  have same : ∀ {i : Nat} {p : Addr × List Int}, L[i]? = some p → (es[i]?.map (·.1)).getD 0 = thash P w k → p.2 = k := fun e h =>
    wide_inj P w (B.fld _ (List.mem_of_getElem? e)) hk ((key e).symm.trans h)
  have go := go_spec t B.lay.up B.lay.none' (fun i => (es[i]?.map (·.1)).getD 0) (thash P w k) (10 * SetTable.turns t.mask) K (runAt t.mask (SetTable.bits (thash P w k) % (t.mask + 1)) (SetTable.bits (thash P w k))) rfl k1 k3 k2
  have met : t.probe (fun i => (es[i]?.map (·.1)).getD 0) (thash P w k) ((none : Option SetTable.Probe).getD (t.probeStart (thash P w k))) = SetTable.probe.go t (fun i => (es[i]?.map (·.1)).getD 0) (thash P w k) (10 * SetTable.turns t.mask) (runAt t.mask (SetTable.bits (thash P w k) % (t.mask + 1)) (SetTable.bits (thash P w k))) := rfl
  rw [setSearch, show (100000 : Nat) = 99999 + 1 from rfl, setSearchFrom_succ]
  refine wpAny_bind (wpAny_setState_of ho hd B.fits ?_)
  dsimp only
  refine wp_if_neg B.stays ?_
  try refine wpAny_bind (wpAny_pure ?_)
  rw [met]
  rcases go with ⟨q, i, _, q2, q3, _, q5⟩ | ⟨n1, n2⟩
  · have hi : i < L.length := by rw [← len]; exact (List.getElem?_eq_some_iff.mp q2).1
    obtain ⟨p, hp⟩ : ∃ p, L[i]? = some p := ⟨_, List.getElem?_eq_getElem hi⟩
    have e := same hp q3
    have hm := List.mem_of_getElem? hp
    rw [q5]
    dsimp only
    have found : wpAny (model P w) A (searchRest a (.ref x) (thash P w k) true 99999 es t (nth t.mask (runAt t.mask (SetTable.bits (thash P w k) % (t.mask + 1)) (SetTable.bits (thash P w k))) q).j i (nth t.mask (runAt t.mask (SetTable.bits (thash P w k) % (t.mask + 1)) (SetTable.bits (thash P w k))) (q + 1))) Q E s := by
      rw [searchRest, B.at hp]
      dsimp only
      refine wpAny_bind (wpAny_holding (wpAny_eqBool_tuple hu (B.elt p hm) hx (wpAny_bind (wpAny_setState_of ho hd B.fits ?_))))
      dsimp only
      exact wp_if_pos (by simp [e]) (wpAny_pure (yes (List.mem_map.mpr ⟨p, hm, e⟩)))
    cases hl : t.led with
    | true => exact wp_if_neg (by simp) found
    | false =>
      refine wp_if_pos (by simp) (wpAny_bind (seen_tup hx (fun y hy => ?_) (wp_if_neg (by decide) found)))
      obtain ⟨u, hu1, hu2⟩ := List.mem_map.mp hy
      have hu3 : u ∈ es.toList := by
        have := (Array.mem_filter.mp (Array.mem_toList_iff.mp hu1)).1
        exact Array.mem_toList_iff.mpr this
      rw [B.ent] at hu3
      obtain ⟨p2, hp2, e2⟩ := List.mem_map.mp hu3
      exact ⟨p2.2, p2.1, by rw [← hu2, ← e2], B.elt p2 hp2⟩
  · rw [n2]
    dsimp only
    refine wpAny_pure (no K (fun m => ?_) k2 k3)
    obtain ⟨p, hp, e⟩ := List.mem_map.mp m
    obtain ⟨i, hi, e0⟩ := List.getElem_of_mem hp
    have hp' : L[i]? = some p := by rw [List.getElem?_eq_getElem hi, e0]
    obtain ⟨j, hj⟩ : ∃ j, t.place.toList[i]? = some j := ⟨_, List.getElem?_eq_getElem (by rw [len]; exact hi)⟩
    obtain ⟨c, c1, c2⟩ := B.lay.before k2 (h := thash P w k) (i := i) (by rw [List.getElem?_map, hp', ← e]; rfl) hj
    exact n1 c i c1 (by rw [hj, ← c2]) (by rw [key hp', e])
end
end Rw
namespace Rw
open PySem PySem.Spec PyProof.Rows L2
theorem wide_len : wide.length = 3200 := by decide +kernel
theorem inwide_few {ks : List (List Int)} (nd : ks.Nodup) (h : ∀ k ∈ ks, InWide k) : ks.length ≤ 3200 := by
  have z : ((ks.map fun k => (k.getD 0 0, k.getD 1 0)) : List (Int × Int)).Nodup := by
    refine List.pairwise_map.mpr (List.Pairwise.imp_of_mem (fun {a b} ha hb ne e => ne ?_) nd)
    obtain ⟨x, y, rfl, _⟩ := h a ha
    obtain ⟨x', y', rfl, _⟩ := h b hb
    have e1 : x = x' := congrArg Prod.fst e
    have e2 : y = y' := congrArg Prod.snd e
    rw [e1, e2]
  have c := nodup_sub _ wide z fun p hp => by
    obtain ⟨k, hk, rfl⟩ := List.mem_map.mp hp
    obtain ⟨x, y, rfl, a1, a2, a3, a4⟩ := h k hk
    exact wide_mem a1 a2 a3 a4
  rw [List.length_map, wide_len] at c
  exact c
section
variable {P : Program} {w : World} {A : Around} {E : Value → Shared → Prop} {s : Shared} {a : Addr} {L : List (Addr × List Int)} {es : Array (Int × Value)} {ep : Nat} {t : SetTable}
/-- a table that has become too full, laid anew -/
theorem Wig.relay {o : Obj} (ho : s.heap.get? a = some o) (hex : o.ExactSet) (hd : o.data = .set es ep t) (ent : es.toList = rowsOf P w L) (sz : t.place.size = es.size) (dm : t.dummies = #[]) (fit : es.size ≤ t.mask)
    (apart : (L.map (·.2)).Nodup) (elt : ∀ p ∈ L, IsT P w s.heap p.2 p.1) (pl : t.plain = true) (ld : w.params.followText "set-order" = true ∨ t.led = true) (fld : ∀ p ∈ L, InWide p.2) (some' : 2 ≤ L.length) (few : L.length ≤ 3200) {Q : Unit → Shared → Prop}
    (fin : ∀ h' L' es' ep' t', Heap.SameBut a s.heap h' → Wig P w h' a L' es' ep' t' → L'.Perm L → Q () { s with heap := h' }) : wpAny (model P w) A (setRelay a (SetTable.grown L.length)) Q E s := by
  have n : es.size = L.length := by rw [← Array.length_toList, ent, rowsOf, List.length_map]
  have gr : SetTable.grown L.length = L.length * 4 := by rw [SetTable.grown, if_neg (by omega)]
  obtain ⟨m2, gt, le⟩ := above (L.length * 4) (by omega)
  rw [gr]
  obtain ⟨t', order, e, perm, T, em, el, epl⟩ := Tab2.relaid t (hs := es.map (·.1)) (wanted := L.length * 4) rfl m2 (by rw [Array.size_map, n]; omega)
  rw [Array.size_map, n] at perm
  obtain ⟨L2, q1, q2, q3⟩ := order_rows L es order ent perm
  rw [← q3] at T
  have n2 : (order.filterMap (es[·]?)).size = es.size := by rw [← Array.length_toList, q1, rowsOf, List.length_map, q2.length_eq, n]
  rw [setRelay_eq]
  refine wpAny_bind (wpAny_setState_of ho hd (by simp only [SetTable.fits, SetTable.fill, dm, Bool.and_eq_true, beq_iff_eq, decide_eq_true_eq]; have z : (#[] : Array Nat).size = 0 := rfl; omega) ?_)
  dsimp only
  refine wp_if_neg (by rw [sizeLine_eq]; omega) ?_
  try refine wpAny_bind (wpAny_pure ?_)
  rw [e]
  dsimp only
  refine wpAny_bind (wp_if_neg (by rw [n2]; simp) ?_)
  try refine wpAny_bind (wpAny_pure ?_)
  refine wpAny_pure ?_
  dsimp only
  have sb : Heap.SameBut a s.heap (s.heap.update a (Obj.putSet (order.filterMap (es[·]?)) t')) := Heap.SameBut.update ..
  refine wpAny_storeSet_of ho hd (fin _ L2 _ (ep + 1) t' sb ⟨⟨_, store_at ho hd, hex, rfl⟩, q1, T, (q2.map (·.2)).nodup_iff.mpr apart, fun p hp => isT_same (elt p (q2.mem_iff.mp hp)) ho hd sb, epl.trans pl, by rw [el]; exact ld, by rw [q2.length_eq, em]; omega, fun p hp => fld p (q2.mem_iff.mp hp), by rw [em]; omega⟩ q2) (by rw [n2, n, sizeLine_eq]; omega)
end
end Rw
namespace Rw
open PySem PySem.Spec PyProof.Rows L2
section
variable {P : Program} {w : World} {A : Around} {E : Value → Shared → Prop} {s : Shared} {a : Addr} {L : List (Addr × List Int)} {es : Array (Int × Value)} {ep : Nat} {t : SetTable}
/-- one pair more -/
theorem Wig.add (B : Wig P w s.heap a L es ep t) {x : Addr} {k : List Int} (hx : IsT P w s.heap k x) (hk : InWide k) (hu : A.units < cLine) {Q : Bool → Shared → Prop}
    (then' : ∀ b h' L' es' ep' t', Heap.SameBut a s.heap h' → Wig P w h' a L' es' ep' t' → (k ∈ L.map (·.2) → L' = L) → (k ∉ L.map (·.2) → L'.Perm ((x, k) :: L)) → Q b { s with heap := h' }) :
    wpAny (model P w) A (setAddHashed a (.ref x) (thash P w k)) Q E s := by
  have r := B.free
  obtain ⟨o, ho, hex, hd⟩ := B.obj
  rw [setAddHashed]
  refine wpAny_holding ?_
  rw [show (100000 : Nat) = 99999 + 1 from rfl, setAddHashedIn_succ]
  refine wpAny_bind (wpAny_setState_of ho hd B.fits ?_)
  dsimp only
  refine wp_if_neg (by simp [byScan, Value.scannable]) (wpAny_bind (B.search hx hk hu (fun m => ?_) fun K m k2 k3 => ?_))
  · exact wpAny_pure (then' false s.heap L es ep t (Heap.SameBut.refl a s.heap) B (fun _ => rfl) fun z => absurd m z)
  · dsimp only
    refine wpAny_bind (wpAny_setState_of ho hd B.fits ?_)
    dsimp only
    obtain ⟨p1, p2, p3, p4, p5, p6, p9⟩ := B.lay.put k2 k3
    have pl1 : (t.put (way t.mask (thash P w k) K)).1.plain = true := p6.trans B.pl
    have ld1 : w.params.followText "set-order" = true ∨ (t.put (way t.mask (thash P w k) K)).1.led = true := by rw [p5]; exact B.ld
    have bound : L.length + 1 ≤ 3200 := by
      have nd : (k :: L.map (·.2)).Nodup := List.nodup_cons.mpr ⟨m, B.apart⟩
      have := inwide_few nd fun q hq => by
        rcases List.mem_cons.mp hq with e | hq
        · rw [e]; exact hk
        · obtain ⟨p, hp, rfl⟩ := List.mem_map.mp hq
          exact B.fld p hp
      rw [List.length_cons, List.length_map] at this
      exact this
    cases hput : t.put (way t.mask (thash P w k) K) with
    | mk t1 pos =>
      rw [hput] at p1 p3 p4 p9 pl1 ld1
      dsimp only at p1 p3 p4 p9 pl1 ld1 ⊢
      rw [← p1] at p2 p3
      -- the rows with the new one at its place
      have perm : (L.take pos ++ (x, k) :: L.drop pos).Perm ((x, k) :: L) := put_perm L pos (x, k)
      have num : (L.take pos ++ (x, k) :: L.drop pos).length = L.length + 1 := by rw [perm.length_eq, List.length_cons]
      have ent1 : (SetTable.insertAt es pos (thash P w k, Value.ref x)).toList = rowsOf P w (L.take pos ++ (x, k) :: L.drop pos) := by
        rw [rows_put, ← B.ent]; exact SetTable.toList_insertAt ..
      have lay1 : Tab2 t1 ((L.take pos ++ (x, k) :: L.drop pos).map fun p => thash P w p.2) := by
        rw [List.map_append, List.map_cons, List.map_take, List.map_drop]; exact p3
      have apart1 : ((L.take pos ++ (x, k) :: L.drop pos).map (·.2)).Nodup := (perm.map (·.2)).nodup_iff.mpr (List.nodup_cons.mpr ⟨m, B.apart⟩)
      have size1 : (SetTable.insertAt es pos (thash P w k, Value.ref x)).size = L.length + 1 := by
        rw [← Array.length_toList, ent1, rowsOf, List.length_map, num]
      revert perm num ent1 lay1 apart1 size1
      generalize L.take pos ++ (x, k) :: L.drop pos = L1
      generalize SetTable.insertAt es pos (thash P w k, Value.ref x) = es1
      intro perm num ent1 lay1 apart1 size1
      have sb : Heap.SameBut a s.heap (s.heap.update a (Obj.putSet es1 t1)) := Heap.SameBut.update ..
      have ho1 := store_at (es' := es1) (t' := t1) ho hd
      have elt1 : ∀ p ∈ L1, IsT P w (s.heap.update a (Obj.putSet es1 t1)) p.2 p.1 := fun p hp => by
        rcases List.mem_cons.mp (perm.mem_iff.mp hp) with e | hp
        · rw [e]; exact isT_same hx ho hd sb
        · exact isT_same (B.elt p hp) ho hd sb
      have fld1 : ∀ p ∈ L1, InWide p.2 := fun p hp => by
        rcases List.mem_cons.mp (perm.mem_iff.mp hp) with e | hp
        · rw [e]; exact hk
        · exact B.fld p hp
      refine wp_if_pos pl1 (wpAny_bind (hashBy_tup hx ?_))
      simp only [if_true]
      refine wpAny_bind (wpAny_storeSet_of ho hd ?_ (by rw [size1, sizeLine_eq]; omega))
      have fullIs : t1.tooFull = decide ((L.length + 1) * 5 ≥ t.mask * 3) := by simp only [SetTable.tooFull, p9, p4, List.length_map]
      by_cases full : t1.tooFull = true
      · refine wp_if_pos (by simp [full]) (wpAny_bind ?_)
        rw [B.size, ← num]
        have z : (L.length + 1) * 5 ≥ t.mask * 3 := by rw [fullIs] at full; exact of_decide_eq_true full
        have b7 := B.big
        have fr := B.free
        refine Wig.relay (s := { s with heap := s.heap.update a (Obj.putSet es1 t1) }) ho1 hex rfl ent1 (by rw [lay1.num, List.length_map, num, size1]) lay1.none' (by rw [size1, p4]; omega) apart1 elt1 pl1 ld1 fld1 (by rw [num]; omega) (by rw [num]; exact bound) fun h' L' es' ep' t' sb2 B2 pm2 => ?_
        exact wpAny_pure (then' true h' L' es' ep' t' (sb.trans sb2) B2 (fun z => absurd z m) fun _ => pm2.trans perm)
      · refine wp_if_neg (by simp [full]) (wpAny_pure ?_)
        refine then' true _ L1 es1 (ep + 1) t1 sb ⟨⟨_, ho1, hex, rfl⟩, ent1, lay1, apart1, elt1, pl1, ld1, ?_, fld1, by rw [p4]; exact B.big⟩ (fun z => absurd z m) fun _ => perm
        rw [fullIs, decide_eq_true_eq] at full
        rw [num, p4]
        omega
end
end Rw
namespace Rw
open PySem PySem.Spec PyProof.Rows L2
section
variable {P : Program} {w : World} {A : Around} {E : Value → Shared → Prop} {s : Shared}
theorem Wig.held {h h' : Heap} {a : Addr} {L : List (Addr × List Int)} {es : Array (Int × Value)} {ep : Nat} {t : SetTable} (B : Wig P w h a L es ep t) (ha : ∀ o, h.get? a = some o → h'.get? a = some o) (ht : ∀ p ∈ L, IsT P w h' p.2 p.1) : Wig P w h' a L es ep t := by
  obtain ⟨o, e, z⟩ := B.obj
  exact ⟨⟨o, ha o e, z⟩, B.ent, B.lay, B.apart, ht, B.pl, B.ld, B.free, B.fld, B.big⟩
theorem Wig.fresh {h : Heap} {a : Addr} (e : h.get? a = some { cls := .type "set", dict := none, data := .set #[] 0 (.fresh 0 0 (!w.params.followText "set-order")) }) : Wig P w h a [] #[] 0 (.fresh 0 0 (!w.params.followText "set-order")) :=
  ⟨⟨_, e, ⟨rfl, rfl, rfl⟩, rfl⟩, rfl, ⟨List.Pairwise.nil, rfl, rfl, ⟨3, rfl⟩, fun x hx => absurd hx (by simp [SetTable.fresh]), fun i h j hi => absurd hi (by simp)⟩, List.nodup_nil, fun p hp => absurd hp (by simp), rfl, (setTR_fresh (P := P) e).led, by show 0 * 5 < 7 * 3; decide, fun p hp => absurd hp (by simp), Nat.le_refl _⟩
/-- all items of a walk go into the set -/
theorem Wig.loop {I : Addr} {fp wr : List Addr} {G : Array GenState → Array GenState → Prop} {n : Nat} {Pv : Nat → Value → Prop} {St : Nat → Shared → Prop} {R : Result → Shared → Prop} (W : WalksS P w A.in1 I fp wr G n Pv St) {S : Addr} (out : S ∉ fp)
    {ks : List (Addr × List Int)} (hn : n = ks.length) (val : ∀ i v, Pv i v → ∃ p, ks[i]? = some p ∧ v = .ref p.1) {h0 : Heap} (tup : ∀ p ∈ ks, IsT P w h0 p.2 p.1) (fld : ∀ p ∈ ks, InWide p.2) (S0 : h0.get? S = none) (w0 : ∀ b ∈ wr, h0.get? b = none) (hu : A.in1.units < cLine) :
    ∀ (left i : Nat) (s : Shared), i + left = n → St i s → (∀ b o, h0.get? b = some o → s.heap.get? b = some o) → ∀ (L : List (Addr × List Int)) (es : Array (Int × Value)) (ep : Nat) (t : SetTable), Wig P w s.heap S L es ep t → Got ks i L →
      (∀ s' L es ep t, Moved (S :: wr) G s s' → Wig P w s'.heap S L es ep t → Got ks n L → (∀ b o, h0.get? b = some o → s'.heap.get? b = some o) → R (.ok (.ret .none)) s') →
      codeAny (model P w) A (.builtin "set.update.loop" ⟨[.ref S, .ref I], []⟩) R s := by
  have off : S ∉ wr := fun z => out (W.sub _ z)
  have wide : ∀ b ∈ wr, b ∈ S :: wr := fun b z => List.mem_cons_of_mem _ z
  have keeps : ∀ {s s' : Shared}, Moved wr G s s' → (∀ b o, h0.get? b = some o → s.heap.get? b = some o) → ∀ b o, h0.get? b = some o → s'.heap.get? b = some o := fun mv old b o e =>
    mv.heap b o (fun z => by rw [w0 b z] at e; cases e) (old b o e)
  intro left
  induction left with
  | zero =>
    intro i s hi st old L es ep t B g fin
    have e : i = n := by omega
    refine codeAny_builtin F.entry_set_update_loop ?_
    rw [Around.under_plainId F.plain_set_update_loop]
    show wpAny (model P w) A.in1 (pyNext (.ref I) >>= _) _ _ s
    refine wpAny_bind (W.done s _ _ (e ▸ st) fun s' mv => wpAny_pure (fin s' L es ep t (mv.mono wide) (B.held (fun o z => mv.heap S o off z) fun p hp => isT_keep (tup p ?_) (keeps mv old)) (e ▸ g) (keeps mv old)))
    exact List.mem_of_mem_take (g.sub p hp)
  | succ left ih =>
    intro i s hi st old L es ep t B g fin
    refine codeAny_builtin F.entry_set_update_loop ?_
    rw [Around.under_plainId F.plain_set_update_loop]
    show wpAny (model P w) A.in1 (pyNext (.ref I) >>= _) _ _ s
    refine wpAny_bind (W.item i s _ _ (by omega) st fun v s' pv st' mv => ?_)
    obtain ⟨p, hp, rfl⟩ := val i v pv
    have pm := List.mem_of_getElem? hp
    have old' := keeps mv old
    have B' : Wig P w s'.heap S L es ep t := B.held (fun o z => mv.heap S o off z) fun q hq => isT_keep (tup q (List.mem_of_mem_take (g.sub q hq))) old'
    have hx : IsT P w s'.heap p.2 p.1 := isT_keep (tup p pm) old'
    show wpAny (model P w) A.in1 (holding [Value.ref p.1] (setAdd S (.ref p.1)) >>= _) _ _ s'
    rw [setAdd]
    refine wpAny_bind (wpAny_holding (wpAny_holding (wpAny_bind (wpAny_pyHash_tuple hu hx ?_))))
    refine Wig.add (s := { s' with toks := s'.toks + (p.2.length + 1) }) B' hx (fld p pm) hu fun b h' L' es' ep' t' sb B2 c1 c2 => wpAny_pure ⟨plainId_quiet F.plain_set_update_loop _, ?_⟩
    have g' : Got ks (i + 1) L' := by
      by_cases c : p.2 ∈ L.map (·.2)
      · rw [c1 c]; exact g.same hp c
      · exact g.more hp (c2 c)
    have apartS : ∀ b, b ≠ S → h'.get? b = s'.heap.get? b := fun b z => sb.2 b z
    refine ih (i + 1) _ (by omega) (W.frame _ s' _ _ st' (Nat.le_add_right _ _) fun b hb o e => (apartS b fun z => out (z ▸ hb)).trans e) (fun b o e => (apartS b fun z => by rw [z, S0] at e; cases e).trans (old' b o e)) L' es' ep' t' B2 g' fun s2 L2 es2 ep2 t2 mv2 B3 g3 old3 => ?_
    refine fin s2 L2 es2 ep2 t2 (Moved.trans W.gtrans ((mv.mono wide).then_heap (Nat.le_add_right _ _) fun b o hb e => (apartS b fun z => hb (z ▸ List.mem_cons_self)).trans e) mv2) B3 g3 old3
end
section
variable {P : Program} {w : World} {A : Around} {E : Value → Shared → Prop} {s : Shared}
set_option maxHeartbeats 3200000 in
/-- set(xs), xs a list of pairs of the field -/
theorem call_setWide {l : Addr} {items : Array Value} {ks : List (Addr × List Int)} {Q : Value → Shared → Prop} (calm : A.handled = none) (isl : s.heap.IsList l items) (eq : items.toList = ks.map fun p => Value.ref p.1)
    (tup : ∀ p ∈ ks, IsT P w s.heap p.2 p.1) (fld : ∀ p ∈ ks, InWide p.2) (hu : A.units + 3 < cLine)
    (fin : ∀ (h' : Heap) (tk : Nat) L es ep t, Wig P w h' s.heap.objs.size L es ep t → Got ks ks.length L → (∀ b o, s.heap.get? b = some o → h'.get? b = some o) → Q (.ref s.heap.objs.size) { s with heap := h', toks := tk }) :
    wpAny (model P w) A (call (.type "set") [.ref l]) Q E s := by
  have num : items.size = ks.length := by rw [← Array.length_toList, eq, List.length_map]
  obtain ⟨c0, tl0, hmro⟩ := F.called_set.mro
  have hmade := F.called_set.made
  have hsub := F.called_set.sub
  have hnt := F.called_set.notType
  have hcc := F.called_set.canCreate
  have htc := F.typeCall_set_1 (.ref l)
  refine wpAny_call (codeAny_of_tree (?_ : wpAny _ _ (callAny (.type "set") _) _ _ _))
  refine wpAny_pure ⟨Code.quiet_builtin _ (by decide +kernel), codeAny_builtin F.entry_type_call (?_)⟩
  rw [Around.under_plain (weight_type_call_type "set" [.ref l] []) rfl]
  repeat (any_goals (first | assumption | wp_step))
  refine codeAny_mono (code_set_led1 (.ref l) (E := E) (Q₁ := fun u s1 => u = .ref s.heap.objs.size ∧ s1 = { s with heap := s.heap.push (setObj w) }) ⟨rfl, rfl⟩) fun r s1 hr => ?_
  rcases r with e | fl
  · exact hr
  cases fl with
  | next => exact hr.elim
  | brk => exact hr.elim
  | cont => exact hr.elim
  | ret u =>
    obtain ⟨rfl, rfl⟩ := hr
    have new : (s.heap.push (setObj w)).get? s.heap.objs.size = some (setObj w) := Heap.get?_push_size _ rfl
    have isS : Shared.TypeIs { s with heap := s.heap.push (setObj w) } (.ref s.heap.objs.size) "set" := ⟨_, new, rfl⟩
    have hli := F.called_set.init.lookup
    have hbi := F.called_set.init.bind (.ref s.heap.objs.size)
    repeat (any_goals (first | assumption | wp_step))
    refine codeAny_mono (codeAny_call_builtin (R := wants (fun u s2 => u = .none ∧ ∃ h' tk L es ep t, s2 = { s with heap := h', toks := tk } ∧ Wig P w h' s.heap.objs.size L es ep t ∧ Got ks ks.length L ∧ (∀ b o, s.heap.get? b = some o → h'.get? b = some o)) E)
      F.called_set.init.plain F.entry_set_init (check_set_init_1 isS ?_)) fun r2 s2 hr2 => ?_
    · -- set.__init__ goes through the list
      obtain ⟨lo, hlo, lc, n, ld⟩ := isl
      obtain ⟨lcls, ldict, ldata, lslots⟩ := lo
      simp only at lc ld
      subst lc ld
      have hls := F.sub_list_set
      have hlf := F.sub_list_frozenset
      have hne : (Value.type "list" == Value.type "dict") = false := by decide
      have hol : (s.heap.push (setObj w)).get? l = some { cls := .type "list", dict := ldict, data := .seq items n, slots := lslots } := Heap.get?_push_of_some _ hlo
      have isl1 : (s.heap.push (setObj w)).IsList l items := ⟨_, hol, rfl, n, rfl⟩
      unfold Builtin.«set.__init__» noKeywords Builtin.Frozenset.updateFrom
      generalize hIt : pyIter = It
      wp_walk
      subst hIt
      refine wpAny_pyIter_list isl1 (wpAny_bind (wpAny_runValue ?_))
      have small : l < s.heap.objs.size := Heap.lt_size hlo
      have calm3 : A.in1.in1.in1.handled = none := by simp [calm]
      have sz : (s.heap.push (setObj w)).objs.size = s.heap.objs.size + 1 := Heap.size_push ..
      have none_at : ∀ b, s.heap.objs.size ≤ b → s.heap.get? b = none := fun b hb => by
        cases q : s.heap.get? b with
        | none => rfl
        | some o => exact absurd (Nat.lt_of_lt_of_le (Heap.lt_size q) hb) (Nat.lt_irrefl _)
      refine Wig.loop (ks := ks) (h0 := s.heap) ((Walks.list calm3 _ l (by rw [sz]; exact Nat.ne_of_lt (Nat.lt_succ_of_lt small)) items).toS) (S := s.heap.objs.size) (fun z => by rw [sz] at z; rcases List.mem_cons.mp z with z | z; exact Nat.ne_of_lt (Nat.lt_succ_self _) z; exact Nat.ne_of_gt small (List.mem_singleton.mp z)) num (fun i v hv => ?_) tup fld (none_at _ (Nat.le_refl _)) (fun b hb => none_at b (by rw [List.mem_singleton.mp hb, sz]; exact Nat.le_succ _)) hu items.size 0 _ (Nat.zero_add _)
        ⟨⟨_, Heap.get?_push_size _ rfl, rfl, rfl⟩, isl1.push _⟩ (fun b o e => Heap.get?_push_of_some _ (Heap.get?_push_of_some _ e)) [] #[] 0 _ (Wig.fresh (Heap.get?_push_of_some _ new)) (Got.zero ks) fun s' L es ep t mv B g old => ?_
      · have q : items.toList[i]? = some v := by rw [Array.getElem?_toList]; exact hv
        rw [eq, List.getElem?_map] at q
        cases hq : ks[i]? with
        | none => rw [hq] at q; cases q
        | some p => rw [hq] at q; exact ⟨p, rfl, (Option.some.inj q).symm⟩
      · obtain ⟨h', g2, d', tk', os'⟩ := s'
        have eg : g2 = s.gens := mv.gens
        have ed : d' = s.drawn := mv.drawn
        have eo : os' = s.os := mv.os
        subst eg ed eo
        rw [num] at g
        show wpAny _ _ _ _ _ _
        refine wpAny_pure (?_ : wpAny _ _ (ret Value.none) _ _ _)
        exact wpAny_pure ⟨rfl, h', tk', L, es, ep, t, rfl, B, g, old⟩
    · rcases r2 with e | fl2
      · exact hr2
      cases fl2 with
      | next => exact hr2.elim
      | brk => exact hr2.elim
      | cont => exact hr2.elim
      | ret u =>
        obtain ⟨rfl, h', tk, L, es, ep, t, rfl, B, g, old⟩ := hr2
        repeat (any_goals (first | assumption | wp_step))
        exact fin _ _ _ _ _ _ B g old
end
theorem Wig.few {P : Program} {w : World} {h : Heap} {a : Addr} {L : List (Addr × List Int)} {es : Array (Int × Value)} {ep : Nat} {t : SetTable} (B : Wig P w h a L es ep t) : L.length ≤ 3200 := by
  have := inwide_few B.apart fun k hk => by
    obtain ⟨p, hp, rfl⟩ := List.mem_map.mp hk
    exact B.fld p hp
  rw [List.length_map] at this
  exact this
section
variable {P : Program} {w : World} {A : Around} {E : Value → Shared → Prop} {s : Shared}
/-- sorted(set) -/
theorem sorted_wide {a : Addr} {L : List (Addr × List Int)} {es : Array (Int × Value)} {ep : Nat} {t : SetTable} {k : Value → Int × Int} {Q : Value → Shared → Prop} (B : Wig P w s.heap a L es ep t) (calm : A.handled = none)
    (pairs : ∀ p ∈ L, Srt.IsPair s.heap (.ref p.1) (k (.ref p.1)).1 (k (.ref p.1)).2)
    (fin : ∀ (s' : Shared) (h1 : Heap) (e : Addr) (vs out : List Value), SrtO.Srtd (fun v u => SrtO.lexB (k v) (k u)) out → SrtO.Stb (fun v u => SrtO.lexB (k v) (k u)) out vs → vs.Perm (L.map fun p => Value.ref p.1) → s'.gens = s.gens → s'.os = s.os →
      (∀ b o, s.heap.get? b = some o → s'.heap.get? b = some o) → s.heap.objs.size ≤ e → (∃ n, s'.heap.get? e = some (seqObj "list" out.toArray n)) → Q (.ref e) s') :
    wpAny (model P w) A (call (.builtin "sorted") [.ref a]) Q E s := by
  obtain ⟨o, ho, hex, hd⟩ := B.obj
  have few : L.length ≤ 3200 := B.few
  have size := B.size
  refine Calls.call_function_entry kind_sorted plain_sorted entry_sorted (args_sorted1 _) (?_ : wpAny _ _ (Builtin.«sorted» _) _ _ _)
  unfold Builtin.«sorted»
  refine wpAny_bind (m := checkCount "sorted" 1 1 _) (wpAny_pure (wpAny_bind (collect_set (A := A.in1) calm ⟨o, ho, hex.1, hd⟩ B.fits (by rw [size]; unfold scanBound; omega) B.lay.up B.ld fun s1 vs k1 le g1 o1 pm => ?_)))
  have ev : es.toList.map (·.2) = L.map fun p => Value.ref p.1 := by rw [B.ent, rowsOf, List.map_map]; rfl
  rw [ev] at pm
  have num : vs.length ≤ 3200 := by rw [pm.length_eq, List.length_map]; exact few
  have fit : vs.length ≤ sizeLine := by rw [sizeLine_eq]; omega
  refine wpAny_bind (wpAny_newList (?_ : wpAny _ _ _ _ _ { s1 with heap := s1.heap.push (seqObj "list" vs.toArray 0) }) fit)
  have lst : (s1.heap.push (seqObj "list" vs.toArray 0)).get? s1.heap.objs.size = some (seqObj "list" vs.toArray 0) := Heap.get?_push_size _ rfl
  have old : ∀ b o, s.heap.get? b = some o → (s1.heap.push (seqObj "list" vs.toArray 0)).get? b = some o := fun b o q => Heap.get?_push_of_some _ (k1 b o q)
  refine wpAny_bind (wpAny_holding (wpAny_call_entry slot_list_sort ⟨_, lst, rfl⟩ entry_list_sort
    (SrtO.list_sort_ord (s := { s1 with heap := s1.heap.push (seqObj "list" vs.toArray 0) }) (SrtO.swo_lex k) lst fit (fun h2 => ?_) fun out a1 a2 => ⟨_, rfl, ?_⟩) (args_list_sort _)))
  · refine SrtO.pairs_sortableO (s := { s1 with heap := s1.heap.push (seqObj "list" vs.toArray 0) }) (by omega) (fun v hm => ?_) fun o e' => ?_
    · obtain ⟨p, hp, rfl⟩ := List.mem_map.mp (pm.mem_iff.mp hm)
      exact (pairs p hp).keeps fun b o e _ => old b o e
    · cases e'.symm.trans lst
      exact fun c => absurd (Value.type.inj c) (by decide)
  · have at' := sortedHeap_at (vs := vs) (out := out.toArray) lst
    refine wpAny_pure ⟨_, rfl, fin { s1 with heap := sortedHeap (s1.heap.push (seqObj "list" vs.toArray 0)) s1.heap.objs.size vs out.toArray } s1.heap s1.heap.objs.size vs out a1 a2 pm g1 o1 (fun b o q => ?_) le at'⟩
    have lt := Heap.lt_size (k1 b o q)
    rw [sortedHeap_old (Nat.ne_of_lt lt) (by rw [size_push']; exact Nat.lt_succ_of_lt lt)]
    exact old b o q
end
/-- the set at a without its tuples -/
structure BareW (P : Program) (w : World) (h : Heap) (a : Addr) (L : List (Addr × List Int)) : Prop where
  ex : ∃ (es : Array (Int × Value)) (ep : Nat) (t : SetTable) (h0 : Heap), Wig P w h0 a L es ep t ∧ ∃ o, h.get? a = some o ∧ o.ExactSet ∧ o.data = .set es ep t
theorem BareW.of {P : Program} {w : World} {h : Heap} {a : Addr} {L : List (Addr × List Int)} {es : Array (Int × Value)} {ep : Nat} {t : SetTable} (B : Wig P w h a L es ep t) : BareW P w h a L := ⟨es, ep, t, h, B, B.obj⟩
theorem BareW.full {P : Program} {w : World} {h : Heap} {a : Addr} {L : List (Addr × List Int)} (R : BareW P w h a L) (tup : ∀ p ∈ L, IsT P w h p.2 p.1) : ∃ es ep t, Wig P w h a L es ep t := by
  obtain ⟨es, ep, t, h0, B, o⟩ := R.ex
  exact ⟨es, ep, t, o, B.ent, B.lay, B.apart, tup, B.pl, B.ld, B.free, B.fld, B.big⟩
def WideO (P : Program) (w : World) (a : Addr) (L : List (Addr × List Int)) : HO := .ext fun h => BareW P w h a L
theorem wideO_new {P : Program} {w : World} {H : Hp} {h : Heap} {a : Addr} {L : List (Addr × List Int)} (R : BareW P w h a L) : ObjOk P w H h a (WideO P w a L) := by
  obtain ⟨es, ep, t, h0, B, o, ho, r⟩ := id R.ex
  refine ⟨R, ⟨o, ho⟩, fun h1 h2 p k => ?_⟩
  obtain ⟨es', ep', t', h0', B', o', ho', r'⟩ := BareW.ex p
  exact ⟨es', ep', t', h0', B', o', k o' ho', r'⟩
section
variable {X : Cx}
def rSetWide (K : PySem.W.Frag) (P : Program) (w : World) : List V → Hp → VK → Prop := fun xs H Q => ∃ (l : Addr) (ks : List (Addr × List Int)), xs = [V.ref l] ∧ SqL K H l (ks.map fun p => V.ref p.1) ∧ (∀ p ∈ ks, SqT K H p.1 (p.2.map V.int)) ∧ (∀ p ∈ ks, InWide p.2) ∧
  ∀ a L, H a = none → (∀ p ∈ L, p ∈ ks) → (∀ p ∈ ks, p.2 ∈ L.map (·.2)) → Q (.ref a) (upd H a (WideO P w a L))
theorem cr_setWide (hc : X.calm = true) (hu : X.A.units + 64 < cLine) : CallR X (.type "set") (rSetWide X.K X.prog X.w) := by
  intro pins s σ H xs us Q I r h
  obtain ⟨l, ks, rfl, hl, tup, fld, q⟩ := h
  rw [Vals.ref1 r]
  obtain ⟨its, rv, pl, _⟩ := I.list hl
  have new : H s.heap.objs.size = none := I.hok.fresh (Nat.le_refl _)
  refine call_setWide (P := X.prog) (w := X.w) (ks := ks) (I.ok.hd hc) pl.isList (by simpa using refs_of_vals rv) (fun p hp => I.isT (tup p hp)) fld (by omega) fun h' tk L es ep t B g old => ?_
  exact ⟨.ref s.heap.objs.size, _, I.laid (t' := tk) old (Nat.le_refl _) (wideO_new (BareW.of B)), rfl, q _ L new (fun p hp => List.mem_of_mem_take (g.sub p hp)) fun p hp => g.all p (by rw [List.take_length]; exact hp)⟩
def rSortWide (P : Program) (w : World) : List V → Hp → VK → Prop := fun vs H Q => ∃ (a : Addr) (L : List (Addr × List Int)), vs = [V.ref a] ∧ H a = some (WideO P w a L) ∧ (∀ p ∈ L, ∃ q : Pt, p.2 = [q.1, q.2] ∧ kPt.is H (.ref p.1) q) ∧
  ∀ (ys : List V) (qs : List Pt) (p : Addr), Paired (kPt.is H) ys qs → qs.Pairwise lt2 → (∀ q : Pt, q ∈ qs ↔ [q.1, q.2] ∈ L.map (·.2)) → (∀ y ∈ ys, ∃ p ∈ L, y = V.ref p.1) → H p = none → Q (.ref p) (upd H p (.lst ys))
theorem cr_sortWide (hc : X.calm = true) : CallR X (.builtin "sorted") (rSortWide X.prog X.w) := by
  intro pins s σ H xs us Q I r h
  obtain ⟨a, L, rfl, ha, pts, q⟩ := h
  rw [Vals.ref1 r]
  have isq : ∀ p ∈ L, SqT X.K H p.1 (p.2.map V.int) := fun p hp => by
    obtain ⟨z, e, t, e', ht⟩ := pts p hp
    cases e'
    rw [e]
    exact SqT.of ht
  have R : BareW X.prog X.w s.heap a L := (I.hok a _ ha).1
  obtain ⟨es, ep, t, B⟩ := R.full fun p hp => I.isT (isq p hp)
  have back : ∀ p ∈ L, kPt.is H (.ref p.1) (ptOf H (backV (.ref p.1))) := fun p hp => by
    obtain ⟨z, _, hz⟩ := pts p hp
    have e : ptOf H (backV (Value.ref p.1)) = z := ptOf_eq hz
    rw [e]; exact hz
  refine sorted_wide (k := fun u => ptOf H (backV u)) B (I.ok.hd hc) (fun p hp => isPair_of I (back p hp)) fun s' h1 e vs out a1 a2 pm g o old le at' => ?_
  have new : H e = none := I.hok.fresh le
  have refs : ∀ u ∈ out, ∃ p ∈ L, u = Value.ref p.1 := fun u hu => by
    obtain ⟨p, hp, e⟩ := List.mem_map.mp (pm.mem_iff.mp (a2.perm.mem_iff.mp hu))
    exact ⟨p, hp, e.symm⟩
  have perm : (out.map backV).Perm (L.map fun p => V.ref p.1) := by
    have z := (a2.perm.trans pm).map backV
    rw [List.map_map] at z
    exact z
  have hpp : Paired (kPt.is H) (L.map fun p => V.ref p.1) (L.map fun p => ptOf H (backV (.ref p.1))) := by
    have z : ∀ M : List (Addr × List Int), (∀ p ∈ M, p ∈ L) → Paired (kPt.is H) (M.map fun p => V.ref p.1) (M.map fun p => ptOf H (backV (.ref p.1))) := by
      intro M
      induction M with
      | nil => exact fun _ => .nil
      | cons p M ih => exact fun h => .cons (back p (h p List.mem_cons_self)) (ih fun q hq => h q (List.mem_cons_of_mem _ hq))
    exact z L fun _ h => h
  have key : ∀ p ∈ L, p.2 = [(ptOf H (backV (.ref p.1))).1, (ptOf H (backV (.ref p.1))).2] := fun p hp => by
    obtain ⟨z, e, hz⟩ := pts p hp
    rw [e, show ptOf H (backV (Value.ref p.1)) = z from ptOf_eq hz]
  have nd : (L.map fun p => ptOf H (backV (.ref p.1))).Nodup := by
    refine List.pairwise_map.mpr (List.Pairwise.imp_of_mem (fun {p q} hp hq ne e => ne ?_) (List.pairwise_map.mp B.apart))
    rw [key p hp, key q hq, e]
  have st : SrtO.Stb (ltP (ptOf H)) (out.map backV) (vs.map backV) := SrtO.Stb.map (ltP_swo (ptOf H)) backV a2
  have hpp2 : Paired (kPt.is H) (vs.map backV) ((vs.map backV).map (ptOf H)) := pr_of_all fun v hv => by
    obtain ⟨u, hu, rfl⟩ := List.mem_map.mp hv
    obtain ⟨p, hp, e⟩ := List.mem_map.mp (pm.mem_iff.mp hu)
    rw [← e]
    exact back p hp
  have pmv : ((vs.map backV).map (ptOf H)).Perm (L.map fun p => ptOf H (backV (.ref p.1))) := by
    have z := (pm.map backV).map (ptOf H)
    rw [List.map_map, List.map_map, List.map_map] at z
    rw [List.map_map]
    exact z
  obtain ⟨qs, b1, b2, b3⟩ := sorted_pts hpp2 (pmv.nodup_iff.mpr nd) (SrtO.srtd_map a1) st
  have memq : ∀ z : Pt, z ∈ qs ↔ [z.1, z.2] ∈ L.map (·.2) := fun z => by
    rw [b2.mem_iff, pmv.mem_iff]
    constructor
    · intro h
      obtain ⟨p, hp, e⟩ := List.mem_map.mp h
      exact List.mem_map.mpr ⟨p, hp, by rw [key p hp, e]⟩
    · intro h
      obtain ⟨p, hp, e⟩ := List.mem_map.mp h
      rw [key p hp] at e
      injection e with e1 e2
      injection e2 with e2 _
      exact List.mem_map.mpr ⟨p, hp, Prod.ext e1 e2⟩
  obtain ⟨n, hob⟩ := at'
  have len : (out.map backV).length ≤ sizeLine := by
    rw [perm.length_eq, List.length_map, sizeLine_eq]
    have := B.few
    omega
  have hv : Vals (out.map backV) out := vals_back fun u hu => by
    obtain ⟨p, _, e⟩ := refs u hu
    exact ⟨p.1, e⟩
  have es' : s' = { s with heap := s'.heap, gens := s'.gens, drawn := s'.drawn, toks := s'.toks } := by
    cases s'; cases s; cases o; rfl
  rw [es']
  have J : Inv X pins σ (upd H e (.lst (out.map backV))) { s with heap := s'.heap, gens := s'.gens, drawn := s'.drawn, toks := s'.toks } :=
    I.call (ch := []) (Un.laid old le new) (I.hok.laid old le ⟨len, out, n, hv, hob⟩) (by rw [g]; exact I.bare) fun _ z => nomatch z
  refine ⟨.ref e, _, J, rfl, q (out.map backV) qs e b1 b3 memq (fun y hy => ?_) new⟩
  obtain ⟨u, hu, rfl⟩ := List.mem_map.mp hy
  obtain ⟨p, hp, e⟩ := refs u hu
  exact ⟨p, hp, by rw [e]; rfl⟩
end
end Rw
set_option maxHeartbeats 2000000
namespace Gx
open PySem PySem.Spec PyProof.Rows L2 GxR Rw
/-! ### any of a generator expression over rows, two captured ints -/
def EltV (prog : Program) (w : World) (scope : Scope) (x y z u1 u2 : Str) (a1 a2 : Int) (elt : Expr) (pb : Rw.Row → Bool) : Prop :=
  ∀ (ce : Env) (B : Around) (E' : Value → Shared → Prop) (r : Rw.Row) (t1 t2 t3 : Tok) (s : Shared) (m : Str → Option Value), ce.scope.kind = .function → ce.scope = scope → (∃ c t, ce.cells.lookup u1 = some c ∧ s.heap.IsCell c (some (.int a1 t))) → (∃ c t, ce.cells.lookup u2 = some c ∧ s.heap.IsCell c (some (.int a2 t))) →
    s.heap.Ns ce.locals m → m x = some (.int r.1 t1) → m y = some (.int r.2.1 t2) → m z = some (.int r.2.2 t3) → wpAny (model prog w) B (eval elt ce) (fun v u => v = .bool (pb r) ∧ Keeps s u) E' s
/-- a name of the def that the generator's scope takes along -/
structure Cap (X : Cx) (scope : Scope) (u : Str) (i : Nat) : Prop where
  slot : X.N[i]? = some u
  vis : Vis X.env.scope u
  cell : X.env.kindOf u = some .cell
  free : (u, NameKind.free) ∈ scope.names
  all : ∀ q ∈ scope.names, q.2 = .free → ∃ c, X.env.cells.lookup q.1 = some c
section
variable {X : Cx} {pins : List (Addr × Obj)} {σ : L2.St} {H : Hp} {s : Shared}
theorem Cap.at {scope : Scope} {u : Str} {i : Nat} {a : Int} (C : Cap X scope u i) (I : Inv X pins σ H s) (v : σ[i]? = some (some (.int a))) : ∃ c t, (cloFrom X.env.cells scope.names []).lookup u = some c ∧ s.heap.IsCell c (some (.int a t)) := by
  obtain ⟨m, _, L⟩ := I.loc
  obtain ⟨w, rw', lk⟩ := L i u _ C.slot v C.vis
  obtain ⟨t, rfl⟩ := rw'
  rcases lk with ⟨k, _⟩ | ⟨_, c, e, hc⟩
  · rw [C.cell] at k; cases k
  · exact ⟨c, t, NdefX.clo_has C.all C.free e, hc⟩
def ReadyV (X : Cx) (pins : List (Addr × Obj)) (σ : L2.St) (H1 : Hp) (P : Addr) (rows : List Rw.Row) (pb : Rw.Row → Bool) (g : Addr) (s5 : Shared) : Prop :=
  ∃ (fp wr : List Addr) (G : Array GenState → Array GenState → Prop) (F : Nat → Value → Prop) (St : Nat → Shared → Prop), WalksS X.prog X.w X.A.in1 g fp wr G rows.length F St ∧ St 0 s5 ∧ (∀ b ∈ fp, b < s5.heap.objs.size) ∧
    (∀ j v, F j v → ∃ r, rows[j]? = some r ∧ v = .bool (pb r)) ∧ ∀ s', Moved wr G s5 s' → ∃ H2, Tabbed P H1 H2 ∧ Inv X pins σ H2 s'
theorem turn3v {prog : Program} {w : World} {ce : Env} {scope : Scope} {x y z : Str} {p1 p2 p3 pt : Pos} {kt : Nat} {elt : Expr} {u1 u2 : Str} {pb : Rw.Row → Bool} {a1 a2 : Int} {fp wr : List Addr} {its : List Value} {rows : List Rw.Row} {h0 : Heap}
    (hk : ce.scope.kind = .function) (hs : ce.scope = scope) (lx : scope.names.lookup x = some .local) (ly : scope.names.lookup y = some .local) (lz : scope.names.lookup z = some .local) (nxy : x ≠ y) (nxz : x ≠ z) (nyz : y ≠ z)
    (hel : EltV prog w scope x y z u1 u2 a1 a2 elt pb) (cap1 : ∃ c t, ce.cells.lookup u1 = some c ∧ h0.IsCell c (some (.int a1 t)) ∧ c ∈ fp ∧ c ∉ wr ∧ c ≠ ce.locals) (cap2 : ∃ c t, ce.cells.lookup u2 = some c ∧ h0.IsCell c (some (.int a2 t)) ∧ c ∈ fp ∧ c ∉ wr ∧ c ≠ ce.locals)
    (hv : ∀ (i : Nat) (v : Value), its[i]? = some v → ∃ (r : Rw.Row) (t : Addr) (t1 t2 t3 : Tok), rows[i]? = some r ∧ v = .ref t ∧ t ∈ fp ∧ t ∉ wr ∧ IsTup h0 t #[.int r.1 t1, .int r.2.1 t2, .int r.2.2 t3]) :
    TurnOk prog w ce (.Tuple [.Name x p1, .Name y p2, .Name z p3] kt pt) elt fp wr (fun i v => its[i]? = some v) (fun i v => ∃ r, rows[i]? = some r ∧ v = .bool (pb r)) h0 := by
  intro B E' i v s m hB hiv hn keep
  obtain ⟨r, t, t1, t2, t3, hr, rfl, tf, tw, o, ho, hc, n, hd⟩ := hv i v hiv
  have ht : IsTup s.heap t #[.int r.1 t1, .int r.2.1 t2, .int r.2.2 t3] := ⟨o, keep t tf tw o ho, hc, n, hd⟩
  have hp : (ce.scope.kind == .class || (ce.scope.kind == .module && ce.locals != ce.globals)) = false := by rw [hk]; rfl
  have kx : ce.kindOf x = some .local := by show ce.scope.names.lookup x = some .local; rw [hs]; exact lx
  have ky : ce.kindOf y = some .local := by show ce.scope.names.lookup y = some .local; rw [hs]; exact ly
  have kz : ce.kindOf z = some .local := by show ce.scope.names.lookup z = some .local; rw [hs]; exact lz
  have hl : ce.locals < s.heap.objs.size := hn.lt
  refine assign_Tuple_tuple hB ht rfl rfl fun h1 x1 => ?_
  show wpAny (model prog w) B (assignInOrder [assign (.Name x p1) ce, assign (.Name y p2) ce, assign (.Name z p3) ce] [.int r.1 t1, .int r.2.1 t2, .int r.2.2 t3]) _ _ _
  have n1 : h1.Ns ce.locals m := hn.at' fun o e => x1 _ o (Nat.ne_of_lt hl) e
  refine assignInOrder_cons (wpAny_assign_Name (wpAny_storeName_local kx n1 (fun h2 n2 b2 => ?_) hp))
  refine assignInOrder_cons (wpAny_assign_Name (wpAny_storeName_local ky n2 (fun h3 n3 b3 => ?_) hp))
  refine assignInOrder_cons (wpAny_assign_Name (wpAny_storeName_local kz n3 (fun h4 n4 b4 => ?_) hp))
  refine assignInOrder_nil ⟨h4, _, _, rfl, fun b o nb e => ?_, n4, fun E2 => ?_⟩
  · exact b4.extBut b o nb (b3.extBut b o nb (b2.extBut b o nb (x1 b o (Nat.ne_of_lt (Heap.lt_size e)) e)))
  · have kept : ∀ {u : Str} {a : Int}, (∃ c t, ce.cells.lookup u = some c ∧ h0.IsCell c (some (.int a t)) ∧ c ∈ fp ∧ c ∉ wr ∧ c ≠ ce.locals) → ∃ c t, ce.cells.lookup u = some c ∧ h4.IsCell c (some (.int a t)) := fun ⟨c, tc, e1, ⟨oc, e2, e3⟩, e4, e5, e6⟩ => by
      have z1 := keep c e4 e5 oc e2
      exact ⟨c, tc, e1, oc, b4.extBut c oc e6 (b3.extBut c oc e6 (b2.extBut c oc e6 (x1 c oc (Nat.ne_of_lt (Heap.lt_size z1)) z1))), e3⟩
    refine wpAny_mono (hel ce B E2 r t1 t2 t3 _ _ hk hs (kept cap1) (kept cap2) n4 ?_ ?_ ?_) (fun u s5 q => ⟨?_, q.2⟩) fun _ _ e => e
    · simp only [if_neg nxz, if_neg nxy, if_pos]
    · simp only [if_neg nyz, if_pos]
    · simp only [if_pos]
    · exact ⟨r, hr, q.1⟩
theorem gen_rowsV {c P : Addr} {elt iter : Expr} {x y z : Str} {p1 p2 p3 pt gpos : Pos} {kt : Nat} {scope : Scope} {u1 u2 : Str} {i1 i2 : Nat} {pb : Int → Int → Rw.Row → Bool} {te : TE} {k : Nat} {Q' : Value → Shared → Prop} {R : Int → Int → List Rw.Row → Hp → Prop}
    (hr : Room k X.A) (TB : TabB X.base X.mg c P) (hcode : X.env.code = .ref c) (S : Sc3 X.env scope x y z) (nxy : x ≠ y) (nxz : x ≠ z) (nyz : y ≠ z) (hi : PE X iter te) (hel : ∀ a1 a2, EltV X.prog X.w scope x y z u1 u2 a1 a2 elt (pb a1 a2)) (C1 : Cap X scope u1 i1) (C2 : Cap X scope u2 i2)
    (hs : ∀ v, genFold iter X.env v = pure v) (I : Inv X pins σ H s) (h : te σ H fun v H1 => ∃ a xs rows a1 a2, v = .ref a ∧ H1 a = some (.lst xs) ∧ Paired (kRow.is H1) xs rows ∧ TabG H1 P ∧ σ[i1]? = some (some (.int a1)) ∧ σ[i2]? = some (some (.int a2)) ∧ R a1 a2 rows H1)
    (hQ : ∀ a1 a2 rows H1 g s5, R a1 a2 rows H1 → ReadyV X pins σ H1 P rows (pb a1 a2) g s5 → Q' (.ref g) s5) :
    wpAny (model X.prog X.w) X.A (eval (.GeneratorExp elt [⟨.Tuple [.Name x p1, .Name y p2, .Name z p3] kt pt, iter, [], 0⟩] scope gpos) X.env) Q' X.xe s := by
  refine gx_eval hr.hd S.co (closure_ok S.free) S.cell S.dot S.kind (by have := hr.dp; omega) ?_ hs
  refine thn (hi.run pins s σ H _ I h) fun xv s1 ⟨v, H1, I1, r1, q1⟩ => ?_
  obtain ⟨a, xs, rows, a1, a2, rfl, ha, hp, ⟨ps, hP, ht⟩, v1, v2, q1⟩ := q1
  have cell1 := C1.at I1 v1
  have cell2 := C2.at I1 v2
  cases r1
  obtain ⟨its, rv, pl, hz⟩ := I1.list (SqL.of ha)
  refine iter_any pl.isList fun s2 e2 st hne => ?_
  subst e2
  have hPs : s1.heap.get? P = some { cls := .none, data := .fields ps } := I1.hok P _ hP
  have hPlt : P < s1.heap.objs.size := Heap.lt_size hPs
  have haP : a ≠ P := ne_of ha hP (by intro q; cases q)
  generalize hit : ({ cls := .type "list_iterator", data := .fields #[.ref a, .int 0 0] } : Obj) = ob at st ⊢
  have hP2 : (s1.heap.push ob).get? P = some { cls := .none, data := .fields ps } := Heap.get?_push_of_some _ hPs
  have cd : PySem.W.CodeHd (s1.heap.push ob) c P := TB.code.keeps fun b u e => Heap.get?_push_of_some _ (I1.bk b u e)
  have lim2 : (s1.heap.push ob).NoLimit := I1.nolimit.push ob
  have sz2 : (s1.heap.push ob).objs.size = s1.heap.objs.size + 1 := Heap.size_push ..
  have lenI : its.length = rows.length := by rw [← rv.length, pr_len hp]
  have cont : ∀ (code : Value) (h3 : Heap) (tk : Nat) (ps' : Array Value), Heap.ExtBut P (s1.heap.push ob) h3 → (s1.heap.push ob).objs.size ≤ h3.objs.size → h3.get? P = some { cls := .none, data := .fields ps' } → (∃ more, ps' = ps ++ more) → TriplesOk ps'.toList →
      wpAny (model X.prog X.w) X.A (builtinsFor X.env.globals X.env.builtins) (fun bi s4 => Src X.prog X.w X.A X.env scope (cloFrom X.env.cells scope.names []) (.Tuple [.Name x p1, .Name y p2, .Name z p3] kt pt) elt code bi (.ref s1.heap.objs.size) Q' s4) X.xe { s1 with heap := h3, toks := tk } := by
    intro code h3 tk ps' hx hsz hP3 hmore ht3
    obtain ⟨bm, obm, e1, e2, e3, e4, e5, e6, e7, e8⟩ := TB.bm
    have hcP : cStatics ≠ P := fun e => by
      obtain ⟨_, hns, _⟩ := I1.nolimit
      obtain ⟨o', es, ep, ho, hd, _⟩ := hns
      rw [e, hPs] at ho
      cases ho
      cases hd
    have hcl : cStatics < s1.heap.objs.size := let ⟨_, hns, _⟩ := I1.nolimit; hns.lt
    have keep3 : ∀ b u, b ≠ P → s1.heap.get? b = some u → h3.get? b = some u := fun b u hb e => hx b u hb (Heap.get?_push_of_some _ e)
    refine wpAny_builtinsFor (m := X.mg) (by rw [I1.ok.glob]; exact ((I1.mod.glob.keeps I1.bk).push ob).extBut hx TB.gP) e1 e2 (keep3 _ _ e4 (I1.bk _ _ e5)) e6 e7 e8 ?_
    have WL := fun (B : Around) (hB : B.handled = none) => Walks.list (prog := X.prog) (w := X.w) (A := B) hB s1.heap.objs.size a hne its.toArray
    have hL : its.toArray.size = rows.length := by rw [List.size_toArray, lenI]
    refine ⟨s1.heap.objs.size, _, _, its.toArray.size, _, (fun i v => ∃ r, rows[i]? = some r ∧ v = .bool (pb a1 a2 r)), _, rfl, WL, ?_, ?_, ?_, lim2.extBut hx hcP, ?_, ?_, ?_⟩
    · intro B i v t Q1 E1 hst hq
      obtain ⟨oi, e, cc, dd⟩ := hst.1
      exact go_of e cc dd (by decide) hq
    · refine (WL X.A hr.hd).frame _ _ _ st fun b hb u e => hx b u (fun q => ?_) e
      rcases List.mem_cons.mp hb with z2 | z2
      · exact Nat.ne_of_lt hPlt (q.symm.trans z2)
      · rcases List.mem_cons.mp z2 with z3 | z3
        · exact haP (z3.symm.trans q)
        · cases z3
    · intro b hb
      rcases List.mem_cons.mp hb with q | q
      · rw [q]
        show s1.heap.objs.size < h3.objs.size
        omega
      · rcases List.mem_cons.mp q with q | q
        · rw [q]
          have h13 : s1.heap.objs.size < h3.objs.size := by omega
          exact Nat.lt_trans (Heap.lt_size pl.isList.choose_spec.1) h13
        · cases q
    · intro q
      rcases List.mem_cons.mp q with q | q
      · exact Nat.ne_of_lt hcl q
      · cases q
    · intro href hhref
      have hsc : (genEnv scope (cloFrom X.env.cells scope.names []) h3.objs.size code builtinsNs X.env).scope = scope := rfl
      have capAt : ∀ {u : Str} {b : Int}, (∃ c t, (cloFrom X.env.cells scope.names []).lookup u = some c ∧ s1.heap.IsCell c (some (.int b t))) → ∃ c t, (genEnv scope (cloFrom X.env.cells scope.names []) h3.objs.size code builtinsNs X.env).cells.lookup u = some c ∧ href.IsCell c (some (.int b t)) ∧ c ∈ List.range h3.objs.size ∧ c ∉ [s1.heap.objs.size] ∧ c ≠ (genEnv scope (cloFrom X.env.cells scope.names []) h3.objs.size code builtinsNs X.env).locals := fun ⟨c, tc, e1, oc, e2, e3⟩ => by
        have lt := Heap.lt_size e2
        have lt3 : c < h3.objs.size := Nat.lt_trans lt (show s1.heap.objs.size < h3.objs.size by omega)
        have cP : c ≠ P := fun e => by
          rw [e, hPs] at e2
          cases e2
          cases e3
        exact ⟨c, tc, e1, ⟨oc, hhref _ _ (keep3 _ _ cP e2), e3⟩, List.mem_range.mpr lt3, fun q => Nat.ne_of_lt lt (List.mem_singleton.mp q), Nat.ne_of_lt lt3⟩
      have tk3 := turn3v (p1 := p1) (p2 := p2) (p3 := p3) (pt := pt) (kt := kt) (ce := genEnv scope (cloFrom X.env.cells scope.names []) h3.objs.size code builtinsNs X.env) (scope := scope) (h0 := href) (fp := List.range h3.objs.size) (wr := [s1.heap.objs.size]) (rows := rows) S.kind hsc S.lx S.ly S.lz nxy nxz nyz (hel a1 a2) (capAt cell1) (capAt cell2) (its := its) fun i v hiv => ?_
      · exact fun B E' i v s m hB hv => tk3 B E' i v s m hB (by simpa using hv)
      obtain ⟨r, t, t1, t2, t3, q1, q2, q3, q4⟩ := row_at I1 hp rv hiv
      have tP : t ≠ P := fun e => by
        obtain ⟨o, ho, hc, _⟩ := q4
        rw [e, hPs] at ho
        cases ho
        cases hc
      refine ⟨r, t, t1, t2, t3, q1, q2, List.mem_range.mpr (Nat.lt_trans q3 (show s1.heap.objs.size < h3.objs.size by omega)), fun q => ?_, ?_⟩
      · rcases List.mem_cons.mp q with q | q
        · exact Nat.ne_of_lt q3 q
        · cases q
      · obtain ⟨o, ho, r⟩ := q4
        exact ⟨o, hhref _ _ (keep3 _ _ tP ho), r⟩
    · intro g h5 tk5 gs hgb hag hsz5 hk5 W5 hat
      simp only [passing_all, List.length_range] at W5
      rw [hL] at W5 hat
      refine hQ a1 a2 rows H1 g _ q1 ⟨_, _, _, _, _, W5.in4_1, hat, ?_, ?_, fun s' hm => ?_⟩
      · intro b hb
        show b < h5.objs.size
        rw [hsz5]
        rcases List.mem_cons.mp hb with q | q
        · rw [q]; exact Nat.lt_succ_self _
        · rcases List.mem_cons.mp q with q | q
          · rw [q]
            exact Nat.lt_succ_of_lt hag
          · exact Nat.lt_succ_of_lt (Nat.lt_trans (List.mem_range.mp q) hag)
      · intro j v hj
        obtain ⟨i, hij, r, hr', ev⟩ := hj
        obtain ⟨hj', ej⟩ := List.getElem?_eq_some_iff.mp hij
        rw [List.getElem_range] at ej
        subst ej
        exact ⟨r, hr', ev⟩
      · obtain ⟨more, em⟩ := hmore
        have nwr : ∀ b u, s1.heap.get? b = some u → b ∉ h3.objs.size :: [s1.heap.objs.size] := fun b u e hb => by
          have hl := Heap.lt_size e
          rcases List.mem_cons.mp hb with q | q
          · rw [q] at hl
            have h9 : (h3.objs.size : Nat) < s1.heap.objs.size := hl
            omega
          · rcases List.mem_cons.mp q with q | q
            · rw [q] at hl
              exact Nat.lt_irrefl _ hl
            · cases q
        have J := inv_tab (more := more) (h' := s'.heap) (g' := s'.gens) (d' := s'.drawn) (t' := s'.toks) I1 hP (fun b u hb e => hm.heap b u (nwr b u e) (hk5 b u (keep3 b u hb e)))
          (by rw [← em]; exact hm.heap P _ (nwr P _ hPs) (hk5 P _ hP3)) (AllBare.movedS (I1.bare.push hgb) hm)
        rw [sh_eta s1 s' hm.os] at J
        exact ⟨upd H1 P (.tbl (ps ++ more)), ⟨⟨ps ++ more, upd_same, by rw [← em]; exact ht3⟩, fun b hb => upd_ne hb⟩, J⟩
  refine ⟨lim2, ?_⟩
  cases hf : codeAmong gpos ps.toList with
  | none =>
    refine wpAny_genexprCodeX hcode (cd.code hP2 ht) (cd.tab hP2) hf fun c' h' tk hx hge hlt hco' _ htab' _ => ?_
    obtain ⟨o1, vs, f1, tf, fl, tg, inF, tx, tt, op, _, _, _, _, _, _, _, _, _, htr, _⟩ := hco'
    exact cont _ h' tk _ hx (Nat.le_trans hge (Nat.le_of_lt hlt)) htab'.2 ⟨_, rfl⟩ htr
  | some cv =>
    refine wpAny_genexprCode_hit hcode (cd.code hP2 ht) hf ?_
    exact cont cv (s1.heap.push ob) s1.toks ps (Heap.ExtBut.refl _ _) (Nat.le_refl _) hP2 ⟨#[], by simp⟩ ht

def tAnyR (P : Addr) (i1 i2 : Nat) (pb : Int → Int → Rw.Row → Bool) (te : TE) : TE := fun σ H Q => te σ H fun v H1 => ∃ a xs rows a1 a2, v = .ref a ∧ H1 a = some (.lst xs) ∧ Paired (kRow.is H1) xs rows ∧ TabG H1 P ∧ σ[i1]? = some (some (.int a1)) ∧ σ[i2]? = some (some (.int a2)) ∧ ∀ H2, Tabbed P H1 H2 → Q (.bl (rows.any (pb a1 a2))) H2
theorem any_at (f : Rw.Row → Bool) (rows : List Rw.Row) : (List.range rows.length).any (fun i => match rows[i]? with | some r => f r | none => false) = rows.any f := by
  rw [Bool.eq_iff_iff, List.any_eq_true, List.any_eq_true]
  constructor
  · rintro ⟨i, hi, h⟩
    cases e : rows[i]? with
    | none => rw [e] at h; cases h
    | some r => rw [e] at h; exact ⟨r, List.mem_of_getElem? e, h⟩
  · rintro ⟨r, hr, h⟩
    obtain ⟨i, hi, e⟩ := List.getElem_of_mem hr
    exact ⟨i, List.mem_range.mpr hi, by rw [List.getElem?_eq_getElem hi, e]; exact h⟩
theorem pe_anyR {c P : Addr} {elt iter : Expr} {x y z u1 u2 : Str} {i1 i2 : Nat} {p1 p2 p3 pt gpos p pos : Pos} {kt : Nat} {scope : Scope} {pb : Int → Int → Rw.Row → Bool} {te : TE} {k : Nat}
    (hr : Room k X.A) (hg : Gl X "any") (hm : X.mg "any" = none) (TB : TabB X.base X.mg c P) (hcode : X.env.code = .ref c) (S : Sc3 X.env scope x y z) (nxy : x ≠ y) (nxz : x ≠ z) (nyz : y ≠ z) (hi : PE X iter te) (hel : ∀ a1 a2, EltV X.prog X.w scope x y z u1 u2 a1 a2 elt (pb a1 a2)) (C1 : Cap X scope u1 i1) (C2 : Cap X scope u2 i2)
    (hs : ∀ v, genFold iter X.env v = pure v) (hb : bootBuiltins "any" = some (.builtin "any"))
    (he : starEach [.GeneratorExp elt [⟨.Tuple [.Name x p1, .Name y p2, .Name z p3] kt pt, iter, [], 0⟩] scope gpos] X.env = (false, eval (.GeneratorExp elt [⟨.Tuple [.Name x p1, .Name y p2, .Name z p3] kt pt, iter, [], 0⟩] scope gpos) X.env) :: starEach [] X.env := by rfl) :
    PE X (.Call (.Name "any" p) [.GeneratorExp elt [⟨.Tuple [.Name x p1, .Name y p2, .Name z p3] kt pt, iter, [], 0⟩] scope gpos] [] pos) (tAnyR P i1 i2 pb te) := by
  refine ⟨fun pins s σ H Q I h => ?_⟩
  refine wpAny_Call_Name_kw (ld_blt I hg hm hb (PyProof.Rows.callWith_builtin1 ?_ he (by rfl)))
  rw [he]
  show wpAny _ _ (spliced ((false, eval (.GeneratorExp elt [⟨.Tuple [.Name x p1, .Name y p2, .Name z p3] kt pt, iter, [], 0⟩] scope gpos) X.env) :: backTo pos (starEach [] X.env))) _ _ s
  refine Calls.spliced_cons (gen_rowsV (R := fun a1 a2 rows H1 => ∀ H2, Tabbed P H1 H2 → Q (.bl (rows.any (pb a1 a2))) H2) hr TB hcode S nxy nxz nyz hi hel C1 C2 hs I h fun a1 a2 rows H1 g s5 hR hG => ?_)
  obtain ⟨fp, wr, G, F, St, W, hst, hfp, hval, hI⟩ := hG
  refine Calls.spliced_nil (call_any_walkS (W.self 0 _ _ _ hst ⟨g, fp, wr, G, _, F, St, fun i => match rows[i]? with | some r => pb a1 a2 r | none => false, rfl, W, hst, fun j v s' Q' E' hj hq => ?_, fun s' hmv => ?_⟩))
  · obtain ⟨r, hr', rfl⟩ := hval j v hj
    dsimp only at hq
    rw [hr'] at hq
    exact wpAny_truthy_bool hq
  · obtain ⟨H2, hT, J⟩ := hI s' hmv
    refine ⟨.bl _, H2, J, rfl, ?_⟩
    rw [any_at]
    exact hR H2 hT
end
end Gx
namespace Rw
open PySem L2
open GxR (TabB TabG Tabbed)
def inB (h n : Int) (r : Row) : Bool := decide (r.1 = h) && decide (r.2.1 ≤ n ∧ n ≤ r.2.2)
theorem elt_has {prog : Program} {w : World} {scope : Scope} {x y z u1 u2 : Str} {a1 a2 : Int} {p1 p2 p3 p4 p5 p6 p7 p8 : Pos} (lx : scope.names.lookup x = some .local) (ly : scope.names.lookup y = some .local) (lz : scope.names.lookup z = some .local)
    (l1 : scope.names.lookup u1 = some .free) (l2 : scope.names.lookup u2 = some .free)
    (dx : (x == ("__debug__" : Str)) = false := by decide) (dy : (y == ("__debug__" : Str)) = false := by decide) (dz : (z == ("__debug__" : Str)) = false := by decide) (d1 : (u1 == ("__debug__" : Str)) = false := by decide) (d2 : (u2 == ("__debug__" : Str)) = false := by decide)
    (c1 : (u1 == ("__classdict__" : Str)) = false := by decide) (c2 : (u2 == ("__classdict__" : Str)) = false := by decide) :
    Gx.EltV prog w scope x y z u1 u2 a1 a2 (.BoolOp .And [.Compare (.Name x p1) [.Eq] [.Name u1 p2] p3, .Compare (.Name y p4) [.LtE, .LtE] [.Name u2 p5, .Name z p6] p7] p8) (inB a1 a2) := by
  intro ce B E' r t1 t2 t3 s m hk hs cap1 cap2 hn hx hy hz
  obtain ⟨b1, k1, e1, i1⟩ := cap1
  obtain ⟨b2, k2, e2, i2⟩ := cap2
  have kx : ce.kindOf x = some .local := by show ce.scope.names.lookup x = some .local; rw [hs]; exact lx
  have ky : ce.kindOf y = some .local := by show ce.scope.names.lookup y = some .local; rw [hs]; exact ly
  have kz : ce.kindOf z = some .local := by show ce.scope.names.lookup z = some .local; rw [hs]; exact lz
  have ku1 : ce.kindOf u1 = some .free := by show ce.scope.names.lookup u1 = some .free; rw [hs]; exact l1
  have ku2 : ce.kindOf u2 = some .free := by show ce.scope.names.lookup u2 = some .free; rw [hs]; exact l2
  have keep : ∀ k : Nat, Keeps s { s with toks := k } := fun k => GxR.keeps_tok s k
  refine PyProof.Rows.BoolOp_and (wpAny_Compare1 (wpAny_Name (wpAny_loadName_local hk kx hn hx ?_) dx))
  refine wpAny_Name (wpAny_loadName_free hk ku1 e1 i1 ?_ c1) d1
  refine PyProof.Rows.eq_int (wpAny_truthy_bool ?_)
  by_cases h1 : r.1 = a1
  · rw [if_pos (by simp [h1])]
    refine PyProof.Rows.BoolOp_one (PyProof.Rows.Compare_chain (wpAny_Name (wpAny_loadName_local hk ky hn hy ?_) dy))
    refine PyProof.Rows.chain_link (wpAny_Name (wpAny_loadName_free hk ku2 e2 i2 ?_ c2) d2)
    refine PyProof.Rows.le_int (wpAny_truthy_bool ?_)
    by_cases h2 : r.2.1 ≤ a2
    · rw [if_pos (by simp [h2])]
      refine PyProof.Rows.chain_last (wpAny_Name (wpAny_loadName_local hk kz hn hz ?_) dz)
      refine PyProof.Rows.le_int ⟨?_, GxR.keeps_refl s⟩
      simp [inB, h1, h2]
    · rw [if_neg (by simp [h2])]
      exact ⟨by simp [inB, h1, h2], GxR.keeps_refl s⟩
  · rw [if_neg (by simp [h1])]
    exact ⟨by simp [inB, h1], GxR.keeps_refl s⟩
def spIsIn (Pc : Addr) : Sp := fun vs H Q _ => ∃ (F : Hp) (v : V) (rs : List Row) (h n : Int), vs = [v, .int h, .int n] ∧ Same F H ∧ (kL kRow).is F v rs ∧ TabG H Pc ∧ F Pc = none ∧
  ∀ (b : Bool) (H' : Hp), (b = true ↔ mem rs (h, n)) → Ext (· = Pc) F H F H' → TabG H' Pc → Q (.bl b) H'
def spHas (Pc : Addr) : Sp := fun vs H Q _ => ∃ (F : Hp) (v : V) (rs : List Row) (h n : Int), vs = [v, .int h, .int n] ∧ Same F H ∧ (kL kRow).is F v rs ∧ RowsOk rs ∧ 0 ≤ h ∧ h ≤ 7 ∧ TabG H Pc ∧ F Pc = none ∧
  ∀ (b : Bool) (F' H' : Hp), (b = true ↔ mem rs (h, n)) → Ext (· = Pc) F H F' H' → TabG H' Pc → Q (.bl b) H'
section
variable {P : Program} {w : World} {K : PySem.W.Frag} {mg : Str → Option Value} {base : Heap}
theorem ok_is_in {f c Pc : Addr} {fd : FuncData} (F0 : FunC K "is_in" "is_in" s_is_in f c fd) (TB : TabB base mg c Pc) (hany : mg "any" = none) :
    FnOk P w K mg base CX0 2 f fd ["rows", "house", "number"] (spIsIn Pc) := by
  refine F0.ok sc_is_in (fun vs H Q E h => ?_) (fun A outer s H vs Q E hr h => ?_)
  · obtain ⟨F, v, rs, h, n, rfl, _⟩ := h
    rfl
  · obtain ⟨F, v, rs, h, n, rfl, fh, hv, ht, fP, q⟩ := h
    refine ⟨_, (pss_one (ps_ret (Gx.pe_anyR (u1 := "house") (u2 := "number") (i1 := 1) (i2 := 2) (pb := inB) hr (by rfl) hany TB rfl ⟨rfl, rfl, by decide +kernel, rfl, rfl, rfl, rfl, ?fr⟩ (by decide) (by decide) (by decide)
        (pv 0) (fun a1 a2 => elt_has rfl rfl rfl rfl rfl) ⟨rfl, ?v1, rfl, ?m1, ?al1⟩ ⟨rfl, ?v2, rfl, ?m2, ?al2⟩ (fun _ => rfl) (by decide +kernel)))), ?_⟩
    case fr | al1 | al2 =>
      intro z hz e
      simp only [List.mem_cons, List.not_mem_nil, or_false] at hz
      rcases hz with rfl | rfl | rfl | rfl | rfl | rfl
      · cases e
      · cases e
      · cases e
      · cases e
      · exact ⟨_, rfl⟩
      · exact ⟨_, rfl⟩
    case v1 => exact .inr (.inl rfl)
    case v2 => exact .inr (.inl rfl)
    case m1 => decide +kernel
    case m2 => decide +kernel
    obtain ⟨a, xs, rfl, ha, hp⟩ := hv
    obtain ⟨pp, hpp, htr⟩ := ht
    refine ⟨_, rfl, a, xs, rs, h, n, rfl, fh _ _ ha, pr_mono (fun _ _ z => kRow.mono fh z) hp, ⟨pp, hpp, htr⟩, rfl, rfl, fun H3 t3 => ?_⟩
    obtain ⟨tg, same⟩ := t3
    have e3 : ∃ o, H3 = upd H Pc o := by
      obtain ⟨p3, hp3, _⟩ := tg
      exact ⟨.tbl p3, funext fun b => by
        by_cases hb : b = Pc
        · rw [hb, upd_same, hp3]
        · rw [upd_ne hb, same b hb]⟩
    obtain ⟨o, rfl⟩ := e3
    refine q _ _ ?_ ((Ext.refl fh).put (.inr rfl) fP) tg
    rw [List.any_eq_true]
    unfold mem inRow inB
    constructor
    · rintro ⟨r, hr, z⟩
      rw [Bool.and_eq_true, decide_eq_true_eq, decide_eq_true_eq] at z
      exact ⟨r, hr, z.1, z.2.1, z.2.2⟩
    · rintro ⟨r, hr, z1, z2, z3⟩
      exact ⟨r, hr, by rw [Bool.and_eq_true, decide_eq_true_eq, decide_eq_true_eq]; exact ⟨z1, z2, z3⟩⟩
theorem ok_has {f Pc : Addr} {fd : FuncData} (F0 : Fun K "has" "has" s_has f fd) (CC : CalCheck P w K mg base) (CH : Cal P w K mg base 3 "check_house" ["house"] spCheckHouse) (CI : Cal P w K mg base 2 "is_in" ["rows", "house", "number"] (spIsIn Pc)) :
    FnOk P w K mg base CX0 6 f fd ["rows", "house", "number"] (spHas Pc) := by
  obtain ⟨f1, fd1, G1, g1, kp1, b1⟩ := CC
  obtain ⟨f2, fd2, G2, g2, kp2, b2⟩ := CH
  obtain ⟨f3, fd3, G3, g3, kp3, b3⟩ := CI
  refine F0.ok sc_has (fun vs H Q E h => ?_) (fun cdv A outer s H vs Q E hr h => ?_)
  · obtain ⟨F, v, rs, h, n, rfl, _⟩ := h
    rfl
  · obtain ⟨F, v, rs, h, n, rfl, fh, hv, hok, h0, h7, ht, fP, q⟩ := h
    have hr3 : Room 3 _ := hr.mono (by decide)
    have hr2 : Room 2 _ := hr.mono (by decide)
    refine ⟨_, pss_cons (ps_expr (pe_call G1 hr (by rfl) g1 kp1 b1 .nil pass0 (pa_cons (pv 0) pa_nil)))
      (pss_cons (ps_expr (pe_call G2 hr3 (by rfl) g2 kp2 b2 .nil pass0 (pa_cons (pv 1) pa_nil)))
      (pss_one (ps_ret (pe_call G3 hr2 (by rfl) g3 kp3 b3 .nil pass0 (pa_cons (pv 0) (pa_cons (pv 1) (pa_cons (pv 2) pa_nil))))))), ?_⟩
    refine ⟨_, rfl, v, rs, rfl, (kL kRow).mono fh hv, hok, fun H1 s1 => ?_⟩
    have X1 := ext_of_same fh s1
    refine ⟨_, rfl, h, rfl, h0, h7, ?_⟩
    obtain ⟨pp, hpp, htr⟩ := ht
    have hp1 : H1 Pc = some (.tbl pp) := X1.same _ _ hpp
    refine ⟨_, rfl, _, rfl, _, rfl, F, v, rs, h, n, rfl, X1.fh, hv, ⟨pp, hp1, htr⟩, fP, fun b H' e X t => q b F H' e (X1.up.trans X) t⟩
end
end Rw
namespace Rw
open PySem L2
/-! ### up to where a house's names are told without a gap -/
structure Reach (ps : List Pt) (h z : Int) : Prop where
  nn : 0 ≤ z
  all : ∀ n : Int, 1 ≤ n → n ≤ z → (h, n) ∈ ps
  stop : (h, z + 1) ∉ ps
def spReach : Sp := fun vs H Q _ => ∃ (F : Hp) (v : V) (ps : List Pt) (h : Int), vs = [v, .int h] ∧ Same F H ∧ (kL kPt).is F v ps ∧ (∀ p ∈ ps, p.2 ≤ 400) ∧ ∀ (z : Int) (H' : Hp), Ext M0 F H F H' → Reach ps h z → Q (.int z) H'
section
variable {P : Program} {w : World} {K : PySem.W.Frag} {mg : Str → Option Value} {base : Heap}
theorem ok_law_reach {f : Addr} {fd : FuncData} (F0 : Fun K "_law_reach" "_law_reach" s_law_reach f fd) : FnOk P w K mg base CX0 1 f fd ["_law_names_here", "_law_house"] spReach := by
  refine F0.ok sc_law_reach (fun vs H Q E h => ?_) (fun cdv A outer s H vs Q E hr h => ?_)
  · obtain ⟨F, v, ps, h, rfl, _⟩ := h
    rfl
  · obtain ⟨F, v, ps, h, rfl, fh, ⟨a, xs, rfl, ha, hp⟩, h400, q⟩ := h
    have hu5 : (A.deeper (PyProof.Rows.envOfC "_law_reach" (defScope s_law_reach) s.heap.objs.size f cdv)).units + 65 < cLine := by have := hr.un; omega
    refine ⟨_, pss_cons (ps_set (i := 2) sc_law_reach.nd rfl (.inl rfl) pe_int)
      (pss_cons (ps_while PassesOwn.never (pt_cmpR (op_inD hu5) (pe_tup (pa_cons (pv 1) (pa_cons (pe_op op_add (pv 2) pe_int) pa_nil))) (pv 0) (by rfl)) (pss_one (ps_set (i := 2) sc_law_reach.nd rfl (.inl rfl) (pe_op op_add (pv 2) pe_int))))
      (pss_one (ps_ret (pv 2)))), ?_⟩
    refine ⟨fun m σ H' => ∃ z : Nat, σ = [some (.ref a), some (.int h), some (.int z)] ∧ Ext M0 F H F H' ∧ (∀ n : Int, 1 ≤ n → n ≤ z → (h, n) ∈ ps) ∧ z ≤ 400 ∧ m = 401 - z, ⟨_, 0, rfl, Ext.refl fh, fun n n1 n0 => absurd n0 (by omega), by decide, rfl⟩, ?_⟩
    rintro m σ H1 ⟨z, rfl, X1, all, z400, rfl⟩
    refine ⟨_, rfl, _, rfl, _, _, rfl, rfl, by show 2 ≤ sizeLine; decide, fun t nt => ?_⟩
    have X2 := X1.tmp (o := .tup [.int h, .int ((z : Int) + 1)]) nt
    have kp : kPt.is (upd H1 t (.tup [.int h, .int ((z : Int) + 1)])) (.ref t) (h, (z : Int) + 1) := ⟨t, rfl, upd_same⟩
    refine ⟨_, rfl, dPt (h, (z : Int) + 1), ps.map dPt, enc_pt.dp (Same.refl _) kp, .lst (SqL.of (X2.fh _ _ ha)) (dpAll enc_pt X2.fh hp), shaped_pt _, shaped_pts ps, ?_⟩
    rw [any_pts]
    by_cases g : (h, (z : Int) + 1) ∈ ps
    · rw [decide_eq_true g]
      have := h400 _ g
      simp only at this
      refine ⟨_, rfl, iteT ⟨_, fun σ' H' w' => ⟨_, ?_, w'⟩, _, rfl, _, _, rfl, rfl, z + 1, by push_cast; rfl, X2, fun n n1 n2 => ?_, by omega, rfl⟩⟩
      · omega
      · by_cases c : n ≤ z
        · exact all n n1 c
        · rw [show n = (z : Int) + 1 by omega]; exact g
    · rw [decide_eq_false g]
      exact ⟨_, rfl, iteF ⟨_, rfl, q z _ X2 ⟨by omega, all, g⟩⟩⟩
end
end Rw
namespace Rw
open PySem PySem.Spec PyProof.Rows L2
/-! ### dict(xs), xs a list of pairs (pair, True), all of them apart -/
theorem stored_apart : ∀ (ps acc : List (List Key × Addr × Value)), ((acc ++ ps).map (·.1)).Nodup → PySem.storedAllH acc ps = acc ++ ps
  | [], acc, _ => by simp [PySem.storedAllH]
  | p :: ps, acc, nd => by
    have new : atKey acc p.1 = none := atKey_none_of_get fun j z e => by
      rw [List.map_append, List.map_cons] at nd
      have m : p.1 ∈ acc.map (·.1) := List.mem_map.mpr ⟨_, List.mem_of_getElem? e, rfl⟩
      exact (List.nodup_append.mp nd).2.2 _ m _ List.mem_cons_self rfl
    have e : PySem.storedAllH acc (p :: ps) = PySem.storedAllH (storedH acc p.1 p.2.1 p.2.2) ps := rfl
    rw [e, storedH_new new, stored_apart ps _ (by simpa using nd)]
    simp
section
variable {X : Cx}
def rDictT : List V → Hp → VK → Prop := fun xs H Q => ∃ (a : Addr) (es : List (Addr × Addr × Pt)), xs = [.ref a] ∧ H a = some (.lst (es.map fun e => V.ref e.1)) ∧ (∀ e ∈ es, H e.1 = some (.tup [.ref e.2.1, .bl true]) ∧ H e.2.1 = some (.tup [.int e.2.2.1, .int e.2.2.2])) ∧ (es.map (·.2.2)).Nodup ∧
  ∀ p, H p = none → Q (.ref p) (upd H p (.dT ((es.map (·.2.2)).map fun q => (kk q, V.bl true))))
theorem cr_dictT (hc : X.calm = true) (hu : X.A.units + 64 < cLine) : CallR X (.type "dict") rDictT := by
  intro pins s σ H xs us Q I r h
  obtain ⟨a, es, rfl, ha, he, nd, q⟩ := h
  rw [Vals.ref1 r]
  obtain ⟨its, rv, pl, hz⟩ := I.list (SqL.of ha)
  rw [List.length_map] at hz
  have ei : its = es.map fun e => Value.ref e.1 := by
    have z : ∀ (l : List (Addr × Addr × Pt)) (us : List Value), Vals (l.map fun e => V.ref e.1) us → us = l.map fun e => Value.ref e.1 := by
      intro l
      induction l with
      | nil => intro us r; cases r; rfl
      | cons e l ih => intro us r; cases r with
        | cons r1 r2 => cases r1; rw [ih _ r2]; rfl
    exact z es its rv
  subst ei
  have pl' : PySem.PlainSeq "list" s.heap a (es.map fun e => Value.ref e.1).toArray := by
    obtain ⟨o, n, ho, hcl, hd, hdat⟩ := pl
    exact ⟨o, n, ho, hcl, hd, hdat⟩
  have pa : ∀ e ∈ es, PySem.PairAt s.heap e.1 (.ref e.2.1) (.bool true) := fun e hm => by
    obtain ⟨_, its2, r2, tp⟩ := I.hok _ _ (he e hm).1
    obtain ⟨u1, u2, rfl, ri, rj⟩ := vals2 r2
    cases ri
    cases rj
    exact .inl tp
  have items : PySem.PairItems s.heap (es.map fun e => Value.ref e.1).toArray (fun j => (es.getD j (0, 0, (0, 0))).1) (es.map fun e => (Value.ref e.2.1, Value.bool true)) := by
    refine ⟨by simp, fun j k v e => ?_⟩
    rw [List.getElem?_map] at e
    cases g : es[j]? with
    | none => rw [g] at e; cases e
    | some x =>
      rw [g] at e
      cases e
      have gd : es.getD j (0, 0, (0, 0)) = x := by rw [List.getD_eq_getElem?_getD, g]; rfl
      refine ⟨by simp [g, gd], ?_⟩
      show PySem.PairAt s.heap (es.getD j (0, 0, (0, 0))).1 _ _
      rw [gd]
      exact pa x (List.mem_of_getElem? g)
  have nd2 : (es.map fun e => kk e.2.2).Nodup := by
    refine List.pairwise_map.mpr ((List.pairwise_map.mp nd).imp ?_)
    intro a b n e
    exact n (kk_inj e)
  have isk : ∀ e ∈ es, (tupleKind (mixKind X.prog X.w)).is s.heap (kk e.2.2) e.2.1 := fun e hm => key_of I.hok (he e hm).2
  refine PySem.call_dict_pairsH (knd := tupleKind (mixKind X.prog X.w)) (ps := es.map fun e => (kk e.2.2, e.2.1, Value.bool true)) (PySem.PairArg.list a _ _ (es.map fun e => (Value.ref e.2.1, Value.bool true))) (I.ok.hd hc) ?room ⟨pl', items⟩ ⟨by simp, fun i key v rel => ?_⟩ (fun h' k x hx => ?_) (by simpa using hz) fun h' tk hd k => ?_
  case room => show X.A.in1.in1.units < cLine; show X.A.units + 1 + 1 < cLine; omega
  · have rel : (es.map fun e => (Value.ref e.2.1, Value.bool true))[i]? = some (key, v) := rel
    rw [List.getElem?_map] at rel
    cases g : es[i]? with
    | none => rw [g] at rel; cases rel
    | some x =>
      rw [g] at rel
      cases rel
      exact ⟨kk x.2.2, x.2.1, by rw [List.getElem?_map, g]; rfl, rfl⟩
  · obtain ⟨e, hm, rfl⟩ := List.mem_map.mp hx
    obtain ⟨o, its', n, ho, rest⟩ := isk e hm
    exact ⟨o, its', n, k _ o (Nat.ne_of_lt (Heap.lt_size ho)) (by simp) ho, rest⟩
  · have st : PySem.storedAllH ([] : List (List Key × Addr × Value)) (es.map fun e => (kk e.2.2, e.2.1, Value.bool true)) = es.map fun e => (kk e.2.2, e.2.1, Value.bool true) := by
      rw [stored_apart _ _ (by rw [List.nil_append, List.map_map]; exact nd2)]
      rfl
    rw [st] at hd
    have new : H s.heap.objs.size = none := I.hok.fresh (Nat.le_refl _)
    have kt : ∀ (o : HO) (M : List (Addr × Addr × Pt)), (∀ e ∈ M, e ∈ es) → KT (upd H s.heap.objs.size o) ((M.map (·.2.2)).map fun q => (kk q, V.bl true)) (M.map fun e => (kk e.2.2, e.2.1, Value.bool true)) := by
      intro o M
      induction M with
      | nil => exact fun _ => .nil
      | cons e M ih => exact fun sub => .cons ⟨rfl, (upd_ne (ne_of_none (he e (sub e List.mem_cons_self)).2 new)).trans (he e (sub e List.mem_cons_self)).2, rfl⟩ (ih fun x hx => sub x (List.mem_cons_of_mem _ hx))
    obtain ⟨od, esd, epd, q1, q2, q3, q4, _, q6⟩ := hd
    exact ⟨.ref s.heap.objs.size, _, I.laid (t' := tk) (fun b o e => k b o (by simp) e) (Nat.le_refl _) (show ObjOk X.prog X.w _ _ _ (.dT ((es.map (·.2.2)).map fun q => (kk q, V.bl true))) from ⟨by simpa using hz, beq_eq_false_iff_ne.mpr (Nat.ne_of_gt I.big), _, kt _ es (fun _ z => z), od, esd, epd, q1, q2, q3, q4, q6⟩), rfl, q _ (I.hok.fresh (Nat.le_refl _))⟩
end
end Rw
namespace Rw
open PySem L2
/-! ### pairs (name, True), dicts of names -/
def kPT : Kd Pt := ⟨fun F v p => ∃ t u, v = .ref t ∧ F t = some (.tup [.ref u, .bl true]) ∧ F u = some (.tup [.int p.1, .int p.2]), fun s ⟨t, u, e, h, k⟩ => ⟨t, u, e, s _ _ h, s _ _ k⟩⟩
theorem placesT {F : Hp} : ∀ {vs : List V} {ps : List Pt}, Paired (kPT.is F) vs ps → ∃ es : List (Addr × Addr × Pt), vs = es.map (fun e => V.ref e.1) ∧ es.map (·.2.2) = ps ∧ ∀ e ∈ es, F e.1 = some (.tup [.ref e.2.1, .bl true]) ∧ F e.2.1 = some (.tup [.int e.2.2.1, .int e.2.2.2])
  | _, _, .nil => ⟨[], rfl, rfl, fun k h => absurd h (by simp)⟩
  | _, p :: _, .cons ⟨t, u, e, ht, hu⟩ r => by
    obtain ⟨es, e1, e2, e3⟩ := placesT r
    refine ⟨(t, u, p) :: es, by rw [List.map_cons, ← e1, e], by rw [List.map_cons, e2], fun k hk => ?_⟩
    rcases List.mem_cons.mp hk with rfl | hk
    · exact ⟨ht, hu⟩
    · exact e3 k hk
/-- a dict of names, each with True -/
def known (ps : List Pt) : List (List Key × V) := ps.map fun q => (kk q, V.bl true)
def kD : Kd (List Pt) := ⟨fun F v ps => ∃ a, v = .ref a ∧ F a = some (.dT (known ps)), fun s ⟨a, e, h⟩ => ⟨a, e, s _ _ h⟩⟩
theorem known_has (q : Pt) : ∀ ps : List Pt, (valV (known ps) (kk q)).isSome = decide (q ∈ ps)
  | [] => by simp [known, valV]
  | p :: ps => by
    have ih := known_has q ps
    unfold known valV at ih ⊢
    rw [List.map_cons, List.find?_cons]
    by_cases e : p = q
    · subst e
      simp
    · have n : ¬ kk p = kk q := fun z => e (kk_inj z)
      have e' : ¬ q = p := fun z => e z.symm
      simp only [n, decide_false]
      rw [ih]
      simp [e']
theorem lt2_ne {ps : List Pt} (h : ps.Pairwise lt2) : ps.Nodup := h.imp fun {a b} h e => by rw [e] at h; unfold lt2 at h; omega
structure GapsOf (ps : List Pt) (out : List Pt) : Prop where
  sort : out.Pairwise lt2
  mem : ∀ p : Pt, p ∈ out ↔ 0 ≤ p.1 ∧ p.1 ≤ 7 ∧ 1 ≤ p.2 ∧ (∃ n, (p.1, n) ∈ ps ∧ p.2 < n) ∧ p ∉ ps
/-- a promise: such data that never changes from now on -/
def RetF {α : Type} (F H : Hp) (k : Kd α) (φ : α → Prop) (Q : VK) : Prop := ∀ (F' H' : Hp) (v : V) (x : α), Ext M0 F H F' H' → k.is F' v x → φ x → Q v H'
def spGapsL : Sp := fun vs H Q _ => ∃ (F : Hp) (v : V) (ps : List Pt), vs = [v] ∧ Same F H ∧ (kL kPt).is F v ps ∧ ps.Pairwise lt2 ∧ (∀ p ∈ ps, 1 ≤ p.2 ∧ p.2 ≤ 400) ∧ ps.length ≤ 3200 ∧ RetF F H (kL kPt) (GapsOf ps) Q
structure TxG (mg : Str → Option Value) : Prop where
  dict : mg "dict" = none
  range : mg "range" = none
  max : mg "max" = none
abbrev NG : List Str := ["_law_names_here", "_law_found", "_law_known", "_law_house", "_law_last", "_law_name", "_law_other", "_law_number"]
section
variable {P : Program} {w : World} {K : PySem.W.Frag} {mg : Str → Option Value} {base : Heap}
theorem ok_law_gaps {f : Addr} {fd : FuncData} (F0 : Fun K "_law_gaps" "_law_gaps" s_law_gaps f fd) (T : TxG mg) : FnOk P w K mg base CX0 1 f fd ["_law_names_here"] spGapsL := by
  refine F0.ok sc_law_gaps (fun vs H Q E h => ?_) (fun cdv A outer s H vs Q E hr h => ?_)
  · obtain ⟨F, v, ps, rfl, _⟩ := h
    rfl
  · obtain ⟨F, v, ps, rfl, fh, ⟨a, xs, rfl, ha, hp⟩, hsort, hbox, hlen, q⟩ := h
    have hu := hr.units
    have hu1 := hu_of hr
    refine ⟨_, pss_cons (ps_set (i := 1) sc_law_gaps.nd rfl (.inl rfl) (pe_lst pa_nil))
      (pss_cons (ps_set (i := 2) sc_law_gaps.nd rfl (.inr rfl) (pe_callTy (cr_dictT (by rfl) hu) (by rfl) T.dict (by decide +kernel) (pa_cons
          (pe_lc (own := [("_law_name", 5)]) (g := gName 5) (tt := tYes) (by rfl) sc_law_gaps.nd (pi_list (pv 0)) (blkOk_by (own := [("_law_name", 5)]) (N := NG) (sc := defScope s_law_gaps) (by decide +kernel))
            (fun _ _ _ _ _ => pg_name (i := 5) sc_law_gaps.nd rfl (Or.inl rfl)) (fun _ _ _ _ _ => pts_nil) (fun _ _ _ _ _ => pe_tup (pa_cons (pv 5) (pa_cons pe_bl pa_nil)))) pa_nil)))
      (pss_cons (ps_for PassesOwn.never rfl (pi_range1 (by rfl) T.range (pa_cons pe_int pa_nil)) (pg_name (i := 3) sc_law_gaps.nd rfl (.inr rfl))
        (pss_cons (ps_set (i := 4) sc_law_gaps.nd rfl (.inl rfl) (pe_callB (cr_max (by rfl)) (by rfl) T.max (by decide +kernel) (pa_cons (pe_op op_cat (pe_lst (pa_cons pe_int pa_nil))
            (pe_lc (own := [("_law_other", 6), ("_law_number", 7)]) (g := gTup K 2 (gCons (gName 6) (gCons (gName 7) gNil))) (tt := tTest (tOp rEq (tVar 6) (tVar 3))) (te := tVar 7) (by rfl) sc_law_gaps.nd (pi_list (pv 0))
              (blkOk_by (own := [("_law_other", 6), ("_law_number", 7)]) (N := NG) (sc := defScope s_law_gaps) (by decide +kernel)) (fun _ _ _ _ _ => pg_tup (by rfl) (pgs_cons (pg_name (i := 6) sc_law_gaps.nd rfl (Or.inl rfl)) (pgs_cons (pg_name (i := 7) sc_law_gaps.nd rfl (Or.inl rfl)) pgs_nil)))
              (fun _ _ _ _ _ => pts_one (pt_cmpR op_eq (pv 6) (pv 3) (nomark _))) (fun _ _ _ _ _ => pv 7))) pa_nil)))
        (pss_one (ps_set (i := 1) sc_law_gaps.nd rfl (.inl rfl) (pe_op op_cat (pv 1)
            (pe_lc (own := [("_law_number", 7)]) (g := gName 7) (by rfl) sc_law_gaps.nd (pi_range2 (by rfl) T.range (pa_cons pe_int (pa_cons (pv 4) pa_nil)))
              (blkOk_by (own := [("_law_number", 7)]) (N := NG) (sc := defScope s_law_gaps) (by decide +kernel)) (fun _ _ _ _ _ => pg_name (i := 7) sc_law_gaps.nd rfl (Or.inl rfl))
              (fun _ _ _ _ _ => pts_one (pt_cmp (pc_dnotin hu1 (pe_tup (pa_cons (pv 3) (pa_cons (pv 7) pa_nil))) (pv 2)) (by rfl))) (fun _ _ _ _ _ => pe_tup (pa_cons (pv 3) (pa_cons (pv 7) pa_nil)))))))))
      (pss_one (ps_ret (pv 1))))), ?_⟩
    have Xa : Ext M0 F H F H := Ext.refl fh
    refine ⟨Nat.zero_le _, fun e0 ne0 => ?_⟩
    have X0 := Xa.lay (o := .lst []) ne0
    have hE0 : (kL kPt).is (upd F e0 (.lst [])) (.ref e0) [] := ⟨e0, [], rfl, upd_same, .nil⟩
    revert X0 hE0
    generalize upd F e0 (.lst []) = F1
    generalize upd H e0 (.lst []) = H1
    intro X0 hE0
    -- known = dict([(name, True) for ..])
    refine ⟨_, rfl, a, rfl, ⟨xs, SqL.of (X0.fh _ _ (X0.ff _ _ ha))⟩, fun D nD => ?_⟩
    refine it_by (walk_list (K := K) (a := a) (xs := xs)) (fun i H' => ∃ (F' : Hp) (acc : List V), Ext M0 F1 H1 F' H' ∧ H' D = some (.lst acc) ∧ F' D = none ∧ Paired (kPT.is F') acc (ps.take i))
      ⟨F1, [], (Ext.refl X0.fh).tmp nD, upd_same, X0.fh.free nD, .nil⟩ (fun i H' _ ⟨_, _, z, _⟩ => SqL.of (z.same _ _ (X0.fh _ _ (X0.ff _ _ ha)))) ?_ ?_
    · rintro i x H2 _ hi ⟨F2, acc, X2, hD, fD, hacc⟩ ⟨rfl, hx⟩
      obtain ⟨p, hpi, tp, rfl, htp⟩ := pr_get hp hx
      refine ⟨rfl, _, rfl, (by show 2 ≤ sizeLine; decide), fun t nt => ?_⟩
      have Dt : D ≠ t := ne_of_none hD nt
      have la : acc.length ≤ 3200 := by
        rw [pr_len hacc]
        have h1 := List.length_take_le' i ps
        omega
      have htp2 := X2.ff _ _ (X0.ff _ _ htp)
      refine ⟨acc, by rw [upd_ne Dt]; exact hD, by rw [sizeLine_eq]; omega, ?_⟩
      have fD2 : upd F2 t (.tup [.ref tp, .bl true]) D = none := by rw [upd_ne Dt]; exact fD
      have sm : Same F2 (upd F2 t (.tup [.ref tp, .bl true])) := same_upd (X2.ffree nt)
      refine ⟨upd F2 t (.tup [.ref tp, .bl true]), acc ++ [.ref t], (X2.lay nt).put (.inl nD) fD2, upd_same, fD2, ?_⟩
      rw [show ps.take (i + 1) = ps.take i ++ [p] by rw [List.take_add_one, hpi]; rfl]
      exact pr_snoc (pr_mono (fun _ _ z => kPT.mono sm z) hacc) ⟨t, tp, rfl, upd_same, sm _ _ htp2⟩
    · rintro H2 ⟨F2, acc, X2, hD, fD, hacc⟩
      rw [pr_len hp, List.take_length] at hacc
      obtain ⟨es, e1, e2, e3⟩ := placesT hacc
      subst e1
      refine ⟨D, es, rfl, hD, fun e he => ⟨X2.fh _ _ (e3 e he).1, X2.fh _ _ (e3 e he).2⟩, by rw [e2]; exact lt2_ne hsort, fun d nd => ?_⟩
      rw [e2]
      have X3 := (X0.trans X2).lay (o := .dT (ps.map fun q => (kk q, V.bl true))) nd
      have hK : upd F2 d (.dT (ps.map fun q => (kk q, V.bl true))) d = some (.dT (known ps)) := upd_same
      have hE : (kL kPt).is (upd F2 d (.dT (ps.map fun q => (kk q, V.bl true)))) (.ref e0) [] := (kL kPt).mono (X2.ff.trans (same_upd (X2.ffree nd))) hE0
      revert X3 hK hE
      generalize upd F2 d (.dT (ps.map fun q => (kk q, V.bl true))) = F3
      generalize upd H2 d (.dT (ps.map fun q => (kk q, V.bl true))) = H3
      intro X3 hK hE
      refine ⟨8, rfl, by decide, by decide, for_range (lo := 0) (n := (8 : Int).toNat) (fun i σ H' => ∃ (F' : Hp) (fv : V) (out : List Pt) (y3 y4 : Option V), σ = [some (.ref a), some fv, some (.ref d), y3, y4, none, none, none] ∧ Ext M0 F3 H3 F' H' ∧ (kL kPt).is F' fv out ∧ out.Pairwise lt2 ∧ out.length ≤ 400 * i ∧
          ∀ p : Pt, p ∈ out ↔ 0 ≤ p.1 ∧ p.1 < i ∧ 1 ≤ p.2 ∧ (∃ n, (p.1, n) ∈ ps ∧ p.2 < n) ∧ p ∉ ps)
        ⟨F3, .ref e0, [], _, _, rfl, Ext.refl X3.fh, hE, .nil, by simp, fun p => ⟨fun h => absurd h (by simp), fun h => by have := h.2.1; have := h.1; omega⟩⟩ ?_ ?_⟩
      · rintro i σ H4 hi ⟨F4, fv, out, y3, y4, rfl, X4, hfv, hso, hlo, hmo⟩
        have ha4 : F4 a = some (.lst xs) := X4.ff _ _ (X3.ff _ _ ha)
        have hp4 : Paired (kPt.is F4) xs ps := pr_mono (fun _ _ z => kPt.mono (X3.ff.trans X4.ff) z) hp
        have hK4 := X4.ff _ _ hK
        generalize hh : (0 : Int) + (i : Int) = h
        have h8 : h = (i : Int) := by omega
        -- last
        refine ⟨by show 1 ≤ sizeLine; decide, fun l nl => ?_⟩
        have X5 := (Ext.refl (M := M0) X4.fh).tmp (o := .lst [.int 0]) nl
        have hl5 : upd H4 l (.lst [.int 0]) l = some (.lst [.int 0]) := upd_same
        revert X5 hl5
        generalize upd H4 l (.lst [V.int 0]) = H5
        intro X5 hl5
        refine ⟨_, rfl, a, rfl, ⟨xs, SqL.of (X5.fh _ _ ha4)⟩, fun D5 nD5 => ?_⟩
        have lD : l ≠ D5 := ne_of_none hl5 nD5
        refine it_by (walk_list (K := K) (a := a) (xs := xs)) (fun j H' => ∃ ns : List Int, Ext M0 F4 H5 F4 H' ∧ H' l = some (.lst [.int 0]) ∧ H' D5 = some (.lst (ns.map V.int)) ∧ ns.length ≤ j ∧ ∀ n, n ∈ ns ↔ (h, n) ∈ ps.take j)
          ⟨[], (Ext.refl X5.fh).tmp nD5, by rw [upd_ne lD]; exact hl5, upd_same, Nat.le_refl _, fun n => by simp⟩ (fun j H' _ ⟨_, z, _⟩ => SqL.of (z.fh _ _ ha4)) ?_ ?_
        · rintro j x H6 _ hj ⟨ns, X6, hl6, hD6, hln, hmn⟩ ⟨rfl, hx⟩
          obtain ⟨p, hpj, tp, rfl, htp⟩ := pr_get hp4 hx
          refine ⟨tp, _, rfl, SqT.of (X6.fh _ _ htp), rfl, _, _, rfl, _, _, rfl, rfl, rfl, _, rfl, _, rfl, rfl, ?_⟩
          have eT : ps.take (j + 1) = ps.take j ++ [p] := by rw [List.take_add_one, hpj]; rfl
          have j32 : j < 3200 := by
            have := (List.getElem?_eq_some_iff.mp hpj).1
            omega
          by_cases e : p.1 = h
          · rw [decide_eq_true (show V.int p.1 = V.int h by rw [e])]
            refine ⟨_, rfl, _, rfl, _, hD6, by rw [List.length_map, sizeLine_eq]; omega, ns ++ [p.2], X6.put (.inl nD5) (X5.fh.free nD5), by rw [upd_ne lD]; exact hl6, by rw [upd_same, List.map_append]; rfl, by rw [List.length_append]; simp; omega, fun n => ?_⟩
            rw [eT, List.mem_append, List.mem_append, hmn n, List.mem_singleton, List.mem_singleton]
            refine or_congr Iff.rfl ⟨fun z => by rw [z, ← e], fun z => by rw [← z]⟩
          · rw [decide_eq_false (show ¬ V.int p.1 = V.int h from fun z => e (V.int.inj z))]
            refine ⟨_, rfl, ns, X6, hl6, hD6, by omega, fun n => ?_⟩
            rw [eT, List.mem_append, hmn n, List.mem_singleton]
            exact ⟨.inl, fun z => z.elim id fun z => absurd (by rw [← z]) e⟩
        · rintro H6 ⟨ns, X6, hl6, hD6, hln, hmn⟩
          rw [pr_len hp4, List.take_length] at hmn
          refine ⟨_, _, _, _, rfl, rfl, hl6, hD6, by rw [List.length_map, sizeLine_eq, pr_len hp4] at *; simp; omega, fun c nc => ?_⟩
          have X7 := (X5.trans X6).tmp (o := .lst ([V.int 0] ++ ns.map V.int)) nc
          have hc : upd H6 c (.lst ([V.int 0] ++ ns.map V.int)) c = some (.lst ((0 :: ns).map V.int)) := upd_same
          revert X7 hc
          generalize upd H6 c (.lst ([V.int 0] ++ ns.map V.int)) = H7
          intro X7 hc
          refine ⟨c, 0 :: ns, rfl, SqL.of hc, by simp, fun m hm hle => ?_⟩
          have m0 : 0 ≤ m := hle 0 List.mem_cons_self
          have m400 : m ≤ 400 := by
            rcases List.mem_cons.mp hm with z | z
            · omega
            · exact (hbox _ ((hmn m).mp z)).2
          obtain ⟨fa, fvs, rfl, hfa, hpo⟩ := hfv
          -- found = found + [..]
          refine ⟨_, rfl, _, rfl, 1, m, rfl, ⟨by omega, by omega, by omega, by omega⟩, fun D7 nD7 => ?_⟩
          refine it_by (walk_range (lo := 1) (n := (m - 1).toNat)) (fun j H' => ∃ (F' : Hp) (acc : List V) (more : List Pt), Ext M0 F4 H7 F' H' ∧ H' D7 = some (.lst acc) ∧ F' D7 = none ∧ Paired (kPt.is F') acc more ∧ more.length ≤ j ∧ more.Pairwise lt2 ∧ ∀ p : Pt, p ∈ more ↔ p.1 = h ∧ 1 ≤ p.2 ∧ p.2 < 1 + (j : Int) ∧ p ∉ ps)
            ⟨F4, [], [], (Ext.refl X7.fh).tmp nD7, upd_same, X7.fh.free nD7, .nil, Nat.le_refl _, .nil, fun p => ⟨fun z => absurd z (by simp), fun z => by omega⟩⟩ (fun _ _ _ _ => trivial) ?_ ?_
          · rintro j x _ H8 hj ⟨F8, acc, more, X8, hD8, fD8, hpm, hlm, hsm, hmm⟩ ⟨rfl, hxj⟩
            generalize hn : (1 : Int) + (j : Int) = n at hmm
            have hx' : x = .int n := by rw [← hn]; exact hxj
            clear hxj
            subst hx'
            refine ⟨rfl, _, rfl, _, rfl, (by show 2 ≤ sizeLine; decide), fun t nt => ?_⟩
            have Dt : D7 ≠ t := ne_of_none hD8 nt
            have X9 := X8.tmp (o := .tup [.int h, .int n]) nt
            have hK9 := X9.fh _ _ (X9.ff _ _ hK4)
            have g9 : DGet (upd H8 t (.tup [.int h, .int n])) d (.ref t) (valV (known ps) (kk (h, n))) := DGet.t hK9 upd_same
            have hD9 : upd H8 t (.tup [.int h, .int n]) D7 = some (.lst acc) := by rw [upd_ne Dt]; exact hD8
            revert X9 hK9 g9 hD9
            generalize upd H8 t (.tup [V.int h, V.int n]) = H9
            intro X9 hK9 g9 hD9
            refine ⟨_, rfl, d, _, rfl, g9, ?_⟩
            rw [known_has]
            have lm : acc.length ≤ 400 := by rw [pr_len hpm]; omega
            by_cases e : (h, n) ∈ ps
            · rw [decide_eq_true e]
              refine ⟨_, rfl, F8, acc, more, X9, hD9, fD8, hpm, by omega, hsm, fun p => ?_⟩
              rw [hmm p]
              refine ⟨fun z => ⟨z.1, z.2.1, by omega, z.2.2.2⟩, fun z => ⟨z.1, z.2.1, ?_, z.2.2.2⟩⟩
              have : p.2 ≠ n := fun q2 => z.2.2.2 (by rw [show p = (h, n) from Prod.ext z.1 q2]; exact e)
              omega
            · rw [decide_eq_false e]
              refine ⟨_, rfl, _, rfl, _, rfl, (by show 2 ≤ sizeLine; decide), fun t2 nt2 => ?_⟩
              have Dt2 : D7 ≠ t2 := ne_of_none hD9 nt2
              have fD9 : upd F8 t2 (.tup [.int h, .int n]) D7 = none := by rw [upd_ne Dt2]; exact fD8
              have sm : Same F8 (upd F8 t2 (.tup [.int h, .int n])) := same_upd (X9.ffree nt2)
              refine ⟨acc, by rw [upd_ne Dt2]; exact hD9, by rw [sizeLine_eq]; omega, upd F8 t2 (.tup [.int h, .int n]), acc ++ [.ref t2], more ++ [(h, n)], (X9.lay nt2).put (.inl nD7) fD9, upd_same, fD9, pr_snoc (pr_mono (fun _ _ z => kPt.mono sm z) hpm) ⟨t2, rfl, upd_same⟩, by rw [List.length_append]; simp; omega, ?_, fun p => ?_⟩
              · refine List.pairwise_append.mpr ⟨hsm, by simp, fun p hp q hq => ?_⟩
                rw [List.mem_singleton.mp hq]
                have := (hmm p).mp hp
                exact .inr ⟨this.1, by show p.2 < n; omega⟩
              · rw [List.mem_append, hmm p, List.mem_singleton]
                constructor
                · rintro (z | z)
                  · exact ⟨z.1, z.2.1, by omega, z.2.2.2⟩
                  · rw [z]; exact ⟨rfl, by show 1 ≤ n; omega, by show n < _; omega, e⟩
                · rintro ⟨z1, z2, z3, z4⟩
                  by_cases q : p.2 = n
                  · exact .inr (Prod.ext z1 q)
                  · exact .inl ⟨z1, z2, by omega, z4⟩
          · rintro H8 ⟨F8, acc, more, X8, hD8, fD8, hpm, hlm, hsm, hmm⟩
            have X9 := X7.trans X8
            refine ⟨fa, D7, fvs, acc, rfl, rfl, X9.fh _ _ (X9.ff _ _ hfa), hD8, by rw [pr_len hpo, pr_len hpm, sizeLine_eq]; omega, fun c2 nc2 => ?_⟩
            have sm : Same F8 (upd F8 c2 (.lst (fvs ++ acc))) := same_upd (X9.ffree nc2)
            refine ⟨upd F8 c2 (.lst (fvs ++ acc)), .ref c2, out ++ more, _, _, rfl, (X4.trans X9).lay nc2, kL_new (X9.ffree nc2) (pr_append (pr_mono (fun _ _ z => kPt.mono X9.ff z) hpo) hpm), ?_, by rw [List.length_append]; omega, fun p => ?_⟩
            · refine List.pairwise_append.mpr ⟨hso, hsm, fun p hp q hq => ?_⟩
              have z1 := (hmo p).mp hp
              have z2 := (hmm q).mp hq
              exact .inl (by omega)
            · rw [List.mem_append, hmo p, hmm p]
              have big : (∃ n, (p.1, n) ∈ ps ∧ p.2 < n) → p.1 = h → p.2 < m := fun ⟨n, hn, lt⟩ e => by
                have := hle n (List.mem_cons_of_mem _ ((hmn n).mpr (e ▸ hn)))
                omega
              constructor
              · rintro (⟨z1, z2, z3⟩ | ⟨z1, z2, z3, z4⟩)
                · exact ⟨z1, by omega, z3⟩
                · refine ⟨by omega, by omega, z2, ?_, z4⟩
                  rcases List.mem_cons.mp hm with q | q
                  · omega
                  · exact ⟨m, by rw [z1]; exact (hmn m).mp q, by omega⟩
              · rintro ⟨z1, z2, z3, z4, z5⟩
                by_cases q : p.1 = h
                · have := big z4 q
                  exact .inr ⟨q, z3, by omega, z5⟩
                · exact .inl ⟨z1, by omega, z3, z4, z5⟩
      · rintro σ H4 ⟨F4, fv, out, y3, y4, rfl, X4, hfv, hso, hlo, hmo⟩
        refine ⟨_, rfl, q F4 H4 fv out (X3.trans X4) hfv ⟨hso, fun p => ?_⟩⟩
        rw [hmo p]
        have e8 : (((8 : Int).toNat : Nat) : Int) = 8 := rfl
        rw [e8]
        exact and_congr Iff.rfl (and_congr ⟨fun z => by omega, fun z => by omega⟩ Iff.rfl)
end
end Rw
namespace Rw
open PySem L2
/-! ### a drawn case: two sets -/
theorem DiceAt.frz {K : PySem.W.Frag} {F H F' H' : Hp} {d s a : Addr} {ns : List Int} {o : HO} (D : DiceAt K F H d s ns) (X : Ext (· = d) F H F' H') (D' : DiceAt K F' H' d s ns) (na : H a = none) (fa : F' a = none) (ha : H' a = some o) : DiceAt K (upd F' a o) H' d s ns := by
  obtain ⟨i, m, r, hd, g⟩ := D'.ex
  have X' := X.frz na fa ha
  exact ⟨X'.fh, by rw [upd_ne (D.ne na)]; exact D'.fd, X'.ff.seq D.sc, i, m, r, hd, g⟩
def BigC (rs : List Row) : Prop := rs.length ≤ 200 ∧ ∀ r ∈ rs, Drawn 8 400 r
def spCase (K : PySem.W.Frag) : Sp := fun vs H Q _ => ∃ (F : Hp) (d s : Addr) (ns : List Int), vs = [.ref d] ∧ DiceAt K F H d s ns ∧
  ∀ (F' H' : Hp) (t : Addr) (u1 u2 : V) (r1 r2 : List Row), Ext (· = d) F H F' H' → DiceAt K F' H' d s ns → F' t = some (.tup [u1, u2]) → (kL kRow).is F' u1 r1 → (kL kRow).is F' u2 r2 → BigC r1 → BigC r2 → Q (.ref t) H'
theorem bigc_of {h f m : Int} {rows : List Row} (h8 : h ≤ 8) (f4 : f ≤ 400) (m2 : m ≤ 200) (l : (rows.length : Int) ≤ m) (a : ∀ r ∈ rows, Drawn h f r) : BigC rows :=
  ⟨by omega, fun r hr => by obtain ⟨x1, x2, x3, x4, x5⟩ := a r hr; exact ⟨x1, by omega, x3, x4, by omega⟩⟩
section
variable {P : Program} {w : World} {K : PySem.W.Frag} {mg : Str → Option Value} {base : Heap}
theorem ok_law_case {f : Addr} {fd : FuncData} (F0 : Fun K "_law_case" "_law_case" s_law_case f fd) (CN : Cal P w K mg base 1 "_law_next" ["_law_dice_here", "_law_many"] (spNext K))
    (CR : Cal P w K mg base 2 "_law_rows" ["_law_d", "_law_houses", "_law_far", "_law_most"] (spRows K)) : FnOk P w K mg base CX0 3 f fd ["_law_d"] (spCase K) := by
  obtain ⟨f1, fd1, G1, g1, kp1, b1⟩ := CN
  obtain ⟨f2, fd2, G2, g2, kp2, b2⟩ := CR
  refine F0.ok sc_law_case (fun vs H Q E h => ?_) (fun cdv A outer s0 H vs Q E hr h => ?_)
  · obtain ⟨F, d, s, ns, rfl, _⟩ := h
    rfl
  · obtain ⟨F, d, s, ns, rfl, D0, q⟩ := h
    have hr1 : Room 1 _ := hr.mono (by decide)
    refine ⟨_, pss_cons (ps_par3 (i := 1) (j := 2) (l := 3) (by rfl) sc_law_case.nd rfl rfl rfl (by decide) (by decide) (by decide) rfl rfl rfl
          (pa_cons (pe_op op_add pe_int (pe_call G1 hr1 (by rfl) g1 kp1 b1 .nil pass0 (pa_cons (pv 0) (pa_cons pe_int pa_nil))))
          (pa_cons (pe_ix ix_list (pe_lst (pa_cons pe_int (pa_cons pe_int pa_nil))) (pe_call G1 hr1 (by rfl) g1 kp1 b1 .nil pass0 (pa_cons (pv 0) (pa_cons pe_int pa_nil))) (fun _ _ => rfl))
          (pa_cons (pe_ix ix_list (pe_lst (pa_cons pe_int (pa_cons pe_int pa_nil))) (pe_call G1 hr1 (by rfl) g1 kp1 b1 .nil pass0 (pa_cons (pv 0) (pa_cons pe_int pa_nil))) (fun _ _ => rfl)) pa_nil))) (by rfl))
      (pss_cons (ps_if (pt_cmpR op_eq (pe_call G1 hr1 (by rfl) g1 kp1 b1 .nil pass0 (pa_cons (pv 0) (pa_cons pe_int pa_nil))) pe_int (nomark _))
          (pss_one (ps_asg (pe_tup (pa_cons pe_int (pa_cons pe_int (pa_cons pe_int pa_nil)))) (pg_tup rfl (pgs_cons (pg_name (i := 1) sc_law_case.nd rfl (.inl rfl)) (pgs_cons (pg_name (i := 2) sc_law_case.nd rfl (.inl rfl)) (pgs_cons (pg_name (i := 3) sc_law_case.nd rfl (.inl rfl)) pgs_nil)))))) pss_nil)
      (pss_one (ps_ret (pe_tup (pa_cons (pe_call G2 hr (by rfl) g2 kp2 b2 .nil pass0 (pa_cons (pv 0) (pa_cons (pv 1) (pa_cons (pv 2) (pa_cons (pv 3) pa_nil)))))
          (pa_cons (pe_call G2 hr (by rfl) g2 kp2 b2 .nil pass0 (pa_cons (pv 0) (pa_cons (pv 1) (pa_cons (pv 2) (pa_cons (pv 3) pa_nil))))) pa_nil)))))), ?_⟩
    refine ⟨_, rfl, F, d, s, ns, 8, rfl, D0, by decide, by decide, fun h H1 h0 h1 X1 D1 => ⟨_, _, rfl, rfl, ?_⟩⟩
    have two : ∀ (a b : Int) (e : Int), 0 ≤ e → e < 2 → ∃ z : Int, (z = a ∨ z = b) ∧ atI [V.int a, V.int b] e = some (.int z) := fun a b e e0 e1 => by
      rcases (show e = 0 ∨ e = 1 by omega) with z | z
      · exact ⟨a, .inl rfl, by rw [z]; rfl⟩
      · exact ⟨b, .inr rfl, by rw [z]; rfl⟩
    refine ⟨by show 2 ≤ sizeLine; decide, fun p np => ?_⟩
    have dp : d ≠ p := D1.ne np
    refine ⟨_, rfl, F, d, s, ns, 2, rfl, D1.tmp np, by decide, by decide, fun e H2 e0 e1 X2 D2 => ?_⟩
    have hp2 := X2.hh _ _ upd_same fun z => dp z.symm
    obtain ⟨far, hf, af⟩ := two 6 30 e e0 e1
    refine ⟨p, _, e, _, rfl, rfl, SqL.of hp2, af, ?_⟩
    have Y2 : Ext (· = d) F H F H2 := (X1.tmp np).trans X2
    refine ⟨by show 2 ≤ sizeLine; decide, fun p' np' => ?_⟩
    have dp' : d ≠ p' := D2.ne np'
    refine ⟨_, rfl, F, d, s, ns, 2, rfl, D2.tmp np', by decide, by decide, fun g H3 g0 g1 X3 D3 => ?_⟩
    have hp3 := X3.hh _ _ upd_same fun z => dp' z.symm
    obtain ⟨most, hm, am⟩ := two 4 40 g g0 g1
    refine ⟨p', _, g, _, rfl, rfl, SqL.of hp3, am, ?_⟩
    have Y3 : Ext (· = d) F H F H3 := (Y2.tmp np').trans X3
    refine ⟨_, _, _, rfl, ?_⟩
    refine ⟨_, rfl, F, d, s, ns, 6, rfl, D3, by decide, by decide, fun c H4 c0 c1 X4 D4 => ⟨rfl, _, rfl, ?_⟩⟩
    have Y4 := Y3.trans X4
    have go : ∀ (H4 : Hp) (Y4 : Ext (· = d) F H F H4) (D4 : DiceAt K F H4 d s ns) (hs fr mo : Int), 1 ≤ hs → hs ≤ 8 → 1 ≤ fr → fr ≤ 400 → 1 ≤ mo → mo ≤ 200 →
        tTup (tCons (tCall (spRows K) [] E0 (tCons (tVar 0) (tCons (tVar 1) (tCons (tVar 2) (tCons (tVar 3) tNil))))) (tCons (tCall (spRows K) [] E0 (tCons (tVar 0) (tCons (tVar 1) (tCons (tVar 2) (tCons (tVar 3) tNil))))) tNil)) [some (.ref d), some (.int hs), some (.int fr), some (.int mo)] H4 Q := fun H4 Y4 D4 hs fr mo a1 a2 a3 a4 a5 a6 => by
      have eL : LIM = 1000000000000 := rfl
      refine ⟨_, rfl, _, rfl, _, rfl, _, rfl, F, d, s, ns, hs, fr, mo, rfl, D4, a1, a2, a3, by omega, by omega, by omega, fun F5 H5 p5 x5 r5 X5 D5 n5 f5 h5 hp5 l5 d5 => ?_⟩
      have E5 := D4.frz X5 D5 n5 f5 h5
      have Z5 := Y4.trans (X5.frz n5 f5 h5)
      have k5 : (kL kRow).is (upd F5 p5 (.lst x5)) (.ref p5) r5 := kL_new f5 hp5
      refine ⟨_, rfl, _, rfl, _, rfl, _, rfl, upd F5 p5 (.lst x5), d, s, ns, hs, fr, mo, rfl, E5, a1, a2, a3, by omega, by omega, by omega, fun F6 H6 p6 x6 r6 X6 D6 n6 f6 h6 hp6 l6 d6 => ?_⟩
      have E6 := E5.frz X6 D6 n6 f6 h6
      have Z6 := Z5.trans (X6.frz n6 f6 h6)
      have k6 : (kL kRow).is (upd F6 p6 (.lst x6)) (.ref p6) r6 := kL_new f6 hp6
      have k5' := (kL kRow).mono (X6.frz n6 f6 h6).ff k5
      refine ⟨by show 2 ≤ sizeLine; decide, fun t nt => ?_⟩
      have sm := same_upd (o := .tup [.ref p5, .ref p6]) (Z6.fh.free nt)
      exact q _ _ t (.ref p5) (.ref p6) r5 r6 (Z6.lay nt) (E6.lay nt) upd_same ((kL kRow).mono sm k5') ((kL kRow).mono sm k6) (bigc_of a2 a4 a6 l5 d5) (bigc_of a2 a4 a6 l6 d6)
    refine ite2 (fun _ => ?_) (fun _ => ?_)
    · refine ⟨by show 3 ≤ sizeLine; decide, fun p5 np5 => ⟨p5, _, rfl, SqT.of upd_same, rfl, _, _, rfl, _, _, rfl, _, _, rfl, rfl, ?_⟩⟩
      exact go _ (Y4.tmp np5) (D4.tmp np5) 8 400 200 (by decide) (by decide) (by decide) (by decide) (by decide) (by decide)
    · exact go _ Y4 D4 (1 + h) far most (by omega) (by omega) (by omega) (by omega) (by omega) (by omega)
end
end Rw
namespace Rw
open PySem L2
open GxR (TabB TabG Tabbed)
/-! ### moved, told -/
theorem fewest_moved {b : Int} {rs out t : List Row} {ps : List Pt} (h : Fewest (moved b rs) out) (n : ∀ p, p ∈ ps ↔ mem rs p) (d : ToldOf ps t) : out = moved b t :=
  Canon.uniq h.can (canon_moved d.can) fun p => by rw [h.mem, mem_moved, mem_moved, d.mem, n]
theorem of2_moved {b : Int} {φ : Prop → Prop → Prop} {one other out t : List Row} {ps : List Pt} (h : Of2 (moved b one) (moved b other) φ out) (n : ∀ p, p ∈ ps ↔ φ (mem one p) (mem other p)) (d : ToldOf ps t) : out = moved b t :=
  Canon.uniq h.can (canon_moved d.can) fun p => by rw [h.mem, mem_moved, mem_moved, mem_moved, d.mem, n]
theorem moved_len {b : Int} {rs : List Row} : (moved b rs).length = rs.length := List.length_map ..
theorem big_ok {b : Int} {rs : List Row} (h : BigC rs) (b0 : 0 ≤ b) (b1 : b ≤ LIM - 400) : RowsOk (moved b rs) := by
  refine ⟨by rw [moved_len]; exact h.1, fun r hr => ?_⟩
  obtain ⟨s, hs, rfl⟩ := List.mem_map.mp hr
  obtain ⟨x1, x2, x3, x4, x5⟩ := h.2 s hs
  simp only [RowOk, mv1]
  omega
theorem moved_zero (rs : List Row) : moved 0 rs = rs := by
  unfold moved
  rw [show mv1 0 = id from funext fun r => by unfold mv1; simp]
  exact List.map_id rs
theorem big_ok0 {rs : List Row} (h : BigC rs) : RowsOk rs := by
  have := big_ok (b := 0) h (Int.le_refl _) (by decide)
  rwa [moved_zero] at this
/-! ### amounts -/
def singles (ps : List Pt) : List Row := ps.map fun p => (p.1, p.2, p.2)
theorem in_single {q p : Pt} : inRow (q.1, q.2, q.2) p ↔ p = q := by
  unfold inRow
  constructor
  · rintro ⟨a, b, c⟩; exact Prod.ext a.symm (by simp only at b c; omega)
  · rintro rfl; exact ⟨rfl, Int.le_refl _, Int.le_refl _⟩
theorem cover_singles (p : Pt) : ∀ {ps : List Pt}, ps.Nodup → cover (once (singles ps)) p = ind (p ∈ ps)
  | [], _ => (ind_neg (by simp)).symm
  | q :: ps, nd => by
    have ih := cover_singles p (List.nodup_cons.mp nd).2
    have e : cover (once (singles (q :: ps))) p = 1 * ind (inRow (q.1, q.2, q.2) p) + cover (once (singles ps)) p := rfl
    rw [e, ih]
    by_cases c : p = q
    · rw [ind_pos (in_single.mpr c), ind_neg (show ¬ p ∈ ps from fun z => (List.nodup_cons.mp nd).1 (c ▸ z)), ind_pos (show p ∈ q :: ps from by rw [c]; exact List.mem_cons_self)]
      rfl
    · rw [ind_neg (fun z => c (in_single.mp z))]
      by_cases m : p ∈ ps
      · rw [ind_pos m, ind_pos (List.mem_cons_of_mem _ m)]; rfl
      · rw [ind_neg m, ind_neg (fun z => (List.mem_cons.mp z).elim c m)]; rfl
theorem sum_singles : ∀ ps : List Pt, Gx.sumBy width (singles ps) = (ps.length : Int)
  | [] => rfl
  | p :: ps => by
    show width (p.1, p.2, p.2) + Gx.sumBy width (singles ps) = _
    rw [sum_singles ps]
    unfold width
    simp only [List.length_cons]
    omega
theorem amount_names {ps : List Pt} {t : List Row} (nd : ps.Nodup) (d : ToldOf ps t) (hb : ∀ p ∈ ps, 0 ≤ p.1 ∧ p.1 ≤ 7 ∧ 1 ≤ p.2 ∧ p.2 ≤ 400) : Gx.sumBy width t = (ps.length : Int) := by
  rw [← sum_singles, ← box_cover (N := 400) (rs := t) fun r hr => ?_, ← box_cover (N := 400) (rs := singles ps) fun r hr => ?_]
  · refine box_congr _ fun p => ?_
    rw [cover_canon d.can, cover_singles p nd]
    rcases ind_or (mem t p) with ⟨u, eu⟩ | ⟨u, eu⟩ <;> rw [eu]
    · exact (ind_pos ((d.mem p).mp u)).symm
    · exact (ind_neg fun z => u ((d.mem p).mpr z)).symm
  · obtain ⟨p, hp, rfl⟩ := List.mem_map.mp hr
    have a := hb p hp
    simp only
    omega
  · have a := hb _ ((d.mem _).mp (d.can.first hr))
    have b := hb _ ((d.mem _).mp (d.can.last hr))
    have o := d.can.ok r hr
    simp only at a b
    omega
theorem sum_moved (b : Int) : ∀ rs : List Row, Gx.sumBy width (moved b rs) = Gx.sumBy width rs
  | [] => rfl
  | r :: rs => by
    show width (mv1 b r) + Gx.sumBy width (moved b rs) = width r + Gx.sumBy width rs
    rw [sum_moved b rs]
    unfold width mv1
    simp only
    omega
/-! ### gaps, reach -/
theorem gaps_told {rs out t : List Row} {ps g : List Pt} (hb : BigC rs) (h : Without (fore rs) rs out) (n : ∀ p, p ∈ ps ↔ mem rs p) (hg : GapsOf ps g) (d : ToldOf g t) : out = t := by
  refine Canon.uniq h.can d.can fun p => ?_
  rw [h.mem, d.mem, hg.mem, n]
  constructor
  · rintro ⟨⟨r, hr, i1, i2, i3⟩, hn⟩
    obtain ⟨s, hs, rfl⟩ := List.mem_map.mp hr
    simp only at i1 i2 i3
    obtain ⟨x1, x2, x3, x4, x5⟩ := hb.2 s hs
    have last : mem rs (p.1, s.2.2) := ⟨s, hs, i1, x4, Int.le_refl _⟩
    refine ⟨by omega, by omega, i2, ⟨s.2.2, (n _).mpr last, ?_⟩, hn⟩
    by_cases e : p.2 = s.2.2
    · exact absurd (by rw [show p = (p.1, s.2.2) from Prod.ext rfl e]; exact last) hn
    · omega
  · rintro ⟨z1, z2, z3, ⟨m, hm, lt⟩, hn⟩
    obtain ⟨s, hs, i1, i2, i3⟩ := (n _).mp hm
    exact ⟨⟨_, List.mem_map.mpr ⟨s, hs, rfl⟩, i1, z3, by simp only at i3; show p.2 ≤ s.2.2; omega⟩, hn⟩
theorem whole_reach {rs : List Row} {ps : List Pt} {h z z' : Int} (w : Whole rs h z) (r : Reach ps h z') (n : ∀ p, p ∈ ps ↔ mem rs p) : z = z' := by
  have a := w.nn
  have b := r.nn
  rcases (show z < z' ∨ z = z' ∨ z' < z by omega) with c | c | c
  · exact absurd ((n _).mp (r.all (z + 1) (by omega) (by omega))) w.stop
  · exact c
  · exact absurd ((n _).mpr (w.all (z' + 1) (by omega) (by omega))) r.stop
/-! ### alike -/
theorem twin_rowsN {k : Nat} {F G H : Hp} {v u : V} {rs : List Row} (s1 : Same F H) (s2 : Same G H) (h1 : (kL kRow).is F v rs) (h2 : (kL kRow).is G u rs) (hl : rs.length ≤ 100000) : Twin H (k + 3) v u := by
  obtain ⟨a, xs, rfl, ha, pa⟩ := h1
  obtain ⟨b, ys, rfl, hb, pb⟩ := h2
  refine .inr ⟨a, b, xs, ys, rfl, rfl, .inr ⟨s1 _ _ ha, s2 _ _ hb⟩, by rw [pr_len pb]; exact hl, by rw [pr_len pa, pr_len pb], fun i x y hx hy => ?_⟩
  obtain ⟨r, er, t, rfl, ht⟩ := pr_get pa hx
  obtain ⟨r', er', t', rfl, ht'⟩ := pr_get pb hy
  rw [er] at er'
  cases er'
  refine .inr ⟨t, t', _, _, rfl, rfl, .inl ⟨s1 _ _ ht, s2 _ _ ht'⟩, by simp, rfl, fun j c e hc he => ?_⟩
  match j, hc, he with
  | 0, hc, he => cases hc; cases he; exact .inl (.inl ⟨_, rfl, rfl⟩)
  | 1, hc, he => cases hc; cases he; exact .inl (.inl ⟨_, rfl, rfl⟩)
  | 2, hc, he => cases hc; cases he; exact .inl (.inl ⟨_, rfl, rfl⟩)
  | n + 3, hc, he => simp at hc
theorem twin_LL {k : Nat} {F H : Hp} {v u : V} {rss : List (List Row)} (s : Same F H) (h1 : (kL (kL kRow)).is F v rss) (h2 : (kL (kL kRow)).is F u rss) (hl : rss.length ≤ 100000) (hls : ∀ rs ∈ rss, rs.length ≤ 100000) : Twin H (k + 4) v u := by
  obtain ⟨a, xs, rfl, ha, pa⟩ := h1
  obtain ⟨b, ys, rfl, hb, pb⟩ := h2
  refine .inr ⟨a, b, xs, ys, rfl, rfl, .inr ⟨s _ _ ha, s _ _ hb⟩, by rw [pr_len pb]; exact hl, by rw [pr_len pa, pr_len pb], fun i x y hx hy => ?_⟩
  obtain ⟨r, er, hr⟩ := pr_get pa hx
  obtain ⟨r', er', hr'⟩ := pr_get pb hy
  rw [er] at er'
  cases er'
  exact twin_rowsN s s hr hr' (hls r (List.mem_of_getElem? er))
/-! ### two sets as a tuple -/
def kCase : Kd (List Row × List Row) := ⟨fun F v x => ∃ t u1 u2, v = .ref t ∧ F t = some (.tup [u1, u2]) ∧ (kL kRow).is F u1 x.1 ∧ (kL kRow).is F u2 x.2, fun s ⟨t, u1, u2, e, h, k1, k2⟩ => ⟨t, u1, u2, e, s _ _ h, (kL kRow).mono s k1, (kL kRow).mono s k2⟩⟩
def dCase (x : List Row × List Row) : PyData := .tuple [dL dRow x.1, dL dRow x.2]
theorem enc_case : kCase.Enc dCase := ⟨fun s ⟨t, u1, u2, e, h, k1, k2⟩ => by subst e; exact .tup (SqT.of (s _ _ h)) (.cons ((enc_L enc_row).dp s k1) (.cons ((enc_L enc_row).dp s k2) .nil))⟩
theorem eqv_case (x : List Row × List Row) : PyData.eqv (dCase x) (dCase x) = true := by
  unfold dCase
  rw [PyData.eqv, PyData.eqvAll, PyData.eqvAll, PyData.eqvAll, eqv_rows, eqv_rows]
  simp
theorem shaped_case (x : List Row × List Row) : SeqAt.shaped (dCase x) = true := by
  have h : ∀ rs : List Row, (dL dRow rs).depth ≤ 2 := fun rs => by
    rw [show dL dRow rs = .list (rs.map dRow) from rfl, PyData.depth]
    have := depth_rows rs
    omega
  have h1 := h x.1
  have h2 := h x.2
  have c : ∀ rs : List Row, (dL dRow rs).canLay0 = true := fun rs => by
    rw [show dL dRow rs = .list (rs.map dRow) from rfl, PyData.canLay0, canLay_rows rs]
  unfold dCase
  rw [SeqAt.shaped, PyData.canLay0, PyData.canLayAll0, PyData.canLayAll0, PyData.canLayAll0, c, c, PyData.depth, PyData.depthAll, PyData.depthAll, PyData.depthAll]
  simp
  omega
/-! ### the law's own state -/
structure LS (K : PySem.W.Frag) (d s : Addr) (ns : List Int) (Pa Ph : Addr) (F H : Hp) : Prop where
  dice : DiceAt K F H d s ns
  ta : TabG H Pa
  fa : F Pa = none
  th : TabG H Ph
  fh : F Ph = none
  ne : Pa ≠ Ph
section
variable {K : PySem.W.Frag} {d s : Addr} {ns : List Int} {Pa Ph : Addr} {F H F' H' : Hp}
theorem LS.same (L : LS K d s ns Pa Ph F H) : Same F H := L.dice.fh
theorem tab_keep {M : Addr → Prop} {p : Addr} (X : Ext M F H F' H') (t : TabG H p) (f : F p = none) (m : ¬ M p) : TabG H' p ∧ F' p = none := by
  obtain ⟨pp, hp, ht⟩ := t
  exact ⟨⟨pp, X.hh _ _ hp m, ht⟩, by rw [X.new p (by rw [hp]; simp)]; exact f⟩
theorem tab_new {M : Addr → Prop} {p : Addr} (X : Ext M F H F' H') (t : TabG H p) (f : F p = none) : F' p = none := by
  obtain ⟨pp, hp, ht⟩ := t
  rw [X.new p (by rw [hp]; simp)]; exact f
theorem LS.step (L : LS K d s ns Pa Ph F H) (X : Ext M0 F H F' H') : LS K d s ns Pa Ph F' H' :=
  ⟨L.dice.step X, (tab_keep X L.ta L.fa id).1, (tab_keep X L.ta L.fa id).2, (tab_keep X L.th L.fh id).1, (tab_keep X L.th L.fh id).2, L.ne⟩
theorem LS.nd {p : Addr} (L : LS K d s ns Pa Ph F H) (t : TabG H p) : p ≠ d := by
  obtain ⟨pp, hp, ht⟩ := t
  obtain ⟨i, m, r, hd, g⟩ := L.dice.ex
  exact fun e => by rw [e, hd] at hp; cases hp
theorem LS.draw (L : LS K d s ns Pa Ph F H) (X : Ext (· = d) F H F' H') (D : DiceAt K F' H' d s ns) : LS K d s ns Pa Ph F' H' :=
  ⟨D, (tab_keep X L.ta L.fa (L.nd L.ta)).1, (tab_keep X L.ta L.fa (L.nd L.ta)).2, (tab_keep X L.th L.fh (L.nd L.th)).1, (tab_keep X L.th L.fh (L.nd L.th)).2, L.ne⟩
theorem dice_keep {p : Addr} (D : DiceAt K F H d s ns) (X : Ext (· = p) F H F' H') (n : p ≠ d) : DiceAt K F' H' d s ns := by
  obtain ⟨i, m, r, hd, g⟩ := D.ex
  exact ⟨X.fh, by rw [X.new d (by rw [hd]; simp)]; exact D.fd, X.ff.seq D.sc, ⟨i, m, r, X.hh _ _ hd fun e => n e.symm, g⟩⟩
theorem LS.am (L : LS K d s ns Pa Ph F H) (X : Ext (· = Pa) F H F' H') (t : TabG H' Pa) : LS K d s ns Pa Ph F' H' :=
  ⟨dice_keep L.dice X (L.nd L.ta), t, tab_new X L.ta L.fa, (tab_keep X L.th L.fh L.ne.symm).1, (tab_keep X L.th L.fh L.ne.symm).2, L.ne⟩
theorem LS.ha (L : LS K d s ns Pa Ph F H) (X : Ext (· = Ph) F H F' H') (t : TabG H' Ph) : LS K d s ns Pa Ph F' H' :=
  ⟨dice_keep L.dice X (L.nd L.th), (tab_keep X L.ta L.fa L.ne).1, (tab_keep X L.ta L.fa L.ne).2, t, tab_new X L.th L.fh, L.ne⟩
theorem LS.lay {p : Addr} {o : HO} (L : LS K d s ns Pa Ph F H) (np : H p = none) : LS K d s ns Pa Ph (upd F p o) (upd H p o) ∧ Same F (upd F p o) :=
  ⟨L.step ((Ext.refl L.same).lay np), same_upd (L.same.free np)⟩
theorem LS.tmp {p : Addr} {o : HO} (L : LS K d s ns Pa Ph F H) (np : H p = none) : LS K d s ns Pa Ph F (upd H p o) := L.step ((Ext.refl L.same).tmp np)
/-- back to an earlier frame -/
theorem LS.back {F0 : Hp} (L : LS K d s ns Pa Ph F H) (s0 : Same F0 F) (sc : SqL K F0 s (ns.map V.int)) : LS K d s ns Pa Ph F0 H :=
  ⟨⟨s0.trans L.dice.fh, s0.free L.dice.fd, sc, L.dice.ex⟩, L.ta, s0.free L.fa, L.th, s0.free L.fh, L.ne⟩
theorem LS.put {p : Addr} {xs ys : List V} (L : LS K d s ns Pa Ph F H) (f : F p = none) (n : p ≠ d) (h : H p = some (.lst xs)) : LS K d s ns Pa Ph F (upd H p (.lst ys)) := by
  have tb : ∀ {q : Addr}, TabG H q → TabG (upd H p (.lst ys)) q := fun {q} ⟨pp, hp, ht⟩ => ⟨pp, by rw [upd_ne (fun e => by rw [e, h] at hp; cases hp)]; exact hp, ht⟩
  exact ⟨L.dice.set n.symm f, tb L.ta, L.fa, tb L.th, L.fh, L.ne⟩
theorem LS.ret {α : Type} {k : Kd α} {φ : List α → Prop} {Q : VK} (L : LS K d s ns Pa Ph F H) (h : ∀ (F' H' : Hp) (a : Addr) (out : List α), LS K d s ns Pa Ph F' H' → Same F F' → H a = none → (kL k).is F' (.ref a) out → φ out → Q (.ref a) H') : RetL M0 F H k φ Q := fun F' H' a vs xs X na fa ha hp hx =>
  h _ H' a xs (L.step (X.frz na fa ha)) (X.frz na fa ha).ff na (kL_new fa hp) hx
theorem LS.retF {α : Type} {k : Kd α} {φ : α → Prop} {Q : VK} (L : LS K d s ns Pa Ph F H) (h : ∀ (F' H' : Hp) (v : V) (x : α), LS K d s ns Pa Ph F' H' → Same F F' → k.is F' v x → φ x → Q v H') : RetF F H k φ Q := fun F' H' v x X hv hx =>
  h F' H' v x (L.step X) X.ff hv hx
theorem LS.fz {p : Addr} {xs : List V} (L : LS K d s ns Pa Ph F H) (f : F p = none) (n : p ≠ d) (h : H p = some (.lst xs)) : LS K d s ns Pa Ph (upd F p (.lst xs)) H ∧ Same F (upd F p (.lst xs)) := by
  have tb : ∀ {q : Addr}, TabG H q → q ≠ p := fun {q} ⟨pp, hp, ht⟩ e => by rw [e, h] at hp; cases hp
  exact ⟨⟨L.dice.fz n.symm f h, L.ta, by rw [upd_ne (tb L.ta)]; exact L.fa, L.th, by rw [upd_ne (tb L.th)]; exact L.fh, L.ne⟩, same_upd f⟩
theorem LS.absb (L : LS K d s ns Pa Ph F H) : LS K d s ns Pa Ph (absb F H) H := by
  have tb : ∀ {q : Addr}, TabG H q → F q = none → Rw.absb F H q = none := fun {q} ⟨pp, hp, ht⟩ f => by rw [absb_ne (fun xs e => by rw [hp] at e; cases e)]; exact f
  exact ⟨L.dice.absb, L.ta, tb L.ta L.fa, L.th, tb L.th L.fh, L.ne⟩
def InW (p : Pt) : Prop := 0 ≤ p.1 ∧ p.1 ≤ 7 ∧ 1 ≤ p.2 ∧ p.2 ≤ 400
theorem few_w {ps : List Pt} (nd : ps.Nodup) (h : ∀ p ∈ ps, InW p) : ps.length ≤ 3200 := by
  have e : (ps.map fun p => [p.1, p.2]).length = ps.length := List.length_map ..
  rw [← e]
  refine inwide_few (List.pairwise_map.mpr (nd.imp fun {a b} n z => n ?_)) fun k hk => ?_
  · obtain ⟨p, hp, rfl⟩ := List.mem_map.mp hk
    obtain ⟨a, b, c, d⟩ := h p hp
    exact ⟨p.1, p.2, rfl, a, by omega, c, d⟩
  · injection z with z1 z2
    injection z2 with z2 _
    exact Prod.ext z1 z2
/-- sorted(set(one + other)) -/
structure KeysOf (F : Hp) (xs ys : List Pt) (ks : List (Addr × List Int)) : Prop where
  tup : ∀ k ∈ ks, F k.1 = some (.tup (k.2.map V.int))
  wide : ∀ k ∈ ks, InWide k.2
  of : ∀ k ∈ ks, ∃ q : Pt, q ∈ xs ++ ys ∧ k.2 = [q.1, q.2]
  all : ∀ q ∈ xs ++ ys, [q.1, q.2] ∈ ks.map (·.2)
theorem sort_prep {F : Hp} {a1 a2 : Addr} {xs ys : List Pt} (h1 : (kL kPt).is F (.ref a1) xs) (h2 : (kL kPt).is F (.ref a2) ys) (w1 : ∀ p ∈ xs, InW p) (w2 : ∀ p ∈ ys, InW p) :
    ∃ (x1 x2 : List V) (ks : List (Addr × List Int)), F a1 = some (.lst x1) ∧ F a2 = some (.lst x2) ∧ x1.length = xs.length ∧ x2.length = ys.length ∧ x1 ++ x2 = ks.map (fun k => V.ref k.1) ∧ KeysOf F xs ys ks := by
  obtain ⟨_, x1, e, ha1, p1⟩ := h1
  cases e
  obtain ⟨_, x2, e, ha2, p2⟩ := h2
  cases e
  obtain ⟨ks, k1, k2, k3⟩ := places (pr_append p1 p2)
  have keyOf : ∀ k ∈ ks, ∃ q : Pt, q ∈ xs ++ ys ∧ k.2 = [q.1, q.2] := fun k hk => by
    have : k.2 ∈ (xs ++ ys).map fun p => [p.1, p.2] := by rw [← k2]; exact List.mem_map.mpr ⟨k, hk, rfl⟩
    obtain ⟨q, hq, e⟩ := List.mem_map.mp this
    exact ⟨q, hq, e.symm⟩
  refine ⟨x1, x2, ks, ha1, ha2, pr_len p1, pr_len p2, k1, k3, fun k hk => ?_, keyOf, fun q hq => by rw [k2]; exact List.mem_map.mpr ⟨q, hq, rfl⟩⟩
  obtain ⟨q, hq, e⟩ := keyOf k hk
  obtain ⟨b1, b2, b3, b4⟩ := (List.mem_append.mp hq).elim (w1 q) (w2 q)
  exact ⟨q.1, q.2, e, b1, by omega, b3, b4⟩
theorem KeysOf.pts {F H : Hp} {xs ys : List Pt} {ks M : List (Addr × List Int)} (k : KeysOf F xs ys ks) (s : Same F H) (sub : ∀ p ∈ M, p ∈ ks) : ∀ p ∈ M, ∃ q : Pt, p.2 = [q.1, q.2] ∧ kPt.is H (.ref p.1) q := fun p hp => by
  obtain ⟨q, _, e⟩ := k.of p (sub p hp)
  have z := s _ _ (k.tup p (sub p hp))
  rw [e] at z
  exact ⟨q, e, p.1, rfl, z⟩
theorem KeysOf.back {F H : Hp} {xs ys : List Pt} {ks M : List (Addr × List Int)} (k : KeysOf F xs ys ks) (s : Same F H) (sub : ∀ p ∈ M, p ∈ ks) {zs : List V} {qs : List Pt} (hzs : Paired (kPt.is H) zs qs) (hfrom : ∀ y ∈ zs, ∃ p ∈ M, y = V.ref p.1) : Paired (kPt.is F) zs qs :=
  pr_back s hzs fun y hy => by
    obtain ⟨p, hp, e⟩ := hfrom y hy
    exact ⟨p.1, _, e, k.tup p (sub p hp)⟩
theorem KeysOf.mem {F : Hp} {xs ys : List Pt} {ks M : List (Addr × List Int)} (k : KeysOf F xs ys ks) (sub : ∀ p ∈ M, p ∈ ks) (all : ∀ p ∈ ks, p.2 ∈ M.map (·.2)) {qs : List Pt} (hm : ∀ q : Pt, q ∈ qs ↔ [q.1, q.2] ∈ M.map (·.2)) (q : Pt) : q ∈ qs ↔ q ∈ xs ∨ q ∈ ys := by
  rw [hm q, ← List.mem_append]
  constructor
  · intro z
    obtain ⟨p, hp, e⟩ := List.mem_map.mp z
    obtain ⟨q', hq', e'⟩ := k.of p (sub p hp)
    rw [e'] at e
    injection e with e2 e3
    injection e3 with e3 _
    have : q' = q := Prod.ext e2 e3
    rw [← this]; exact hq'
  · intro z
    obtain ⟨p, hp, e⟩ := List.mem_map.mp (k.all q z)
    rw [← e]; exact all p hp
end
theorem but_seq {K : PySem.W.Frag} {H : Hp} {s p : Addr} {ns : List V} (hP : TabG H p) (h : SqL K H s ns) : SqL K (but H p) s ns := by
  obtain ⟨pp, hP, _⟩ := hP
  have at' : s ≠ p → but H p s = H s := fun n => by unfold but; rw [if_neg n]
  rcases h with (h | ⟨o, h⟩) | h
  · exact .inl (.inl (by rw [at' (fun e => by rw [e, hP] at h; cases h)]; exact h))
  · exact .inl (.inr ⟨o, by rw [at' (fun e => by rw [e, hP] at h; cases h)]; exact h⟩)
  · exact .inr h
end Rw
namespace Rw
open PySem L2
open GxR (TabB TabG Tabbed)
structure Cals2 (P : Program) (w : World) (K : PySem.W.Frag) (mg : Str → Option Value) (base : Heap) (Pa Ph : Addr) : Prop where
  cD : Cal P w K mg base 1 "_law_dice" ["_law_script"] (spDice K)
  cN : Cal P w K mg base 1 "_law_next" ["_law_dice_here", "_law_many"] (spNext K)
  cCS : Cal P w K mg base 3 "_law_case" ["_law_d"] (spCase K)
  cA2 : Cal P w K mg base 1 "_law_names" ["_law_rows_here"] spNames
  cM : Cal P w K mg base 1 "_law_moved" ["_law_rows_here", "_law_by"] spMoved
  cT : Cal P w K mg base 1 "_law_told_rows" ["_law_names_here"] spTold
  cK : Cal P w K mg base 5 "_law_like" ["_law_found", "_law_due"] (spLike 4)
  cP : Cal P w K mg base 6 "plain" ["rows"] spPlain
  cJ : Cal P w K mg base 6 "joined" ["one", "other"] (sp2 fOr)
  cC : Cal P w K mg base 6 "common" ["one", "other"] (sp2 fAnd)
  cL : Cal P w K mg base 6 "less" ["one", "other"] (sp2 fLess)
  cA : Cal P w K mg base 6 "amount" ["rows"] (spAmount Pa)
  cW : Cal P w K mg base 6 "within" ["one", "other"] spWithin
  cH : Cal P w K mg base 6 "has" ["rows", "house", "number"] (spHas Ph)
  cG : Cal P w K mg base 6 "gaps" ["rows"] spGaps
  cWT : Cal P w K mg base 6 "whole_to" ["rows", "house"] spWholeTo
  cLG : Cal P w K mg base 1 "_law_gaps" ["_law_names_here"] spGapsL
  cLR : Cal P w K mg base 1 "_law_reach" ["_law_names_here", "_law_house"] spReach
structure TxS2 (mg : Str → Option Value) : Prop where
  len : mg "len" = none
  range : mg "range" = none
  sorted : mg "sorted" = none
  set : mg "set" = none
  dict : mg "dict" = none
def rLn (K : PySem.W.Frag) : List V → Hp → VK → Prop := fun xs H Q => ∃ x n, xs = [x] ∧ LenV K x H n ∧ Q (.int n) H
theorem call_ln {X : Cx} : CallR X (.builtin "len") (rLn X.K) := call_len
abbrev N2 : List Str := ["_law_script", "_law_d", "_law_cases", "_law_by", "_law_one", "_law_other", "_law_mine", "_law_theirs", "_law_known", "_law_both", "_law_alone", "_law_due", "_law_more", "_law_handed", "_law_found", "_law_rows_here", "_law_told", "_law_house", "_law_number", "_law_name", "_law_some"]
def spLaw2 (K : PySem.W.Frag) (Pa Ph : Addr) : Sp := fun vs H Q _ => ∃ (s : Addr) (ns : List Int), vs = [.ref s] ∧ SqL K H s (ns.map V.int) ∧ TabG H Pa ∧ TabG H Ph ∧ ∀ H', Q (.bl true) H'
section
variable {P : Program} {w : World} {K : PySem.W.Frag} {mg : Str → Option Value} {base : Heap} {Pa Ph : Addr}
set_option maxHeartbeats 0 in
theorem ok_law {f : Addr} {fd : FuncData} (F0 : Fun K "law" "law" s_law f fd) (T : TxS2 mg) (hne : Pa ≠ Ph) (C : Cals2 P w K mg base Pa Ph) : FnOk P w K mg base CX0 7 f fd ["_law_script"] (spLaw2 K Pa Ph) := by
  obtain ⟨fD, fdD, GD, gD, kpD, bD⟩ := C.cD
  obtain ⟨fN, fdN, GN, gN, kpN, bN⟩ := C.cN
  obtain ⟨fCS, fdCS, GCS, gCS, kpCS, bCS⟩ := C.cCS
  obtain ⟨fA2, fdA2, GA2, gA2, kpA2, bA2⟩ := C.cA2
  obtain ⟨fM, fdM, GM, gM, kpM, bM⟩ := C.cM
  obtain ⟨fT, fdT, GT, gT, kpT, bT⟩ := C.cT
  obtain ⟨fK, fdK, GK, gK, kpK, bK⟩ := C.cK
  obtain ⟨fP, fdP, GP, gP, kpP, bP⟩ := C.cP
  obtain ⟨fJ, fdJ, GJ, gJ, kpJ, bJ⟩ := C.cJ
  obtain ⟨fC, fdC, GC, gC, kpC, bC⟩ := C.cC
  obtain ⟨fL, fdL, GL, gL, kpL, bL⟩ := C.cL
  obtain ⟨fA, fdA, GA, gA, kpA, bA⟩ := C.cA
  obtain ⟨fW, fdW, GW, gW, kpW, bW⟩ := C.cW
  obtain ⟨fH, fdH, GH, gH, kpH, bH⟩ := C.cH
  obtain ⟨fG, fdG, GG, gG, kpG, bG⟩ := C.cG
  obtain ⟨fWT, fdWT, GWT, gWT, kpWT, bWT⟩ := C.cWT
  obtain ⟨fLG, fdLG, GLG, gLG, kpLG, bLG⟩ := C.cLG
  obtain ⟨fLR, fdLR, GLR, gLR, kpLR, bLR⟩ := C.cLR
  refine F0.ok sc_law (fun vs H Q E h => ?_) (fun cdv A outer s0 H vs Q E hr h => ?_)
  · obtain ⟨s, ns, rfl, _⟩ := h
    rfl
  · obtain ⟨s, ns, rfl, hs, hta, hth, q⟩ := h
    have hr1 : Room 1 _ := hr.mono (by decide)
    have hr3 : Room 3 _ := hr.mono (by decide)
    have hr5 : Room 5 _ := hr.mono (by decide)
    have hu := hr.units
    have hu1 : (A.deeper (PyProof.Rows.envOfC "law" (defScope s_law) s0.heap.objs.size f cdv)).units + 1 < cLine := by have := hr.un; omega
    have hu5 : (A.deeper (PyProof.Rows.envOfC "law" (defScope s_law) s0.heap.objs.size f cdv)).units + 65 < cLine := by have := hr.un; omega
    have hr6 : Room 6 _ := hr
    refine ⟨_, (pss_cons (ps_set (i := 1) sc_law.nd rfl (.inl rfl) (pe_call GD hr1 (by rfl) gD kpD bD .nil pass0 (pa_cons (pv 0) pa_nil)))
      (pss_cons (ps_set (i := 2) sc_law.nd rfl (.inl rfl) (pe_lst (pa_cons (pe_call GCS hr3 (by rfl) gCS kpCS bCS .nil pass0 (pa_cons (pv 1) pa_nil)) (pa_cons (pe_call GCS hr3 (by rfl) gCS kpCS bCS .nil pass0 (pa_cons (pv 1) pa_nil)) pa_nil))))
      (pss_cons (ps_set (i := 3) sc_law.nd rfl (.inl rfl) (pe_op op_sub (pe_op op_sub (pe_op op_pow pe_int pe_int) pe_int) (pe_call GN hr1 (by rfl) gN kpN bN .nil pass0 (pa_cons (pv 1) (pa_cons (pe_op op_pow pe_int pe_int) pa_nil)))))
      (pss_cons (ps_for PassesOwn.never rfl (pi_list (pe_op op_cat (pv 2) (pe_slice sl_list (pv 2) po_none (po_some pe_int)))) (pg_tup rfl (pgs_cons (pg_name (i := 4) sc_law.nd rfl (.inl rfl)) (pgs_cons (pg_name (i := 5) sc_law.nd rfl (.inl rfl)) pgs_nil)))
      (pss_cons (ps_par (i := 6) (j := 7) (by rfl) sc_law.nd rfl rfl (by decide) rfl rfl (pa_cons (pe_call GA2 hr1 (by rfl) gA2 kpA2 bA2 .nil pass0 (pa_cons (pv 4) pa_nil)) (pa_cons (pe_call GA2 hr1 (by rfl) gA2 kpA2 bA2 .nil pass0 (pa_cons (pv 5) pa_nil)) pa_nil)) (by rfl))
      (pss_cons (ps_set (i := 8) sc_law.nd rfl (.inr rfl) (pe_callTy (cr_dictT (by rfl) hu) (by rfl) T.dict (by decide +kernel) (pa_cons (pe_lc (own := [("_law_name", 19)]) (g := gName 19) (tt := tYes) (te := tTup (tCons (tVar 19) (tCons (tC (.bl true)) tNil))) (by rfl) sc_law.nd (pi_list (pv 7))
        (blkOk_by (own := [("_law_name", 19)]) (N := N2) (sc := defScope s_law) (by decide +kernel)) (fun _ _ _ _ _ => (pg_name (i := 19) sc_law.nd rfl (.inl rfl))) (fun _ _ _ _ _ => pts_nil) (fun _ _ _ _ _ => (pe_tup (pa_cons (pv 19) (pa_cons pe_bl pa_nil))))) pa_nil)))
      (pss_cons (ps_setLc (i := 9) (own := [("_law_name", 19)]) (g := gName 19) (tt := tTest (tDIn (tVar 19) (tVar 8))) (te := tVar 19) (by rfl) sc_law.nd rfl rfl (sw_true rfl rfl rfl (by decide +kernel)) (pi_list (pv 6))
        (blkOk_by (own := [("_law_name", 19)]) (N := N2) (sc := defScope s_law) (by decide +kernel)) (fun _ _ _ _ _ => (pg_name (i := 19) sc_law.nd rfl (.inl rfl))) (fun _ _ _ _ _ => pts_one (pt_cmp (pc_din hu1 (pv 19) (pv 8)) (by rfl))) (fun _ _ _ _ _ => (pv 19)))
      (pss_cons (ps_setLc (i := 10) (own := [("_law_name", 19)]) (g := gName 19) (tt := tTest (tDNotIn (tVar 19) (tVar 8))) (te := tVar 19) (by rfl) sc_law.nd rfl rfl (sw_true rfl rfl rfl (by decide +kernel)) (pi_list (pv 6))
        (blkOk_by (own := [("_law_name", 19)]) (N := N2) (sc := defScope s_law) (by decide +kernel)) (fun _ _ _ _ _ => (pg_name (i := 19) sc_law.nd rfl (.inl rfl))) (fun _ _ _ _ _ => pts_one (pt_cmp (pc_dnotin hu1 (pv 19) (pv 8)) (by rfl))) (fun _ _ _ _ _ => (pv 19)))
      (pss_cons (ps_setLc (i := 11) (own := [("_law_some", 20)]) (g := gName 20) (tt := tYes) (te := tCall spTold [] E0 (tCons (tVar 20) tNil)) (by rfl) sc_law.nd rfl rfl (sw_true rfl rfl rfl (by decide +kernel)) (pi_list (pe_lst (pa_cons (pv 6) (pa_cons (pe_callB (r := rSortWide P w) (cr_sortWide (by rfl)) (by rfl) T.sorted (by decide +kernel) (pa_cons (pe_callTy (r := rSetWide K P w) (cr_setWide (by rfl) hu) (by rfl) T.set (by decide +kernel) (pa_cons (pe_op op_cat (pv 6) (pv 7)) pa_nil)) pa_nil)) (pa_cons (pv 9) (pa_cons (pv 10) pa_nil))))))
        (blkOk_by (own := [("_law_some", 20)]) (N := N2) (sc := defScope s_law) (by decide +kernel)) (fun _ _ _ _ _ => (pg_name (i := 20) sc_law.nd rfl (.inl rfl))) (fun _ _ _ _ _ => pts_nil) (fun _ _ _ _ _ => (pe_call GT hr1 (by rfl) gT kpT bT .nil pass0 (pa_cons (pv 20) pa_nil))))
      (pss_cons (ps_for PassesOwn.never rfl (pi_list (pe_lst (pa_cons pe_int (pa_cons (pv 3) pa_nil)))) (pg_name (i := 12) sc_law.nd rfl (.inr rfl))
      (pss_cons (ps_set (i := 13) sc_law.nd rfl (.inl rfl) (pe_tup (pa_cons (pe_call GM hr1 (by rfl) gM kpM bM .nil pass0 (pa_cons (pv 4) (pa_cons (pv 12) pa_nil))) (pa_cons (pe_call GM hr1 (by rfl) gM kpM bM .nil pass0 (pa_cons (pv 5) (pa_cons (pv 12) pa_nil))) pa_nil))))
      (pss_cons (ps_set (i := 14) sc_law.nd rfl (.inl rfl) (pe_lst (pa_cons (pe_call GP hr6 (by rfl) gP kpP bP .nil pass0 (pa_cons (pe_ix ix_tup (pv 13) pe_int (fun _ _ => rfl)) pa_nil)) (pa_cons (pe_call GJ hr6 (by rfl) gJ kpJ bJ .nil pass0 (pa_cons (pe_ix ix_tup (pv 13) pe_int (fun _ _ => rfl)) (pa_cons (pe_ix ix_tup (pv 13) pe_int (fun _ _ => rfl)) pa_nil))) (pa_cons (pe_call GC hr6 (by rfl) gC kpC bC .nil pass0 (pa_cons (pe_ix ix_tup (pv 13) pe_int (fun _ _ => rfl)) (pa_cons (pe_ix ix_tup (pv 13) pe_int (fun _ _ => rfl)) pa_nil))) pa_nil)))))
      (pss_cons (ps_expr (pe_bm PySem.F.plainAttrs_list PySem.F.slot_list_append PySem.F.type_list_append mt_append (pv 14) (pa_cons (pe_call GL hr6 (by rfl) gL kpL bL .nil pass0 (pa_cons (pe_ix ix_tup (pv 13) pe_int (fun _ _ => rfl)) (pa_cons (pe_ix ix_tup (pv 13) pe_int (fun _ _ => rfl)) pa_nil))) pa_nil)))
      (pss_cons (ps_if (pt_not (pt_val (pe_call GK hr5 (by rfl) gK kpK bK .nil pass0 (pa_cons (pv 14) (pa_cons (pe_lc (own := [("_law_rows_here", 15)]) (g := gName 15) (tt := tYes) (te := tCall spMoved [] E0 (tCons (tVar 15) (tCons (tVar 12) tNil))) (by rfl) sc_law.nd (pi_list (pv 11))
        (blkOk_by (own := [("_law_rows_here", 15)]) (N := N2) (sc := defScope s_law) (by decide +kernel)) (fun _ _ _ _ _ => (pg_name (i := 15) sc_law.nd rfl (.inl rfl))) (fun _ _ _ _ _ => pts_nil) (fun _ _ _ _ _ => (pe_call GM hr1 (by rfl) gM kpM bM .nil pass0 (pa_cons (pv 15) (pa_cons (pv 12) pa_nil))))) pa_nil))))) (pss_one (ps_ret pe_bl)) pss_nil)
      (pss_cons (ps_set (i := 16) sc_law.nd rfl (.inl rfl) (pe_lst (pa_cons (pe_call GA hr6 (by rfl) gA kpA bA .nil pass0 (pa_cons (pe_ix ix_tup (pv 13) pe_int (fun _ _ => rfl)) pa_nil)) (pa_cons (pe_call GW hr6 (by rfl) gW kpW bW .nil pass0 (pa_cons (pe_ix ix_tup (pv 13) pe_int (fun _ _ => rfl)) (pa_cons (pe_ix ix_tup (pv 13) pe_int (fun _ _ => rfl)) pa_nil))) pa_nil))))
      (pss_cons (ps_if (pt_not (pt_val (pe_call GK hr5 (by rfl) gK kpK bK .nil pass0 (pa_cons (pv 16) (pa_cons (pe_lst (pa_cons (pe_callB call_ln (by rfl) T.len PySem.boot_len (pa_cons (pv 6) pa_nil)) (pa_cons (pe_cmpR (op_eqD hu) (pv 10) (pe_lst pa_nil) (nomark _)) pa_nil))) pa_nil))))) (pss_one (ps_ret pe_bl)) pss_nil)
      (pss_cons (ps_par (i := 17) (j := 18) (by rfl) sc_law.nd rfl rfl (by decide) rfl rfl (pa_cons (pe_call GN hr1 (by rfl) gN kpN bN .nil pass0 (pa_cons (pv 1) (pa_cons pe_int pa_nil))) (pa_cons (pe_op op_add pe_int (pe_call GN hr1 (by rfl) gN kpN bN .nil pass0 (pa_cons (pv 1) (pa_cons pe_int pa_nil)))) pa_nil)) (by rfl))
      (pss_cons (ps_if (pt_not (pt_val (pe_call GK hr5 (by rfl) gK kpK bK .nil pass0 (pa_cons (pe_call GH hr6 (by rfl) gH kpH bH .nil pass0 (pa_cons (pe_ix ix_tup (pv 13) pe_int (fun _ _ => rfl)) (pa_cons (pv 17) (pa_cons (pe_op op_add (pv 18) (pv 12)) pa_nil)))) (pa_cons (pe_cmpR (op_inD hu5) (pe_tup (pa_cons (pv 17) (pa_cons (pv 18) pa_nil))) (pv 6) (by rfl)) pa_nil))))) (pss_one (ps_ret pe_bl)) pss_nil)
      (pss_cons (ps_for PassesOwn.never rfl (pi_list (pv 14)) (pg_name (i := 15) sc_law.nd rfl (.inl rfl))
      (pss_one (ps_expr (pe_bm PySem.F.plainAttrs_list PySem.F.slot_list_append PySem.F.type_list_append mt_append (pv 15) (pa_cons (pe_tup (pa_cons pe_int (pa_cons pe_int (pa_cons pe_int pa_nil)))) pa_nil)))))
      (pss_one (ps_if (pt_cmpR (op_neD hu) (pv 13) (pe_tup (pa_cons (pe_call GM hr1 (by rfl) gM kpM bM .nil pass0 (pa_cons (pv 4) (pa_cons (pv 12) pa_nil))) (pa_cons (pe_call GM hr1 (by rfl) gM kpM bM .nil pass0 (pa_cons (pv 5) (pa_cons (pv 12) pa_nil))) pa_nil))) (nomark _)) (pss_one (ps_ret pe_bl)) pss_nil))))))))))))
      (pss_cons (ps_if (pt_not (pt_val (pe_call GK hr5 (by rfl) gK kpK bK .nil pass0 (pa_cons (pe_call GG hr6 (by rfl) gG kpG bG .nil pass0 (pa_cons (pv 4) pa_nil)) (pa_cons (pe_call GT hr1 (by rfl) gT kpT bT .nil pass0 (pa_cons (pe_call GLG hr1 (by rfl) gLG kpLG bLG .nil pass0 (pa_cons (pv 6) pa_nil)) pa_nil)) pa_nil))))) (pss_one (ps_ret pe_bl)) pss_nil)
      (pss_one (ps_for PassesOwn.never rfl (pi_range1 (by rfl) T.range (pa_cons pe_int pa_nil)) (pg_name (i := 17) sc_law.nd rfl (.inl rfl))
      (pss_one (ps_if (pt_not (pt_val (pe_call GK hr5 (by rfl) gK kpK bK .nil pass0 (pa_cons (pe_call GWT hr6 (by rfl) gWT kpWT bWT .nil pass0 (pa_cons (pv 4) (pa_cons (pv 17) pa_nil))) (pa_cons (pe_call GLR hr1 (by rfl) gLR kpLR bLR .nil pass0 (pa_cons (pv 6) (pa_cons (pv 17) pa_nil))) pa_nil))))) (pss_one (ps_ret pe_bl)) pss_nil))))))))))))
      (pss_one (ps_ret pe_bl)))))), ?_⟩
    -- the dice
    have hne' := hne
    refine ⟨_, rfl, s, ns, rfl, hs, fun d m nd gd => ?_⟩
    have tk : ∀ {p : Addr}, TabG H p → TabG (upd H d (dice s 0 m 0)) p := fun {p} ⟨pp, hp, ht⟩ => ⟨pp, by rw [upd_ne (ne_of_none hp nd)]; exact hp, ht⟩
    have hh' : TabG (but H Pa) Ph := by
      obtain ⟨pp, hp, ht⟩ := hth
      exact ⟨pp, by rw [but_at hne.symm]; exact hp, ht⟩
    have L0 : LS K d s ns Pa Ph (but (but H Pa) Ph) (upd H d (dice s 0 m 0)) := by
      refine ⟨⟨(but_same.trans but_same).trans (same_upd nd), but_same.free (but_same.free nd), but_seq hh' (but_seq hta hs), 0, m, 0, upd_same, gd⟩, tk hta, ?_, tk hth, but_self, hne⟩
      rw [but_at hne]; exact but_self
    revert L0
    generalize upd H d (dice s 0 m 0) = H0
    generalize but (but H Pa) Ph = F0'
    intro L0
    clear tk hh' hta hth hs nd
    -- cases
    refine ⟨_, rfl, _, d, s, ns, rfl, L0.dice, fun F1 H1 t1 u11 u12 r11 r12 X1 D1 ht1 k11 k12 B11 B12 => ?_⟩
    have L1 := L0.draw X1 D1
    have K1 : kCase.is F1 (.ref t1) (r11, r12) := ⟨t1, _, _, rfl, ht1, k11, k12⟩
    refine ⟨_, rfl, _, d, s, ns, rfl, L1.dice, fun F2 H2 t2 u21 u22 r21 r22 X2 D2 ht2 k21 k22 B21 B22 => ?_⟩
    have L2 := L1.draw X2 D2
    have K2 : kCase.is F2 (.ref t2) (r21, r22) := ⟨t2, _, _, rfl, ht2, k21, k22⟩
    replace K1 := kCase.mono X2.ff K1
    refine ⟨by show 2 ≤ sizeLine; decide, fun c nc => ?_⟩
    obtain ⟨L3, m3⟩ := L2.lay (o := .lst [.ref t1, .ref t2]) nc
    have hc : upd F2 c (.lst [.ref t1, .ref t2]) c = some (.lst [.ref t1, .ref t2]) := upd_same
    replace K1 := kCase.mono m3 K1
    replace K2 := kCase.mono m3 K2
    clear X1 D1 ht1 k11 k12 X2 D2 ht2 k21 k22 L0 L1 L2 m3
    revert L3 hc K1 K2
    generalize upd F2 c (.lst [.ref t1, .ref t2]) = F3
    generalize upd H2 c (.lst [.ref t1, .ref t2]) = H3
    intro L3 hc K1 K2
    -- by
    refine ⟨_, _, rfl, rfl, ⟨by decide, by decide, by decide⟩, _, _, rfl, rfl, _, rfl, _, _, rfl, rfl, ⟨by decide, by decide, by decide⟩, F3, d, s, ns, _, rfl, L3.dice, by decide, by decide, fun z H4 z0 z1 X4 D4 => ⟨_, _, rfl, rfl, ?_⟩⟩
    have L4 := L3.draw X4 D4
    have eL : LIM = 1000000000000 := rfl
    obtain ⟨by', hby, by0, by1⟩ : ∃ b : Int, (10 : Int) ^ (12 : Int).toNat - 400 - z = b ∧ 0 ≤ b ∧ b ≤ LIM - 400 := ⟨_, rfl, by
      have e12 : (10 : Int) ^ (12 : Int).toNat = 1000000000000 := by decide
      have e9 : (10 : Int) ^ (9 : Int).toNat = 1000000000 := by decide
      rw [e9] at z1
      rw [e12]
      omega, by
      have e12 : (10 : Int) ^ (12 : Int).toNat = 1000000000000 := by decide
      rw [e12]
      omega⟩
    have hv : (fun i j : Int => V.int (i - j)) ((10 : Int) ^ (12 : Int).toNat - 400) z = V.int by' := by rw [← hby]
    rw [hv]
    clear X4 D4 z0 z1 hby hv nc
    -- cases + cases[:1]
    refine ⟨_, rfl, _, rfl, 1, rfl, c, [.ref t1, .ref t2], rfl, SqL.of (L4.same _ _ hc), fun p2 np2 => ?_⟩
    rw [cut_first]
    obtain ⟨L5, m5⟩ := L4.lay (o := .lst [.ref t1]) np2
    have hp5 : upd F3 p2 (.lst [.ref t1]) p2 = some (.lst [.ref t1]) := upd_same
    replace hc := m5 _ _ hc
    replace K1 := kCase.mono m5 K1
    replace K2 := kCase.mono m5 K2
    change rCat _ _ (upd H4 p2 (.lst [.ref t1])) _
    revert L5 hp5 hc K1 K2
    generalize upd F3 p2 (.lst [.ref t1]) = F5
    generalize upd H4 p2 (.lst [.ref t1]) = H5
    intro L5 hp5 hc K1 K2
    refine ⟨c, p2, [.ref t1, .ref t2], [.ref t1], rfl, rfl, L5.same _ _ hc, L5.same _ _ hp5, by show 3 ≤ sizeLine; decide, fun p3 np3 => ?_⟩
    obtain ⟨L6, m6⟩ := L5.lay (o := .lst ([.ref t1, .ref t2] ++ [.ref t1])) np3
    have hp6 : upd F5 p3 (.lst ([.ref t1, .ref t2] ++ [.ref t1])) p3 = some (.lst [.ref t1, .ref t2, .ref t1]) := upd_same
    replace K1 := kCase.mono m6 K1
    replace K2 := kCase.mono m6 K2
    revert L6 hp6 K1 K2
    generalize upd F5 p3 (.lst ([.ref t1, .ref t2] ++ [.ref t1])) = F6
    generalize upd H5 p3 (.lst ([V.ref t1, .ref t2] ++ [.ref t1])) = H6
    intro L6 hp6 K1 K2
    clear m6 np3 hp5 L5 m5 np2 L4 L3 hc
    have all : ∀ x ∈ [V.ref t1, .ref t2, .ref t1], ∃ cs, kCase.is F6 x cs ∧ BigC cs.1 ∧ BigC cs.2 := fun x hx => by
      simp only [List.mem_cons, List.not_mem_nil, or_false] at hx
      rcases hx with rfl | rfl | rfl
      · exact ⟨_, K1, B11, B12⟩
      · exact ⟨_, K2, B21, B22⟩
      · exact ⟨_, K1, B11, B12⟩
    clear K1 K2 B11 B12 B21 B22
    refine ⟨p3, rfl, ⟨_, SqL.of (L6.same _ _ hp6)⟩, for_list (K := K) (a := p3) (xs := [V.ref t1, .ref t2, .ref t1]) (fun i σ H' => ∃ (F' : Hp) (y4 y5 y6 y7 y8 y9 y10 y11 y12 y13 y14 y15 y16 y17 y18 : Option V), σ = [some (.ref s), some (.ref d), some (.ref c), some (.int by'), y4, y5, y6, y7, y8, y9, y10, y11, y12, y13, y14, y15, y16, y17, y18, none, none] ∧ Same F6 F' ∧ LS K d s ns Pa Ph F' H')
      ⟨F6, _, _, _, _, _, _, _, _, _, _, _, _, _, _, _, rfl, Same.refl _, L6⟩ (fun i σ H' _ ⟨_, _, _, _, _, _, _, _, _, _, _, _, _, _, _, _, _, sm, L⟩ => SqL.of (L.same _ _ (sm _ _ hp6))) ?_ ?_⟩
    · rintro i x σ H7 hi ⟨F7, y4, y5, y6, y7, y8, y9, y10, y11, y12, y13, y14, y15, y16, y17, y18, rfl, m7, L7⟩
      obtain ⟨⟨one, other⟩, ⟨t, u1, u2, rfl, ht, k1, k2⟩, B1, B2⟩ := all x (List.mem_of_getElem? hi)
      simp only at k1 k2 B1 B2
      replace k1 := (kL kRow).mono m7 k1
      replace k2 := (kL kRow).mono m7 k2
      refine ⟨t, _, rfl, SqT.of (L7.same _ _ (m7 _ _ ht)), rfl, _, _, rfl, _, _, rfl, rfl, ?_⟩
      -- mine, theirs
      have sml : ∀ {rs : List Row}, BigC rs → Small rs := fun {rs} B => ⟨by have := B.1; omega, fun r hr => by obtain ⟨x1, x2, x3, x4, x5⟩ := B.2 r hr; exact ⟨x3, x4, x5⟩⟩
      have inw : ∀ {rs : List Row} {ps : List Pt}, BigC rs → NamesOf rs ps → ∀ p ∈ ps, InW p := fun {rs ps} B N p hp => by
        obtain ⟨r, hr, i1, i2, i3⟩ := (N.mem p).mp hp
        obtain ⟨x1, x2, x3, x4, x5⟩ := B.2 r hr
        exact ⟨by omega, by omega, by omega, by omega⟩
      refine ⟨_, rfl, absb F7 H7, u1, one, rfl, L7.absb.same, absb_full, (kL kRow).mono (absb_sub L7.same) k1, sml B1, L7.absb.ret fun F8 H8 am mine L8 m8 n8 km N8 => ?_⟩
      replace m8 := (absb_sub L7.same).trans m8
      refine ⟨_, rfl, absb F8 H8, u2, other, rfl, L8.absb.same, absb_full, (kL kRow).mono ((m8).trans (absb_sub L8.same)) k2, sml B2, L8.absb.ret fun F9 H9 at' theirs L9 m9 n9 kt N9 => ?_⟩
      replace m9 := (absb_sub L8.same).trans m9
      refine ⟨_, _, rfl, ?_⟩
      replace km := (kL kPt).mono m9 km
      replace k1 := (kL kRow).mono (m8.trans m9) k1
      replace k2 := (kL kRow).mono (m8.trans m9) k2
      have M9 := (m7.trans m8).trans m9
      have W1 := inw B1 N8
      have W2 := inw B2 N9
      have l1 := few_w (lt2_ne N8.sort) W1
      have l2 := few_w (lt2_ne N9.sort) W2
      clear m7 m8 m9 n8 n9 L7 L8 ht hi inw sml
      obtain ⟨_, xm, e, hm, pm⟩ := id km
      cases e
      obtain ⟨_, xt, e, hxt, pt'⟩ := id kt
      cases e
      -- known
      refine ⟨_, rfl, at', rfl, ⟨_, SqL.of (L9.same _ _ hxt)⟩, fun D nD => ?_⟩
      refine it_by (walk_list (K := K) (a := at') (xs := xt)) (fun i H' => ∃ (F' : Hp) (acc : List V), Ext M0 F9 H9 F' H' ∧ H' D = some (.lst acc) ∧ F' D = none ∧ Paired (kPT.is F') acc (theirs.take i))
        ⟨F9, [], (Ext.refl L9.same).tmp nD, upd_same, L9.same.free nD, .nil⟩ (fun i H' _ ⟨_, _, z, _⟩ => SqL.of (z.same _ _ (L9.same _ _ hxt))) ?_ ?_
      · rintro i x _ H2 hi ⟨F2, acc, X2, hD, fD, hacc⟩ ⟨rfl, hx⟩
        obtain ⟨p, hpi, tp, rfl, htp⟩ := pr_get pt' hx
        refine ⟨rfl, _, rfl, (by show 2 ≤ sizeLine; decide), fun t nt => ?_⟩
        have Dt : D ≠ t := ne_of_none hD nt
        have la : acc.length ≤ 3200 := by
          rw [pr_len hacc]
          have h1 := List.length_take_le' i theirs
          omega
        have htp2 := X2.ff _ _ htp
        refine ⟨acc, by rw [upd_ne Dt]; exact hD, by rw [sizeLine_eq]; omega, ?_⟩
        have fD2 : upd F2 t (.tup [.ref tp, .bl true]) D = none := by rw [upd_ne Dt]; exact fD
        have sm : Same F2 (upd F2 t (.tup [.ref tp, .bl true])) := same_upd (X2.ffree nt)
        refine ⟨upd F2 t (.tup [.ref tp, .bl true]), acc ++ [.ref t], (X2.lay nt).put (.inl nD) fD2, upd_same, fD2, ?_⟩
        rw [show theirs.take (i + 1) = theirs.take i ++ [p] by rw [List.take_add_one, hpi]; rfl]
        exact pr_snoc (pr_mono (fun _ _ z => kPT.mono sm z) hacc) ⟨t, tp, rfl, upd_same, sm _ _ htp2⟩
      · rintro H10 ⟨F10, acc, X10, hD, fD, hacc⟩
        rw [pr_len pt', List.take_length] at hacc
        obtain ⟨es, e1, e2, e3⟩ := placesT hacc
        subst e1
        refine ⟨D, es, rfl, hD, fun e he => ⟨X10.fh _ _ (e3 e he).1, X10.fh _ _ (e3 e he).2⟩, by rw [e2]; exact lt2_ne N9.sort, fun dd ndd => ?_⟩
        rw [e2]
        obtain ⟨L11, m11⟩ := (L9.step X10).lay (o := .dT (theirs.map fun q => (kk q, V.bl true))) ndd
        have hK : upd F10 dd (.dT (theirs.map fun q => (kk q, V.bl true))) dd = some (.dT (known theirs)) := upd_same
        replace m11 := X10.ff.trans m11
        revert L11 m11 hK
        generalize upd F10 dd (.dT (theirs.map fun q => (kk q, V.bl true))) = F11
        generalize upd H10 dd (.dT (theirs.map fun q => (kk q, V.bl true))) = H11
        intro L11 hK m11
        clear X10 hD fD hacc e2 e3 ndd nD
        replace km := (kL kPt).mono m11 km
        replace kt := (kL kPt).mono m11 kt
        replace k1 := (kL kRow).mono m11 k1
        replace k2 := (kL kRow).mono m11 k2
        replace hm := m11 _ _ hm
        replace pm := pr_mono (fun _ _ z => kPt.mono m11 z) pm
        replace M9 := M9.trans m11
        clear hxt pt' m11 L9
        -- both
        have key : ∀ (φ : Pt → Bool) (a : Addr) (ps : List Pt) (i : Nat) (p : Pt), ps[i]? = some p → (ps.take (i + 1)).filter φ = (ps.take i).filter φ ++ [p].filter φ := fun φ a ps i p h => by
          rw [List.take_add_one, h, ← List.filter_append]; rfl
        refine ⟨_, rfl, am, rfl, ⟨_, SqL.of (L11.same _ _ hm)⟩, fun D1 nD1 => ?_⟩
        refine it_by (walk_list (K := K) (a := am) (xs := xm)) (fun i H' => ∃ acc : List V, Ext M0 F11 H11 F11 H' ∧ H' D1 = some (.lst acc) ∧ Paired (kPt.is F11) acc ((mine.take i).filter fun p => decide (p ∈ theirs)))
          ⟨[], (Ext.refl L11.same).tmp nD1, upd_same, .nil⟩ (fun i H' _ ⟨_, z, _⟩ => SqL.of (z.fh _ _ hm)) ?_ ?_
        · rintro i x _ H2 hi ⟨acc, X2, hD, hacc⟩ ⟨rfl, hx⟩
          obtain ⟨p, hpi, tp, rfl, htp⟩ := pr_get pm hx
          have la : acc.length ≤ 3200 := by
            rw [pr_len hacc]
            have h1 := List.length_take_le' i mine
            have h2 := List.length_filter_le (fun p => decide (p ∈ theirs)) (mine.take i)
            omega
          refine ⟨rfl, _, rfl, _, rfl, dd, _, rfl, DGet.t (k := kk p) (X2.fh _ _ hK) (X2.fh _ _ htp), ?_⟩
          rw [known_has]
          by_cases e : p ∈ theirs
          · rw [decide_eq_true e]
            refine ⟨_, rfl, _, rfl, acc, hD, by rw [sizeLine_eq]; omega, acc ++ [.ref tp], X2.put (.inl nD1) (L11.same.free nD1), upd_same, ?_⟩
            rw [key _ am mine i p hpi, List.filter_cons_of_pos (by simp [e])]
            exact pr_snoc hacc ⟨tp, rfl, htp⟩
          · rw [decide_eq_false e]
            refine ⟨_, rfl, acc, X2, hD, ?_⟩
            rw [key _ am mine i p hpi, List.filter_cons_of_neg (by simp [e])]
            simpa using hacc
        · rintro H12 ⟨accb, X12, hDb, haccb⟩
          rw [pr_len pm, List.take_length] at haccb
          obtain ⟨L12, m12⟩ : LS K d s ns Pa Ph (upd F11 D1 (.lst accb)) H12 ∧ Same F11 (upd F11 D1 (.lst accb)) := ⟨L11.step (X12.frz nD1 (L11.same.free nD1) hDb), same_upd (L11.same.free nD1)⟩
          have kb : (kL kPt).is (upd F11 D1 (.lst accb)) (.ref D1) (mine.filter fun p => decide (p ∈ theirs)) := kL_new (L11.same.free nD1) haccb
          revert L12 m12 kb
          generalize upd F11 D1 (.lst accb) = F12
          intro L12 m12 kb
          replace km := (kL kPt).mono m12 km
          replace kt := (kL kPt).mono m12 kt
          replace k1 := (kL kRow).mono m12 k1
          replace k2 := (kL kRow).mono m12 k2
          replace hm := m12 _ _ hm
          replace pm := pr_mono (fun _ _ z => kPt.mono m12 z) pm
          replace M9 := M9.trans m12
          replace hK := m12 _ _ hK
          clear X12 hDb haccb m12 nD1 L11
          -- alone
          refine ⟨_, rfl, am, rfl, ⟨_, SqL.of (L12.same _ _ hm)⟩, fun D2 nD2 => ?_⟩
          refine it_by (walk_list (K := K) (a := am) (xs := xm)) (fun i H' => ∃ acc : List V, Ext M0 F12 H12 F12 H' ∧ H' D2 = some (.lst acc) ∧ Paired (kPt.is F12) acc ((mine.take i).filter fun p => decide (p ∉ theirs)))
            ⟨[], (Ext.refl L12.same).tmp nD2, upd_same, .nil⟩ (fun i H' _ ⟨_, z, _⟩ => SqL.of (z.fh _ _ hm)) ?_ ?_
          · rintro i x _ H2 hi ⟨acc, X2, hD, hacc⟩ ⟨rfl, hx⟩
            obtain ⟨p, hpi, tp, rfl, htp⟩ := pr_get pm hx
            have la : acc.length ≤ 3200 := by
              rw [pr_len hacc]
              have h1 := List.length_take_le' i mine
              have h2 := List.length_filter_le (fun p => decide (p ∉ theirs)) (mine.take i)
              omega
            refine ⟨rfl, _, rfl, _, rfl, dd, _, rfl, DGet.t (k := kk p) (X2.fh _ _ hK) (X2.fh _ _ htp), ?_⟩
            rw [known_has]
            by_cases e : p ∈ theirs
            · rw [decide_eq_true e]
              refine ⟨_, rfl, acc, X2, hD, ?_⟩
              rw [key _ am mine i p hpi, List.filter_cons_of_neg (by simp [e])]
              simpa using hacc
            · rw [decide_eq_false e]
              refine ⟨_, rfl, _, rfl, acc, hD, by rw [sizeLine_eq]; omega, acc ++ [.ref tp], X2.put (.inl nD2) (L12.same.free nD2), upd_same, ?_⟩
              rw [key _ am mine i p hpi, List.filter_cons_of_pos (by simp [e])]
              exact pr_snoc hacc ⟨tp, rfl, htp⟩
          · rintro H13 ⟨acca, X13, hDa, hacca⟩
            rw [pr_len pm, List.take_length] at hacca
            obtain ⟨L13, m13⟩ : LS K d s ns Pa Ph (upd F12 D2 (.lst acca)) H13 ∧ Same F12 (upd F12 D2 (.lst acca)) := ⟨L12.step (X13.frz nD2 (L12.same.free nD2) hDa), same_upd (L12.same.free nD2)⟩
            have ka : (kL kPt).is (upd F12 D2 (.lst acca)) (.ref D2) (mine.filter fun p => decide (p ∉ theirs)) := kL_new (L12.same.free nD2) hacca
            revert L13 m13 ka
            generalize upd F12 D2 (.lst acca) = F13
            intro L13 m13 ka
            replace km := (kL kPt).mono m13 km
            replace kt := (kL kPt).mono m13 kt
            replace kb := (kL kPt).mono m13 kb
            replace k1 := (kL kRow).mono m13 k1
            replace k2 := (kL kRow).mono m13 k2
            replace M9 := M9.trans m13
            clear X13 hDa hacca m13 nD2 L12 hm pm hK key
            obtain ⟨both, hboth, Sb, Mb⟩ : ∃ both : List Pt, mine.filter (fun p => decide (p ∈ theirs)) = both ∧ both.Pairwise lt2 ∧ ∀ p, p ∈ both ↔ mem one p ∧ mem other p := ⟨_, rfl, N8.sort.filter _, fun p => by rw [List.mem_filter, decide_eq_true_eq, N8.mem, N9.mem]⟩
            obtain ⟨alone, halone, Sa, Ma⟩ : ∃ alone : List Pt, mine.filter (fun p => decide (p ∉ theirs)) = alone ∧ alone.Pairwise lt2 ∧ ∀ p, p ∈ alone ↔ mem one p ∧ ¬ mem other p := ⟨_, rfl, N8.sort.filter _, fun p => by rw [List.mem_filter, decide_eq_true_eq, N8.mem, N9.mem]⟩
            have lb : both.length ≤ 3200 := by rw [← hboth]; exact Nat.le_trans (List.length_filter_le _ _) l1
            have la : alone.length ≤ 3200 := by rw [← halone]; exact Nat.le_trans (List.length_filter_le _ _) l1
            rw [hboth] at kb
            rw [halone] at ka
            clear hboth halone
            -- due
            obtain ⟨xa, xb, ks, hxa, hxb, lxa, lxb, exk, KS⟩ := sort_prep km kt W1 W2
            refine ⟨_, rfl, _, rfl, _, rfl, am, at', xa, xb, rfl, rfl, L13.same _ _ hxa, L13.same _ _ hxb, by rw [sizeLine_eq]; omega, fun p np => ?_⟩
            rw [exk]
            have LT := L13.tmp (o := .lst (ks.map fun k => V.ref k.1)) np
            refine ⟨p, ks, rfl, SqL.of upd_same, fun k hk => SqT.of (LT.same _ _ (KS.tup k hk)), KS.wide, fun as M nas sub all' => ?_⟩
            have LU := LT.tmp (o := WideO P w as M) nas
            refine ⟨as, M, rfl, upd_same, KS.pts LU.same sub, fun zs every p' hzs Se hm' hfrom np' => ?_⟩
            obtain ⟨L14, m14⟩ := LU.lay (o := .lst zs) np'
            have ke : (kL kPt).is (upd F13 p' (.lst zs)) (.ref p') every := kL_new (LU.same.free np') (KS.back LU.same sub hzs hfrom)
            have Me := KS.mem sub all' hm'
            clear hzs hfrom np' hm' all' sub nas np LT LU KS exk hxa hxb lxa lxb
            revert L14 m14 ke
            generalize upd F13 p' (.lst zs) = F14
            generalize upd (upd (upd H13 p (.lst (ks.map fun k => V.ref k.1))) as (WideO P w as M)) p' (.lst zs) = H14
            intro L14 m14 ke
            replace km := (kL kPt).mono m14 km
            replace kb := (kL kPt).mono m14 kb
            replace ka := (kL kPt).mono m14 ka
            replace k1 := (kL kRow).mono m14 k1
            replace k2 := (kL kRow).mono m14 k2
            replace M9 := M9.trans m14
            clear m14 L13 kt
            have le : every.length ≤ 3200 := few_w (lt2_ne Se) fun p hp => ((Me p).mp hp).elim (W1 p) (W2 p)
            refine ⟨_, rfl, _, rfl, by show 4 ≤ sizeLine; decide, fun l nl => ?_⟩
            obtain ⟨L15, m15⟩ := L14.lay (o := .lst [.ref am, .ref p', .ref D1, .ref D2]) nl
            have hl : upd F14 l (.lst [.ref am, .ref p', .ref D1, .ref D2]) l = some (.lst [.ref am, .ref p', .ref D1, .ref D2]) := upd_same
            replace km := (kL kPt).mono m15 km
            replace ke := (kL kPt).mono m15 ke
            replace kb := (kL kPt).mono m15 kb
            replace ka := (kL kPt).mono m15 ka
            replace k1 := (kL kRow).mono m15 k1
            replace k2 := (kL kRow).mono m15 k2
            replace M9 := M9.trans m15
            revert L15 hl km ke kb ka k1 k2 M9
            generalize upd F14 l (.lst [.ref am, .ref p', .ref D1, .ref D2]) = F15
            generalize upd H14 l (.lst [.ref am, .ref p', .ref D1, .ref D2]) = H15
            intro L15 hl km ke kb ka k1 k2 M9
            clear m15 nl L14
            have pl : Paired ((kL kPt).is F15) [.ref am, .ref p', .ref D1, .ref D2] [mine, every, both, alone] := .cons km (.cons ke (.cons kb (.cons ka .nil)))
            have good : ∀ ps ∈ [mine, every, both, alone], ps.Pairwise lt2 ∧ ps.length ≤ 3200 := fun ps hp => by
              simp only [List.mem_cons, List.not_mem_nil, or_false] at hp
              rcases hp with rfl | rfl | rfl | rfl
              · exact ⟨N8.sort, l1⟩
              · exact ⟨Se, le⟩
              · exact ⟨Sb, lb⟩
              · exact ⟨Sa, la⟩
            refine ⟨l, rfl, ⟨_, SqL.of (L15.same _ _ hl)⟩, fun D3 nD3 => ?_⟩
            refine it_by (walk_list (K := K) (a := l) (xs := [.ref am, .ref p', .ref D1, .ref D2])) (fun i H' => ∃ (F' : Hp) (acc : List V) (ts : List (List Row)), Ext M0 F15 H15 F' H' ∧ H' D3 = some (.lst acc) ∧ F' D3 = none ∧ Paired ((kL kRow).is F') acc ts ∧ ts.length = i ∧ i ≤ 4 ∧ ∀ (j : Nat) (ps : List Pt) (t : List Row), [mine, every, both, alone][j]? = some ps → ts[j]? = some t → ToldOf ps t)
              ⟨F15, [], [], (Ext.refl L15.same).tmp nD3, upd_same, L15.same.free nD3, .nil, rfl, by decide, fun j ps t _ h => absurd h (by simp)⟩ (fun i H' _ ⟨_, _, _, X, _⟩ => SqL.of (X.same _ _ (L15.same _ _ hl))) ?_ ?_
            · rintro i' x _ H6 hi' ⟨F6', vacc, ts, X6, hD6, fD6, hva, hln, hi4, hnm⟩ ⟨rfl, hx⟩
              obtain ⟨ps, hps, hk⟩ := pr_get pl hx
              obtain ⟨gs, gl⟩ := good ps (List.mem_of_getElem? hps)
              have i4 : i' < 4 := by
                have := (List.getElem?_eq_some_iff.mp hps).1
                simpa using this
              refine ⟨rfl, _, rfl, F6', x, ps, rfl, X6.fh, (kL kPt).mono X6.ff hk, gs, by omega, fun F7' H7' a7 vs7 t X7 na7 fa7 ha7 hp7 td => ?_⟩
              have hD7 : H7' D3 = some (.lst vacc) := X7.same _ _ hD6
              have fD7 : F7' D3 = none := by rw [X7.new D3 (by rw [hD6]; simp)]; exact fD6
              have Da : D3 ≠ a7 := ne_of_none hD6 na7
              have fD8 : upd F7' a7 (.lst vs7) D3 = none := by rw [upd_ne Da]; exact fD7
              have Y7 := X7.frz na7 fa7 ha7
              refine ⟨vacc, hD7, by rw [pr_len hva, hln, sizeLine_eq]; omega, upd F7' a7 (.lst vs7), vacc ++ [.ref a7], ts ++ [t], (X6.trans Y7).put (.inl nD3) fD8, upd_same, fD8, pr_snoc (pr_mono (fun _ _ z => (kL kRow).mono Y7.ff z) hva) (kL_new fa7 hp7), by simp [hln], by omega, fun j ps' t' e1 e2 => ?_⟩
              by_cases hj : j < ts.length
              · rw [List.getElem?_append_left hj] at e2
                exact hnm j ps' t' e1 e2
              · have ej : j = ts.length := by
                  have := (List.getElem?_eq_some_iff.mp e2).1
                  rw [List.length_append, List.length_singleton] at this
                  omega
                rw [ej, List.getElem?_append_right (Nat.le_refl _), Nat.sub_self] at e2
                cases e2
                rw [ej, hln, hps] at e1
                cases e1
                exact td
            · rintro H16 ⟨F16', vacc, ts, X16, hD16, fD16, hva, hln, _, hnm⟩
              obtain ⟨ta, tb, tc, td, rfl⟩ : ∃ a b c d, ts = [a, b, c, d] := match ts, hln with | [a, b, c, d], _ => ⟨a, b, c, d, rfl⟩
              have Ta := hnm 0 _ _ rfl rfl
              have Tb := hnm 1 _ _ rfl rfl
              have Tc := hnm 2 _ _ rfl rfl
              have Td := hnm 3 _ _ rfl rfl
              have L16 := L15.step (X16.frz nD3 fD16 hD16)
              have m16 := (X16.frz nD3 fD16 hD16).ff
              have kd : (kL (kL kRow)).is (upd F16' D3 (.lst vacc)) (.ref D3) [ta, tb, tc, td] := kL_new fD16 hva
              revert L16 m16 kd
              generalize upd F16' D3 (.lst vacc) = F16
              intro L16 m16 kd
              replace km := (kL kPt).mono m16 km
              replace ka := (kL kPt).mono m16 ka
              replace k1 := (kL kRow).mono m16 k1
              replace k2 := (kL kRow).mono m16 k2
              replace M9 := M9.trans m16
              clear m16 X16 hD16 fD16 hva hln hnm pl good nD3 hl L15 ke kb
              have la' := Ta.len
              have lb' := Tb.len
              have lc' := Tc.len
              have ld' := Td.len
              -- for more in [0, by]
              refine ⟨_, rfl, by show 2 ≤ sizeLine; decide, fun l2 nl2 => ?_⟩
              obtain ⟨L17, m17⟩ := L16.lay (o := .lst [.int 0, .int by']) nl2
              have hl2 : upd F16 l2 (.lst [.int 0, .int by']) l2 = some (.lst [.int 0, .int by']) := upd_same
              replace km := (kL kPt).mono m17 km
              replace ka := (kL kPt).mono m17 ka
              replace kd := (kL (kL kRow)).mono m17 kd
              replace k1 := (kL kRow).mono m17 k1
              replace k2 := (kL kRow).mono m17 k2
              replace M9 := M9.trans m17
              revert L17 hl2 km ka kd k1 k2 M9
              generalize upd F16 l2 (.lst [.int 0, .int by']) = F17
              generalize upd H16 l2 (.lst [V.int 0, .int by']) = H17
              intro L17 hl2 km ka kd k1 k2 M9
              clear m17 nl2 L16
              refine ⟨l2, rfl, ⟨_, SqL.of (L17.same _ _ hl2)⟩, for_list (K := K) (a := l2) (xs := [.int 0, .int by']) (fun i σ H' => ∃ (F' : Hp) (z12 z13 z14 z15 z16 z17 z18 : Option V), σ = [some (.ref s), some (.ref d), some (.ref c), some (.int by'), some u1, some u2, some (.ref am), some (.ref at'), some (.ref dd), some (.ref D1), some (.ref D2), some (.ref D3), z12, z13, z14, z15, z16, z17, z18, none, none] ∧ Same F17 F' ∧ LS K d s ns Pa Ph F' H')
                ⟨F17, _, _, _, _, _, _, _, rfl, Same.refl _, L17⟩ (fun i σ H' _ ⟨_, _, _, _, _, _, _, _, _, sm, L⟩ => SqL.of (L.same _ _ (sm _ _ hl2))) ?_ ?_⟩
              · rintro j x σ H18 hj ⟨F18, z12, z13, z14, z15, z16, z17, z18, rfl, m18, L18⟩
                obtain ⟨more, rfl, mo0, mo1⟩ : ∃ more : Int, x = .int more ∧ 0 ≤ more ∧ more ≤ LIM - 400 := by
                  have hm := List.mem_of_getElem? hj
                  simp only [List.mem_cons, List.not_mem_nil, or_false] at hm
                  rcases hm with rfl | rfl
                  · exact ⟨0, rfl, by decide, by decide⟩
                  · exact ⟨by', rfl, by0, by1⟩
                have ok1 := big_ok B1 mo0 mo1
                have ok2 := big_ok B2 mo0 mo1
                have bl1 := B1.1
                have bl2 := B2.1
                -- handed
                refine ⟨_, rfl, _, rfl, F18, u1, one, more, rfl, L18.same, (kL kRow).mono m18 k1, by omega, L18.ret fun F19 H19 a1 o1 L19 m19 n19 q1 e1 => ?_⟩
                subst e1
                refine ⟨_, rfl, _, rfl, F19, u2, other, more, rfl, L19.same, (kL kRow).mono (m18.trans m19) k2, by omega, L19.ret fun F20 H20 a2 o2 L20 m20 n20 q2 e2 => ?_⟩
                subst e2
                replace q1 := (kL kRow).mono m20 q1
                refine ⟨by show 2 ≤ sizeLine; decide, fun th nth => ?_⟩
                obtain ⟨LB, mB⟩ := L20.lay (o := .tup [.ref a1, .ref a2]) nth
                have hth : upd F20 th (.tup [.ref a1, .ref a2]) th = some (.tup [.ref a1, .ref a2]) := upd_same
                replace q1 := (kL kRow).mono mB q1
                replace q2 := (kL kRow).mono mB q2
                replace mB := ((m18.trans m19).trans m20).trans mB
                revert LB hth q1 q2 mB
                generalize upd F20 th (.tup [.ref a1, .ref a2]) = FB
                generalize upd H20 th (.tup [.ref a1, .ref a2]) = HB
                intro LB hth q1 q2 mB
                clear nth L20 m20 n20 L19 m19 n19 m18 L18
                -- found
                refine ⟨_, rfl, th, [.ref a1, .ref a2], 0, .ref a1, rfl, rfl, SqT.of (LB.same _ _ hth), rfl, FB, _, _, rfl, LB.same, q1, ok1, LB.ret fun F22 H22 b1 o1 L22 m22 n22 p1 t1 => ?_⟩
                have f1 := LB.same.free n22
                have d1 := LB.dice.ne n22
                refine ⟨_, rfl, th, [.ref a1, .ref a2], 0, .ref a1, rfl, rfl, SqT.of (L22.same _ _ (m22 _ _ hth)), rfl, _, rfl, th, [.ref a1, .ref a2], 1, .ref a2, rfl, rfl, SqT.of (L22.same _ _ (m22 _ _ hth)), rfl, F22, _, _, _, _, rfl, L22.same, (kL kRow).mono m22 q1, (kL kRow).mono m22 q2, ok1, ok2, L22.ret fun F23 H23 b2 o2 L23 m23 n23 p2 t2 => ?_⟩
                have f2 := m22.free (L22.same.free n23)
                have d2 := L22.dice.ne n23
                replace p1 := (kL kRow).mono m23 p1
                replace m23 := m22.trans m23
                clear L22 m22 n22 n23
                refine ⟨_, rfl, th, [.ref a1, .ref a2], 0, .ref a1, rfl, rfl, SqT.of (L23.same _ _ (m23 _ _ hth)), rfl, _, rfl, th, [.ref a1, .ref a2], 1, .ref a2, rfl, rfl, SqT.of (L23.same _ _ (m23 _ _ hth)), rfl, F23, _, _, _, _, rfl, L23.same, (kL kRow).mono m23 q1, (kL kRow).mono m23 q2, ok1, ok2, L23.ret fun F24 H24 b3 o3 L24 m24 n24 p3 t3 => ?_⟩
                have f3 := m23.free (L23.same.free n24)
                have d3 := L23.dice.ne n24
                replace p1 := (kL kRow).mono m24 p1
                replace p2 := (kL kRow).mono m24 p2
                replace m24 := m23.trans m24
                clear L23 m23 n24
                refine ⟨by show 3 ≤ sizeLine; decide, fun lf nlf => ?_⟩
                have flf := m24.free (L24.same.free nlf)
                have dlf := L24.dice.ne nlf
                have old : ∀ {b : Addr} {o : List Row}, (kL kRow).is F24 (.ref b) o → b ≠ lf := fun {b o} ⟨_, vs, e, h, _⟩ => by
                  cases e
                  exact ne_of_none (L24.same _ _ h) nlf
                have x1 := old p1
                have x2 := old p2
                have x3 := old p3
                clear old
                have L25 := L24.tmp (o := .lst [.ref b1, .ref b2, .ref b3]) nlf
                have hlf : upd H24 lf (.lst [.ref b1, .ref b2, .ref b3]) lf = some (.lst [.ref b1, .ref b2, .ref b3]) := upd_same
                have flf24 := L24.same.free nlf
                revert L25 hlf
                generalize upd H24 lf (.lst [.ref b1, .ref b2, .ref b3]) = H25
                intro L25 hlf
                refine ⟨_, rfl, .inl ⟨rfl, _, SqL.of hlf⟩, _, rfl, th, [.ref a1, .ref a2], 0, .ref a1, rfl, rfl, SqT.of (L25.same _ _ (m24 _ _ hth)), rfl, _, rfl, th, [.ref a1, .ref a2], 1, .ref a2, rfl, rfl, SqT.of (L25.same _ _ (m24 _ _ hth)), rfl, F24, _, _, _, _, rfl, L25.same, (kL kRow).mono m24 q1, (kL kRow).mono m24 q2, ok1, ok2, fun F26 H26 b4 v4 o4 X26 n26 f26 h26 p26 t4 => ?_⟩
                have f4 := m24.free (L25.same.free n26)
                have d4 := L25.dice.ne n26
                have x4 : b4 ≠ lf := fun e => ne_of_none hlf n26 e.symm
                have L26 := L25.step (X26.frz n26 f26 h26)
                have m26 := (X26.frz n26 f26 h26).ff
                have p4 : (kL kRow).is (upd F26 b4 (.lst v4)) (.ref b4) o4 := kL_new f26 p26
                have hlf26 : H26 lf = some (.lst [.ref b1, .ref b2, .ref b3]) := X26.same _ _ hlf
                have flf26 : upd F26 b4 (.lst v4) lf = none := by
                  rw [upd_ne (ne_of_none hlf n26), X26.new lf (by rw [hlf]; simp)]; exact flf24
                revert L26 m26 p4 flf26
                generalize upd F26 b4 (.lst v4) = F27
                intro L26 m26 p4 flf26
                replace p1 := (kL kRow).mono m26 p1
                replace p2 := (kL kRow).mono m26 p2
                replace p3 := (kL kRow).mono m26 p3
                replace m26 := m24.trans m26
                clear L25 L24 m24 X26 n26 f26 h26 p26 hlf flf24 nlf
                refine ⟨lf, [.ref b1, .ref b2, .ref b3], _, rfl, rfl, hlf26, by show 3 < sizeLine; decide, ?_⟩
                obtain ⟨L29, m29⟩ := (L26.put (ys := [.ref b1, .ref b2, .ref b3] ++ [.ref b4]) flf26 dlf.symm hlf26).fz flf26 dlf.symm upd_same
                have hf : upd F27 lf (.lst ([.ref b1, .ref b2, .ref b3] ++ [.ref b4])) lf = some (.lst [.ref b1, .ref b2, .ref b3, .ref b4]) := upd_same
                replace p1 := (kL kRow).mono m29 p1
                replace p2 := (kL kRow).mono m29 p2
                replace p3 := (kL kRow).mono m29 p3
                replace p4 := (kL kRow).mono m29 p4
                replace m29 := m26.trans m29
                revert L29 hf p1 p2 p3 p4 m29
                generalize upd F27 lf (.lst ([.ref b1, .ref b2, .ref b3] ++ [.ref b4])) = F29
                generalize upd H26 lf (.lst ([V.ref b1, .ref b2, .ref b3] ++ [.ref b4])) = H29
                intro L29 hf p1 p2 p3 p4 m29
                clear L26 m26 hlf26 flf26
                -- like(found, [moved(..) ..])
                obtain ⟨_, xd, ed, hxd, pd⟩ := (kL (kL kRow)).mono (mB.trans m29) kd
                cases ed
                have lts : ∀ t ∈ [ta, tb, tc, td], t.length ≤ 3200 := fun t ht => by
                  simp only [List.mem_cons, List.not_mem_nil, or_false] at ht
                  rcases ht with rfl | rfl | rfl | rfl <;> omega
                refine ⟨_, rfl, _, rfl, D3, rfl, ⟨_, SqL.of (L29.same _ _ hxd)⟩, fun D4 nD4 => ?_⟩
                refine it_by (walk_list (K := K) (a := D3) (xs := xd)) (fun i H' => ∃ (F' : Hp) (acc : List V), Ext M0 F29 H29 F' H' ∧ H' D4 = some (.lst acc) ∧ F' D4 = none ∧ Paired ((kL kRow).is F') acc (([ta, tb, tc, td].take i).map (moved more)))
                  ⟨F29, [], (Ext.refl L29.same).tmp nD4, upd_same, L29.same.free nD4, .nil⟩ (fun i H' _ ⟨_, _, X, _⟩ => SqL.of (X.same _ _ (L29.same _ _ hxd))) ?_ ?_
                · rintro j2 x _ H6 hj2 ⟨F6', acc, X6, hD, fD, hp⟩ ⟨rfl, hx⟩
                  obtain ⟨rs, hrs, hv⟩ := pr_get pd hx
                  have lr := lts rs (List.mem_of_getElem? hrs)
                  refine ⟨rfl, _, rfl, _, rfl, F6', x, rs, more, rfl, X6.fh, (kL kRow).mono X6.ff hv, by omega, fun F7' H7' a7 vs7 out X7 na fa ha hp7 e => ?_⟩
                  have hD7 : H7' D4 = some (.lst acc) := X7.same _ _ hD
                  have fD7 : F7' D4 = none := by rw [X7.new D4 (by rw [hD]; simp)]; exact fD
                  have Da : D4 ≠ a7 := ne_of_none hD na
                  have fD8 : upd F7' a7 (.lst vs7) D4 = none := by rw [upd_ne Da]; exact fD7
                  have Y7 := X7.frz na fa ha
                  have la : acc.length ≤ 4 := by
                    rw [pr_len hp, List.length_map]
                    exact Nat.le_trans (List.length_take_le' _ _) (by simp)
                  refine ⟨acc, hD7, by rw [sizeLine_eq]; omega, upd F7' a7 (.lst vs7), acc ++ [.ref a7], (X6.trans Y7).put (.inl nD4) fD8, upd_same, fD8, ?_⟩
                  have eT : ([ta, tb, tc, td].take (j2 + 1)).map (moved more) = ([ta, tb, tc, td].take j2).map (moved more) ++ [moved more rs] := by rw [List.take_add_one, hrs]; exact List.map_append ..
                  rw [eT]
                  exact pr_snoc (pr_mono (fun _ _ z => (kL kRow).mono Y7.ff z) hp) (e ▸ kL_new fa hp7)
                · rintro H30 ⟨F30', acc, X30, hD30, fD30, hp30⟩
                  rw [pr_len pd] at hp30
                  have L30 := L29.step (X30.frz nD4 fD30 hD30)
                  have m30 := (X30.frz nD4 fD30 hD30).ff
                  have ku : (kL (kL kRow)).is (upd F30' D4 (.lst acc)) (.ref D4) [moved more ta, moved more tb, moved more tc, moved more td] := kL_new fD30 hp30
                  revert L30 m30 ku
                  generalize upd F30' D4 (.lst acc) = F30
                  intro L30 m30 ku
                  have e1 := fewest_moved t1 N8.mem Ta
                  have e2 := of2_moved t2 (fun p => by rw [Me, N8.mem, N9.mem]) Tb
                  have e3 := of2_moved t3 Mb Tc
                  have e4 := of2_moved t4 Ma Td
                  replace p1 := (kL kRow).mono m30 p1
                  replace p2 := (kL kRow).mono m30 p2
                  replace p3 := (kL kRow).mono m30 p3
                  replace p4 := (kL kRow).mono m30 p4
                  replace hf := m30 _ _ hf
                  replace m30 := m29.trans m30
                  have tw : Twin H30 4 (.ref lf) (.ref D4) := by
                    refine twin_LL (k := 0) L30.same (rss := [moved more ta, moved more tb, moved more tc, moved more td]) ⟨lf, _, rfl, hf, .cons (e1 ▸ p1) (.cons (e2 ▸ p2) (.cons (e3 ▸ p3) (.cons (e4 ▸ p4) .nil)))⟩ ku (by simp) fun rs hrs => ?_
                    simp only [List.mem_cons, List.not_mem_nil, or_false] at hrs
                    rcases hrs with rfl | rfl | rfl | rfl <;> rw [moved_len] <;> omega
                  refine ⟨_, _, rfl, tw, true, rfl, iteF ?_⟩
                  clear X30 hD30 fD30 hp30 ku tw nD4 pd hxd L29 m29 lts
                  have kf : (kL (kL kRow)).is F30 (.ref lf) [o1, o2, o3, o4] := ⟨lf, _, rfl, hf, .cons p1 (.cons p2 (.cons p3 (.cons p4 .nil)))⟩
                  have kfm := Same.refl F30
                  -- told
                  have hth30 := m30 _ _ hth
                  have q1' := (kL kRow).mono m30 q1
                  have q2' := (kL kRow).mono m30 q2
                  have km' := (kL kPt).mono (mB.trans m30) km
                  have ka' := (kL kPt).mono (mB.trans m30) ka
                  refine ⟨_, rfl, th, [.ref a1, .ref a2], 0, .ref a1, rfl, rfl, SqT.of (L30.same _ _ hth30), rfl, F30, _, _, rfl, L30.same, q1', ok1, L30.ta, L30.fa, fun oa F31 H31 fw X31 t31 => ?_⟩
                  have L31 := L30.am X31 t31
                  have ea : Gx.sumBy width oa = (mine.length : Int) := by
                    rw [fewest_moved fw N8.mem Ta, sum_moved]
                    exact amount_names (lt2_ne N8.sort) Ta fun p hp => W1 p hp
                  have m31 := X31.ff
                  refine ⟨_, rfl, th, [.ref a1, .ref a2], 0, .ref a1, rfl, rfl, SqT.of (L31.same _ _ (m31 _ _ hth30)), rfl, _, rfl, th, [.ref a1, .ref a2], 1, .ref a2, rfl, rfl, SqT.of (L31.same _ _ (m31 _ _ hth30)), rfl, F31, _, _, _, _, rfl, L31.same, (kL kRow).mono m31 q1', (kL kRow).mono m31 q2', ok1, ok2, fun b F32 H32 X32 hb => ?_⟩
                  have L32 := L31.step X32
                  refine ⟨by show 2 ≤ sizeLine; decide, fun lt nlt => ?_⟩
                  rw [ea]
                  obtain ⟨L33, m33⟩ := L32.lay (o := .lst [.int mine.length, .bl b]) nlt
                  have hlt : upd F32 lt (.lst [.int mine.length, .bl b]) lt = some (.lst [.int mine.length, .bl b]) := upd_same
                  replace m33 := (m31.trans X32.ff).trans m33
                  revert L33 m33 hlt
                  generalize upd F32 lt (.lst [.int mine.length, .bl b]) = F33
                  generalize upd H32 lt (.lst [V.int mine.length, .bl b]) = H33
                  intro L33 hlt m33
                  replace kf := (kL (kL kRow)).mono m33 kf
                  replace kfm := kfm.trans m33
                  replace m33 := m30.trans m33
                  clear L32 X32 L31 X31 t31 m31 nlt L30 fw ea km' ka' q1' q2' hth30
                  obtain ⟨_, xm3, e3', hxm3, pm3⟩ := id ((kL kPt).mono (mB.trans m33) km)
                  cases e3'
                  have elen : (xm3.length : Int) = mine.length := by rw [pr_len pm3]
                  refine ⟨_, rfl, _, rfl, _, xm3.length, rfl, .inl ⟨xm3, SqL.of (L33.same _ _ hxm3), rfl⟩, ?_⟩
                  refine ⟨_, rfl, Nat.zero_le _, fun pe npe => ?_⟩
                  obtain ⟨L34, m34⟩ := L33.lay (o := .lst []) npe
                  have hpe : (kL kPt).is (upd F33 pe (.lst [])) (.ref pe) [] := ⟨pe, [], rfl, upd_same, .nil⟩
                  replace hlt := m34 _ _ hlt
                  replace kf := (kL (kL kRow)).mono m34 kf
                  replace kfm := kfm.trans m34
                  replace m34 := m33.trans m34
                  revert L34 m34 hpe hlt kf kfm
                  generalize upd F33 pe (.lst []) = F34
                  generalize upd H33 pe (.lst []) = H34
                  intro L34 hpe hlt kf kfm m34
                  refine ⟨dL dPt alone, dL dPt [], (enc_L enc_pt).dp L34.same ((kL kPt).mono (mB.trans m34) ka), (enc_L enc_pt).dp L34.same hpe, shaped_pts _, shaped_pts _, ?_⟩
                  rw [show PyData.eqv (dL dPt alone) (dL dPt []) = decide (alone = []) by
                    cases alone with
                    | nil => simp [dL, PyData.eqv, PyData.eqvAll]
                    | cons x xs => simp [dL, PyData.eqv, PyData.eqvAll]]
                  have eb : b = decide (alone = []) := by
                    have : b = true ↔ alone = [] := by
                      rw [hb]
                      constructor
                      · intro h
                        cases hc : alone with
                        | nil => rfl
                        | cons x xs =>
                          have hx := (Ma x).mp (by rw [hc]; exact List.mem_cons_self)
                          have := h (x.1, x.2 + more) (mem_moved.mpr (by simpa using hx.1))
                          exact absurd (by simpa using mem_moved.mp this) hx.2
                      · intro h p hp
                        by_cases c : mem (moved more other) p
                        · exact c
                        · have : (p.1, p.2 - more) ∈ alone := (Ma _).mpr ⟨mem_moved.mp hp, fun z => c (mem_moved.mpr z)⟩
                          rw [h] at this
                          exact absurd this (by simp)
                    by_cases c : alone = []
                    · rw [decide_eq_true c]; exact this.mpr c
                    · rw [decide_eq_false c]
                      cases hbb : b with
                      | false => rfl
                      | true => exact absurd (this.mp hbb) c
                  rw [elen, ← eb]
                  refine ⟨by show 2 ≤ sizeLine; decide, fun lu nlu => ?_⟩
                  obtain ⟨L35, m35⟩ := L34.lay (o := .lst [.int mine.length, .bl b]) nlu
                  have hlu : upd F34 lu (.lst [.int mine.length, .bl b]) lu = some (.lst [.int mine.length, .bl b]) := upd_same
                  replace hlt := m35 _ _ hlt
                  replace kf := (kL (kL kRow)).mono m35 kf
                  replace kfm := kfm.trans m35
                  replace m35 := m34.trans m35
                  revert L35 m35 hlu hlt kf kfm
                  generalize upd F34 lu (.lst [.int mine.length, .bl b]) = F35
                  generalize upd H34 lu (.lst [V.int mine.length, .bl b]) = H35
                  intro L35 hlu hlt kf kfm m35
                  have tw2 : Twin H35 4 (.ref lt) (.ref lu) := by
                    refine .inr ⟨lt, lu, _, _, rfl, rfl, .inr ⟨L35.same _ _ hlt, L35.same _ _ hlu⟩, by simp, rfl, fun i x y hx hy => ?_⟩
                    rw [hx] at hy
                    cases hy
                    match i, hx with
                    | 0, hx => cases hx; exact .inl (.inl ⟨_, rfl, rfl⟩)
                    | 1, hx => cases hx; exact .inl (.inr (.inl ⟨_, rfl, rfl⟩))
                    | n + 2, hx => simp at hx
                  refine ⟨_, _, rfl, tw2, true, rfl, iteF ?_⟩
                  clear tw2 hlu hlt L34 m34 hpe nlu npe L33 m33 elen hxm3 pm3 hb eb
                  -- house, number
                  refine ⟨_, rfl, F35, d, s, ns, 8, rfl, L35.dice, by decide, by decide, fun h H36 h0 h8 X36 D36 => ?_⟩
                  have L36 := L35.draw X36 D36
                  refine ⟨_, rfl, F35, d, s, ns, 32, rfl, L36.dice, by decide, by decide, fun n H37 n0 n32 X37 D37 => ⟨_, _, rfl, rfl, _, _, rfl, ?_⟩⟩
                  have L37 := L36.draw X37 D37
                  have hth37 := m35 _ _ hth
                  refine ⟨_, rfl, th, [.ref a1, .ref a2], 0, .ref a1, rfl, rfl, SqT.of (L37.same _ _ hth37), rfl, _, rfl, _, rfl, _, rfl, _, _, rfl, rfl, F35, _, _, h, _, rfl, L37.same, (kL kRow).mono m35 q1, ok1, h0, by omega, L37.th, L37.fh, fun b' F38 H38 hb' X38 t38 => ?_⟩
                  have L38 := L37.ha X38 t38
                  have m38 := m35.trans X38.ff
                  replace kf := (kL (kL kRow)).mono X38.ff kf
                  replace kfm := kfm.trans X38.ff
                  refine ⟨_, rfl, _, rfl, by show 2 ≤ sizeLine; decide, fun tp ntp => ?_⟩
                  obtain ⟨L39, m39⟩ := L38.lay (o := .tup [.int h, .int (1 + n)]) ntp
                  have kp : kPt.is (upd F38 tp (.tup [.int h, .int (1 + n)])) (.ref tp) (h, 1 + n) := ⟨tp, rfl, upd_same⟩
                  replace kf := (kL (kL kRow)).mono m39 kf
                  replace kfm := kfm.trans m39
                  replace m39 := m38.trans m39
                  change tVar 6 _ (upd H38 tp (.tup [.int h, .int (1 + n)])) _
                  revert L39 m39 kp kf kfm
                  generalize upd F38 tp (.tup [.int h, .int (1 + n)]) = F39
                  generalize upd H38 tp (.tup [V.int h, .int (1 + n)]) = H39
                  intro L39 kp kf kfm m39
                  refine ⟨_, rfl, dPt (h, 1 + n), mine.map dPt, enc_pt.dp L39.same kp, (enc_L enc_pt).dp L39.same ((kL kPt).mono (mB.trans m39) km), shaped_pt _, shaped_pts _, ?_⟩
                  have eb' : b' = decide ((h, 1 + n) ∈ mine) := by
                    have : b' = true ↔ (h, 1 + n) ∈ mine := by
                      rw [hb', mem_moved, N8.mem]
                      simp only
                      rw [show 1 + n + more - more = 1 + n by omega]
                    by_cases c : (h, 1 + n) ∈ mine
                    · rw [decide_eq_true c]; exact this.mpr c
                    · rw [decide_eq_false c]
                      cases hbb : b' with
                      | false => rfl
                      | true => exact absurd (this.mp hbb) c
                  rw [any_pts, ← eb']
                  refine ⟨_, _, rfl, .inl (.inr (.inl ⟨_, rfl, rfl⟩)), true, rfl, iteF ?_⟩
                  clear eb' hb' L38 m38 X38 t38 L37 X37 D37 L36 X36 D36 hth37 kp L35 m35
                  -- for rows in found: rows.append((0, 1, 1))
                  obtain ⟨_, xf, ef, hf39, pf⟩ := id kf
                  cases ef
                  have hfH := L39.same _ _ hf39
                  have exf : xf = [.ref b1, .ref b2, .ref b3, .ref b4] := by
                    have := L39.same _ _ (kfm _ _ hf)
                    rw [hfH] at this
                    cases this
                    rfl
                  subst exf
                  have lo : ∀ o ∈ [o1, o2, o3, o4], o.length ≤ 4000 := fun o ho => by
                    simp only [List.mem_cons, List.not_mem_nil, or_false] at ho
                    rcases ho with rfl | rfl | rfl | rfl
                    · rw [e1, moved_len]; omega
                    · rw [e2, moved_len]; omega
                    · rw [e3, moved_len]; omega
                    · rw [e4, moved_len]; omega
                  have own : ∀ v ∈ [V.ref b1, .ref b2, .ref b3, .ref b4], ∃ b, v = .ref b ∧ FB b = none ∧ d ≠ b ∧ b ≠ lf := fun v hv => by
                    simp only [List.mem_cons, List.not_mem_nil, or_false] at hv
                    rcases hv with rfl | rfl | rfl | rfl
                    · exact ⟨b1, rfl, f1, d1, x1⟩
                    · exact ⟨b2, rfl, f2, d2, x2⟩
                    · exact ⟨b3, rfl, f3, d3, x3⟩
                    · exact ⟨b4, rfl, f4, d4, x4⟩
                  have L40 := L39.back m39 LB.dice.sc
                  refine ⟨_, rfl, lf, rfl, ⟨_, SqL.of hfH⟩, for_list (K := K) (a := lf) (xs := [.ref b1, .ref b2, .ref b3, .ref b4]) (fun i σ H' => ∃ w15 w16 w17 w18 : Option V, σ = [some (.ref s), some (.ref d), some (.ref c), some (.int by'), some u1, some u2, some (.ref am), some (.ref at'), some (.ref dd), some (.ref D1), some (.ref D2), some (.ref D3), some (.int more), some (.ref th), some (.ref lf), w15, w16, w17, w18, none, none] ∧ LS K d s ns Pa Ph FB H' ∧ H' lf = some (.lst [.ref b1, .ref b2, .ref b3, .ref b4]) ∧ ∀ b, V.ref b ∈ [V.ref b1, .ref b2, .ref b3, .ref b4] → ∃ vs, H' b = some (.lst vs) ∧ vs.length ≤ 4000 + i)
                    ⟨_, _, _, _, rfl, L40, hfH, fun b hb => ?_⟩ (fun i σ H' _ ⟨_, _, _, _, _, _, h, _⟩ => SqL.of h) ?_ ?_⟩
                  · obtain ⟨i, hi⟩ := List.mem_iff_getElem?.mp hb
                    obtain ⟨o, ho, _, vs, e, hvs, pvs⟩ := pr_get pf hi
                    cases e
                    exact ⟨vs, L39.same _ _ hvs, by rw [pr_len pvs]; exact lo o (List.mem_of_getElem? ho)⟩
                  · rintro i x σ H41 hi ⟨w15, w16, w17, w18, rfl, L41, hf41, all41⟩
                    have hx := List.mem_of_getElem? hi
                    obtain ⟨b, rfl, fb, db, xb⟩ := own x hx
                    obtain ⟨vs, hvs, lvs⟩ := all41 b hx
                    have i4 : i < 4 := by
                      have := (List.getElem?_eq_some_iff.mp hi).1
                      simpa using this
                    refine ⟨_, rfl, .inl ⟨rfl, _, SqL.of hvs⟩, by show 3 ≤ sizeLine; decide, fun t0 nt0 => ?_⟩
                    have bt : b ≠ t0 := ne_of_none hvs nt0
                    have lt0 : lf ≠ t0 := ne_of_none hf41 nt0
                    have hvs' : upd H41 t0 (.tup [.int 0, .int 1, .int 1]) b = some (.lst vs) := by rw [upd_ne bt]; exact hvs
                    refine ⟨b, vs, _, rfl, rfl, hvs', by rw [sizeLine_eq]; omega, _, _, _, _, rfl, (L41.tmp nt0).put fb db.symm hvs', by rw [upd_ne xb.symm, upd_ne lt0]; exact hf41, fun b' hb' => ?_⟩
                    by_cases e : b' = b
                    · rw [e, upd_same]
                      exact ⟨_, rfl, by rw [List.length_append]; simp; omega⟩
                    · obtain ⟨vs', h', l'⟩ := all41 b' hb'
                      exact ⟨vs', by rw [upd_ne e, upd_ne (ne_of_none h' nt0)]; exact h', by omega⟩
                  · rintro σ H41 ⟨w15, w16, w17, w18, rfl, L41, hf41, all41⟩
                    clear hf41 all41 own lo L40 pf hf39 hfH L39
                    -- handed != (moved(..), moved(..))
                    refine ⟨_, rfl, _, rfl, _, rfl, FB, u1, one, more, rfl, L41.same, (kL kRow).mono mB k1, by omega, L41.ret fun F42 H42 c1 o42 L42 m42 n42 g1 ee1 => ?_⟩
                    subst ee1
                    refine ⟨_, rfl, _, rfl, F42, u2, other, more, rfl, L42.same, (kL kRow).mono (mB.trans m42) k2, by omega, L42.ret fun F43 H43 c2 o43 L43 m43 n43 g2 ee2 => ?_⟩
                    subst ee2
                    refine ⟨by show 2 ≤ sizeLine; decide, fun tq ntq => ?_⟩
                    obtain ⟨L44, m44⟩ := L43.lay (o := .tup [.ref c1, .ref c2]) ntq
                    have kq : kCase.is (upd F43 tq (.tup [.ref c1, .ref c2])) (.ref tq) (moved more one, moved more other) := ⟨tq, _, _, rfl, upd_same, (kL kRow).mono (m43.trans m44) g1, (kL kRow).mono m44 g2⟩
                    have kh : kCase.is FB (.ref th) (moved more one, moved more other) := ⟨th, _, _, rfl, hth, q1, q2⟩
                    have m45 := (m42.trans m43).trans m44
                    refine ⟨dCase (moved more one, moved more other), dCase (moved more one, moved more other), enc_case.dp L44.same (kCase.mono m45 kh), enc_case.dp L44.same kq, shaped_case _, shaped_case _, ?_⟩
                    rw [eqv_case]
                    exact ⟨_, rfl, iteF ⟨_, _, _, _, _, _, _, _, rfl, mB.trans m45, L44⟩⟩
              · rintro σ H18 ⟨F18, z12, z13, z14, z15, z16, z17, z18, rfl, m18, L18⟩
                -- gaps
                have k1' := (kL kRow).mono m18 k1
                have km' := (kL kPt).mono m18 km
                have ok0 := big_ok0 B1
                refine ⟨_, rfl, F18, u1, one, rfl, L18.same, k1', ok0, L18.ret fun F19 H19 g1 og L19 m19 n19 q1 wo => ?_⟩
                refine ⟨_, rfl, F19, .ref am, mine, rfl, L19.same, (kL kPt).mono m19 km', N8.sort, fun p hp => ⟨(W1 p hp).2.2.1, (W1 p hp).2.2.2⟩, l1, L19.retF fun F20 H20 gv gs L20 m20 q2 go => ?_⟩
                have ig : ∀ p ∈ gs, InW p := fun p hp => by
                  obtain ⟨z1, z2, z3, ⟨n, hn, lt⟩, _⟩ := (go.mem p).mp hp
                  have := (W1 _ hn).2.2.2
                  simp only at this
                  exact ⟨z1, z2, z3, by omega⟩
                have lg := few_w (lt2_ne go.sort) ig
                refine ⟨F20, gv, gs, rfl, L20.same, q2, go.sort, by omega, L20.ret fun F21 H21 tv tg L21 m21 n21 q3 tt => ?_⟩
                have eg := gaps_told B1 wo N8.mem go tt
                have lt3 := tt.len
                refine ⟨_, _, rfl, twin_rowsN (k := 1) L21.same L21.same ((kL kRow).mono (m20.trans m21) q1) (eg ▸ q3) (by rw [eg]; omega), true, rfl, iteF ?_⟩
                have m22 := ((m18.trans m19).trans m20).trans m21
                refine ⟨8, rfl, by decide, by decide, for_range (lo := 0) (n := (8 : Int).toNat) (fun i σ H' => ∃ (F' : Hp) (w17 : Option V), σ = [some (.ref s), some (.ref d), some (.ref c), some (.int by'), some u1, some u2, some (.ref am), some (.ref at'), some (.ref dd), some (.ref D1), some (.ref D2), some (.ref D3), z12, z13, z14, z15, z16, w17, z18, none, none] ∧ Same F17 F' ∧ LS K d s ns Pa Ph F' H')
                  ⟨F21, _, rfl, m22, L21⟩ ?_ ?_⟩
                · rintro i σ H22 hi ⟨F22, w17, rfl, m23, L22⟩
                  generalize hh : (0 : Int) + (i : Int) = h
                  have hi8 : i < 8 := hi
                  refine ⟨_, rfl, _, rfl, F22, u1, one, h, rfl, L22.same, (kL kRow).mono m23 k1, ok0, by omega, by omega, fun z F23 H23 X23 wh => ?_⟩
                  have L23 := L22.step X23
                  refine ⟨_, rfl, _, rfl, F23, .ref am, mine, h, rfl, L23.same, (kL kPt).mono (m23.trans X23.ff) km, fun p hp => (W1 p hp).2.2.2, fun z' H24 X24 re => ?_⟩
                  have ez := whole_reach wh re N8.mem
                  subst ez
                  refine ⟨_, _, rfl, .inl (.inl ⟨_, rfl, rfl⟩), true, rfl, iteF ⟨F23, _, rfl, m23.trans X23.ff, L23.step X24⟩⟩
                · rintro σ H22 ⟨F22, w17, rfl, m23, L22⟩
                  exact ⟨_, _, _, _, _, _, _, _, _, _, _, _, _, _, _, _, rfl, M9.trans m23, L22⟩
    · rintro σ H7 ⟨F7, y4, y5, y6, y7, y8, y9, y10, y11, y12, y13, y14, y15, y16, y17, y18, rfl, m7, L7⟩
      exact q _
end
end Rw
namespace Rw
open PySem PySem.Spec PyProof.Rows L2
/-! ### what the head tells -/
def HasFn (K : PySem.W.Frag) (x : Str) (st : Stmt) : Prop := ∃ (f : Addr) (oc : Value) (od an : Option Addr) (osl : Array (Option Value)) (kV doc pm cdv ct : Value),
  PySem.W.nsIn K mainGlobals x = some (some (.ref f)) ∧ K.lookup f = some ⟨oc, od, .func (PySem.W.fnOf x x (defArgs st) (defBody st) (defScope st) .none kV doc pm an cdv ct), osl⟩ ∧ PySem.W.codeIn K cdv x = true ∧ PySem.W.keepIn K (.ref f) = true
theorem has_mk {K : PySem.W.Frag} {x : Str} {st : Stmt} {f : Addr} {oc : Value} {od an : Option Addr} {osl : Array (Option Value)} {kV doc pm cdv ct : Value}
    (a : PySem.W.nsIn K mainGlobals x = some (some (.ref f))) (l : K.lookup f = some ⟨oc, od, .func (PySem.W.fnOf x x (defArgs st) (defBody st) (defScope st) .none kV doc pm an cdv ct), osl⟩) (c : PySem.W.codeIn K cdv x = true) (k : PySem.W.keepIn K (.ref f) = true) : HasFn K x st :=
  ⟨f, oc, od, an, osl, kV, doc, pm, cdv, ct, a, l, c, k⟩
def tabOkIn (K : PySem.W.Frag) (x : Str) : Bool := match PySem.W.tabIn K x with
  | some (_, P) => (K.lookup P).isNone
  | none => false
theorem tab_ok {K : PySem.W.Frag} {x : Str} (h : tabOkIn K x = true) : ∃ c P, PySem.W.tabIn K x = some (c, P) ∧ K.lookup P = none := by
  unfold tabOkIn at h
  split at h
  · rename_i c P e
    exact ⟨c, P, e, Option.isNone_iff_eq_none.mp h⟩
  · cases h
def tabNe (K : PySem.W.Frag) (x y : Str) : Bool := match PySem.W.tabIn K x, PySem.W.tabIn K y with
  | some (_, P), some (_, Q) => decide (P ≠ Q)
  | _, _ => false
theorem tab_ne {K : PySem.W.Frag} {x y : Str} {c c' P Q : Addr} (h : tabNe K x y = true) (e1 : PySem.W.tabIn K x = some (c, P)) (e2 : PySem.W.tabIn K y = some (c', Q)) : P ≠ Q := by
  unfold tabNe at h
  rw [e1, e2] at h
  exact of_decide_eq_true h
def HasInt (K : PySem.W.Frag) (x : Str) (z : Int) : Prop := ∃ t, PySem.W.nsIn K mainGlobals x = some (some (.int z t))
theorem int_mk {K : PySem.W.Frag} {x : Str} {z : Int} {t : Tok} (a : PySem.W.nsIn K mainGlobals x = some (some (.int z t))) : HasInt K x z := ⟨t, a⟩
theorem HasFn.fn {K : PySem.W.Frag} {x : Str} {st : Stmt} {h : Heap} {mg : Str → Option Value} (H : HasFn K x st) (X : K.In h) (G : h.Ns mainGlobals mg) : ∃ (f : Addr) (fd : FuncData), Fun K x x st f fd ∧ mg x = some (.ref f) := by
  obtain ⟨f, oc, od, an, osl, kV, doc, pm, cdv, ct, a, l, c, k⟩ := H
  exact ⟨f, _, fun_mk (st := st) l c k, PySem.W.mg_of X G a⟩
theorem HasInt.mg {K : PySem.W.Frag} {x : Str} {z : Int} {h : Heap} {mg : Str → Option Value} (H : HasInt K x z) (X : K.In h) (G : h.Ns mainGlobals mg) : ∃ t, mg x = some (.int z t) := by
  obtain ⟨t, a⟩ := H
  exact ⟨t, PySem.W.mg_of X G a⟩
structure Head (K : PySem.W.Frag) : Prop where
  fis_number : HasFn K "is_number" s_is_number
  fis_house : HasFn K "is_house" s_is_house
  fis_row : HasFn K "is_row" s_is_row
  ffirst_wrong : HasFn K "first_wrong" s_first_wrong
  fcheck_rows : HasFn K "check_rows" s_check_rows
  fcheck_house : HasFn K "check_house" s_check_house
  fis_in : HasFn K "is_in" s_is_in
  fchanges_of : HasFn K "changes_of" s_changes_of
  freaching : HasFn K "reaching" s_reaching
  ffewest : HasFn K "fewest" s_fewest
  fheld_by_many : HasFn K "held_by_many" s_held_by_many
  fwithout : HasFn K "without" s_without
  fwhole_in : HasFn K "whole_in" s_whole_in
  fplain : HasFn K "plain" s_plain
  fjoined : HasFn K "joined" s_joined
  fcommon : HasFn K "common" s_common
  fless : HasFn K "less" s_less
  fwithin : HasFn K "within" s_within
  fgaps : HasFn K "gaps" s_gaps
  fhas : HasFn K "has" s_has
  fwhole_to : HasFn K "whole_to" s_whole_to
  famount : HasFn K "amount" s_amount
  f_law_dice : HasFn K "_law_dice" s_law_dice
  f_law_next : HasFn K "_law_next" s_law_next
  f_law_rows : HasFn K "_law_rows" s_law_rows
  f_law_moved : HasFn K "_law_moved" s_law_moved
  f_law_names : HasFn K "_law_names" s_law_names
  f_law_told_rows : HasFn K "_law_told_rows" s_law_told_rows
  f_law_gaps : HasFn K "_law_gaps" s_law_gaps
  f_law_reach : HasFn K "_law_reach" s_law_reach
  f_law_case : HasFn K "_law_case" s_law_case
  tamount : tabOkIn K "amount" = true
  tis_in : tabOkIn K "is_in" = true
  tne : tabNe K "amount" "is_in" = true
  f_law_like : HasFn K "_law_like" s_law_like
  flaw : HasFn K "law" s_law
  last : HasInt K "LAST_HOUSE" 7
  most : HasInt K "MOST_ROWS" 200
  zisinstance : PySem.W.nsIn K mainGlobals "isinstance" = some none
  zint : PySem.W.nsIn K mainGlobals "int" = some none
  zbool : PySem.W.nsIn K mainGlobals "bool" = some none
  zstr : PySem.W.nsIn K mainGlobals "str" = some none
  ztuple : PySem.W.nsIn K mainGlobals "tuple" = some none
  zlist : PySem.W.nsIn K mainGlobals "list" = some none
  zlen : PySem.W.nsIn K mainGlobals "len" = some none
  zenumerate : PySem.W.nsIn K mainGlobals "enumerate" = some none
  zsorted : PySem.W.nsIn K mainGlobals "sorted" = some none
  zrange : PySem.W.nsIn K mainGlobals "range" = some none
  zmin : PySem.W.nsIn K mainGlobals "min" = some none
  zmax : PySem.W.nsIn K mainGlobals "max" = some none
  zsum : PySem.W.nsIn K mainGlobals "sum" = some none
  zany : PySem.W.nsIn K mainGlobals "any" = some none
  zset : PySem.W.nsIn K mainGlobals "set" = some none
  zdict : PySem.W.nsIn K mainGlobals "dict" = some none
theorem tab_conv {base : Heap} {mg : Str → Option Value} {c P : Addr} (h : LamX.TabB base mg c P) : GxR.TabB base mg c P := ⟨h.code, h.bm, h.gP⟩
theorem all_ok {P : Program} {w : World} {K : PySem.W.Frag} {h base : Heap} {mg : Str → Option Value} {Pa ca Ph ch : Addr} {fa : Addr} (D : Head K) (X : K.In h) (G : h.Ns mainGlobals mg) (hfa : mg "law" = some (.ref fa)) (lim : ∃ t, mg "LIMIT" = some (.int LIM t)) (TBm : GxR.TabB base mg ca Pa) (TBh : GxR.TabB base mg ch Ph)
    (hta : PySem.W.tabIn K "amount" = some (ca, Pa)) (hth : PySem.W.tabIn K "is_in" = some (ch, Ph)) {fd : FuncData} (F : Fun K "law" "law" s_law fa fd) : FnOk P w K mg base CX0 7 fa fd ["_law_script"] (spLaw2 K Pa Ph) := by
  have T : TxA mg := ⟨PySem.W.mg_none_of X G D.zisinstance, PySem.W.mg_none_of X G D.zint, PySem.W.mg_none_of X G D.zbool, PySem.W.mg_none_of X G D.ztuple, PySem.W.mg_none_of X G D.zlen, PySem.W.mg_none_of X G D.zenumerate, D.last.mg X G, lim, D.most.mg X G⟩
  have TB : TxB mg := ⟨PySem.W.mg_none_of X G D.zsorted⟩
  have TL : TxL mg := ⟨PySem.W.mg_none_of X G D.zint, PySem.W.mg_none_of X G D.zlen, PySem.W.mg_none_of X G D.zrange, PySem.W.mg_none_of X G D.zmin⟩
  have TN : TxN mg := ⟨PySem.W.mg_none_of X G D.zrange, PySem.W.mg_none_of X G D.zsorted⟩
  have TG : TxG mg := ⟨PySem.W.mg_none_of X G D.zdict, PySem.W.mg_none_of X G D.zrange, PySem.W.mg_none_of X G D.zmax⟩
  have TK : TxK mg := ⟨PySem.W.mg_none_of X G D.zisinstance, PySem.W.mg_none_of X G D.zint, PySem.W.mg_none_of X G D.zbool, PySem.W.mg_none_of X G D.zstr, PySem.W.mg_none_of X G D.ztuple, PySem.W.mg_none_of X G D.zlist, PySem.W.mg_none_of X G D.zlen, PySem.W.mg_none_of X G D.zrange⟩
  have TS : TxS2 mg := ⟨PySem.W.mg_none_of X G D.zlen, PySem.W.mg_none_of X G D.zrange, PySem.W.mg_none_of X G D.zsorted, PySem.W.mg_none_of X G D.zset, PySem.W.mg_none_of X G D.zdict⟩
  have zany : mg "any" = none := PySem.W.mg_none_of X G D.zany
  have zsum : mg "sum" = none := PySem.W.mg_none_of X G D.zsum
  have c_is_number : Cal P w K mg base 1 "is_number" ["value", "low", "high"] spIsNumber := by
    obtain ⟨f, fd, F1, g⟩ := D.fis_number.fn X G
    exact ⟨f, fd, ok_is_number F1 T, g, F1.kp, F1.binds (ps := ["value", "low", "high"]) fun _ _ _ _ _ _ us hl => match us, hl with | [_, _, _], _ => rfl⟩
  have c_is_house : Cal P w K mg base 2 "is_house" ["value"] spIsHouse := by
    obtain ⟨f, fd, F1, g⟩ := D.fis_house.fn X G
    exact ⟨f, fd, ok_is_house F1 T c_is_number, g, F1.kp, F1.binds (ps := ["value"]) fun _ _ _ _ _ _ us hl => match us, hl with | [_], _ => rfl⟩
  have c_is_row : Cal P w K mg base 3 "is_row" ["row"] spIsRow := by
    obtain ⟨f, fd, F1, g⟩ := D.fis_row.fn X G
    exact ⟨f, fd, ok_is_row F1 T c_is_number c_is_house, g, F1.kp, F1.binds (ps := ["row"]) fun _ _ _ _ _ _ us hl => match us, hl with | [_], _ => rfl⟩
  have c_first_wrong : Cal P w K mg base 4 "first_wrong" ["rows"] spFirstWrong := by
    obtain ⟨f, fd, F1, g⟩ := D.ffirst_wrong.fn X G
    exact ⟨f, fd, ok_first_wrong F1 T c_is_row, g, F1.kp, F1.binds (ps := ["rows"]) fun _ _ _ _ _ _ us hl => match us, hl with | [_], _ => rfl⟩
  have c_check_rows : Cal P w K mg base 5 "check_rows" ["rows"] spCheckRows := by
    obtain ⟨f, fd, F1, g⟩ := D.fcheck_rows.fn X G
    exact ⟨f, fd, ok_check_rows F1 c_first_wrong, g, F1.kp, F1.binds (ps := ["rows"]) fun _ _ _ _ _ _ us hl => match us, hl with | [_], _ => rfl⟩
  have c_check_house : Cal P w K mg base 3 "check_house" ["house"] spCheckHouse := by
    obtain ⟨f, fd, F1, g⟩ := D.fcheck_house.fn X G
    exact ⟨f, fd, ok_check_house F1 c_is_house, g, F1.kp, F1.binds (ps := ["house"]) fun _ _ _ _ _ _ us hl => match us, hl with | [_], _ => rfl⟩
  have c_is_in : Cal P w K mg base 2 "is_in" ["rows", "house", "number"] (spIsIn Ph) := by
    obtain ⟨f, oc, od, an, osl, kV, doc, pm, cdv, ct, a, l, c1, k⟩ := D.fis_in
    have e : cdv = .ref ch := PySem.W.law_code X G hth (PySem.W.mg_of X G a) (X _ _ l) rfl
    subst e
    exact ⟨f, _, ok_is_in ⟨⟨oc, od, kV, doc, pm, an, ct, osl, rfl, l, c1⟩⟩ TBh zany, PySem.W.mg_of X G a, k, (fun_mk (st := s_is_in) l c1 k).binds (ps := ["rows", "house", "number"]) fun _ _ _ _ _ _ us hl => match us, hl with | [_, _, _], _ => rfl⟩
  have c_changes_of : Cal P w K mg base 1 "changes_of" ["weighed"] spChangesOf := by
    obtain ⟨f, fd, F1, g⟩ := D.fchanges_of.fn X G
    exact ⟨f, fd, ok_changes_of F1 , g, F1.kp, F1.binds (ps := ["weighed"]) fun _ _ _ _ _ _ us hl => match us, hl with | [_], _ => rfl⟩
  have c_reaching : Cal P w K mg base 2 "reaching" ["weighed", "least"] spReaching := by
    obtain ⟨f, fd, F1, g⟩ := D.freaching.fn X G
    exact ⟨f, fd, ok_reaching F1 TB c_changes_of, g, F1.kp, F1.binds (ps := ["weighed", "least"]) fun _ _ _ _ _ _ us hl => match us, hl with | [_, _], _ => rfl⟩
  have c_fewest : Cal P w K mg base 3 "fewest" ["rows"] spFewest := by
    obtain ⟨f, fd, F1, g⟩ := D.ffewest.fn X G
    exact ⟨f, fd, ok_fewest F1 c_reaching, g, F1.kp, F1.binds (ps := ["rows"]) fun _ _ _ _ _ _ us hl => match us, hl with | [_], _ => rfl⟩
  have c_held_by_many : Cal P w K mg base 4 "held_by_many" ["sets", "least"] spHeld := by
    obtain ⟨f, fd, F1, g⟩ := D.fheld_by_many.fn X G
    exact ⟨f, fd, ok_held_by_many F1 c_reaching c_fewest, g, F1.kp, F1.binds (ps := ["sets", "least"]) fun _ _ _ _ _ _ us hl => match us, hl with | [_, _], _ => rfl⟩
  have c_without : Cal P w K mg base 4 "without" ["one", "other"] spWithout := by
    obtain ⟨f, fd, F1, g⟩ := D.fwithout.fn X G
    exact ⟨f, fd, ok_without F1 c_reaching c_fewest, g, F1.kp, F1.binds (ps := ["one", "other"]) fun _ _ _ _ _ _ us hl => match us, hl with | [_, _], _ => rfl⟩
  have c_whole_in : Cal P w K mg base 4 "whole_in" ["rows", "house"] spWholeIn := by
    obtain ⟨f, fd, F1, g⟩ := D.fwhole_in.fn X G
    exact ⟨f, fd, ok_whole_in F1 c_fewest, g, F1.kp, F1.binds (ps := ["rows", "house"]) fun _ _ _ _ _ _ us hl => match us, hl with | [_, _], _ => rfl⟩
  have c_plain : Cal P w K mg base 6 "plain" ["rows"] spPlain := by
    obtain ⟨f, fd, F1, g⟩ := D.fplain.fn X G
    exact ⟨f, fd, ok_plain F1 c_check_rows c_fewest, g, F1.kp, F1.binds (ps := ["rows"]) fun _ _ _ _ _ _ us hl => match us, hl with | [_], _ => rfl⟩
  have c_joined : Cal P w K mg base 6 "joined" ["one", "other"] (sp2 fOr) := by
    obtain ⟨f, fd, F1, g⟩ := D.fjoined.fn X G
    exact ⟨f, fd, ok_joined F1 c_check_rows c_held_by_many, g, F1.kp, F1.binds (ps := ["one", "other"]) fun _ _ _ _ _ _ us hl => match us, hl with | [_, _], _ => rfl⟩
  have c_common : Cal P w K mg base 6 "common" ["one", "other"] (sp2 fAnd) := by
    obtain ⟨f, fd, F1, g⟩ := D.fcommon.fn X G
    exact ⟨f, fd, ok_common F1 c_check_rows c_held_by_many, g, F1.kp, F1.binds (ps := ["one", "other"]) fun _ _ _ _ _ _ us hl => match us, hl with | [_, _], _ => rfl⟩
  have c_less : Cal P w K mg base 6 "less" ["one", "other"] (sp2 fLess) := by
    obtain ⟨f, fd, F1, g⟩ := D.fless.fn X G
    exact ⟨f, fd, ok_less F1 c_check_rows c_without, g, F1.kp, F1.binds (ps := ["one", "other"]) fun _ _ _ _ _ _ us hl => match us, hl with | [_, _], _ => rfl⟩
  have c_within : Cal P w K mg base 6 "within" ["one", "other"] spWithin := by
    obtain ⟨f, fd, F1, g⟩ := D.fwithin.fn X G
    exact ⟨f, fd, ok_within F1 c_check_rows c_without, g, F1.kp, F1.binds (ps := ["one", "other"]) fun _ _ _ _ _ _ us hl => match us, hl with | [_, _], _ => rfl⟩
  have c_gaps : Cal P w K mg base 6 "gaps" ["rows"] spGaps := by
    obtain ⟨f, fd, F1, g⟩ := D.fgaps.fn X G
    exact ⟨f, fd, ok_gaps F1 c_check_rows c_without, g, F1.kp, F1.binds (ps := ["rows"]) fun _ _ _ _ _ _ us hl => match us, hl with | [_], _ => rfl⟩
  have c_has : Cal P w K mg base 6 "has" ["rows", "house", "number"] (spHas Ph) := by
    obtain ⟨f, fd, F1, g⟩ := D.fhas.fn X G
    exact ⟨f, fd, ok_has F1 c_check_rows c_check_house c_is_in, g, F1.kp, F1.binds (ps := ["rows", "house", "number"]) fun _ _ _ _ _ _ us hl => match us, hl with | [_, _, _], _ => rfl⟩
  have c_whole_to : Cal P w K mg base 6 "whole_to" ["rows", "house"] spWholeTo := by
    obtain ⟨f, fd, F1, g⟩ := D.fwhole_to.fn X G
    exact ⟨f, fd, ok_whole_to F1 c_check_rows c_check_house c_whole_in, g, F1.kp, F1.binds (ps := ["rows", "house"]) fun _ _ _ _ _ _ us hl => match us, hl with | [_, _], _ => rfl⟩
  have c_amount : Cal P w K mg base 6 "amount" ["rows"] (spAmount Pa) := by
    obtain ⟨f, oc, od, an, osl, kV, doc, pm, cdv, ct, a, l, c1, k⟩ := D.famount
    have e : cdv = .ref ca := PySem.W.law_code X G hta (PySem.W.mg_of X G a) (X _ _ l) rfl
    subst e
    exact ⟨f, _, ok_amount ⟨⟨oc, od, kV, doc, pm, an, ct, osl, rfl, l, c1⟩⟩ TBm zsum c_check_rows c_fewest, PySem.W.mg_of X G a, k, (fun_mk (st := s_amount) l c1 k).binds (ps := ["rows"]) fun _ _ _ _ _ _ us hl => match us, hl with | [_], _ => rfl⟩
  have c__law_dice : Cal P w K mg base 1 "_law_dice" ["_law_script"] (spDice K) := by
    obtain ⟨f, fd, F1, g⟩ := D.f_law_dice.fn X G
    exact ⟨f, fd, ok_law_dice F1 TL, g, F1.kp, F1.binds (ps := ["_law_script"]) fun _ _ _ _ _ _ us hl => match us, hl with | [_], _ => rfl⟩
  have c__law_next : Cal P w K mg base 1 "_law_next" ["_law_dice_here", "_law_many"] (spNext K) := by
    obtain ⟨f, fd, F1, g⟩ := D.f_law_next.fn X G
    exact ⟨f, fd, ok_law_next F1 TL, g, F1.kp, F1.binds (ps := ["_law_dice_here", "_law_many"]) fun _ _ _ _ _ _ us hl => match us, hl with | [_, _], _ => rfl⟩
  have c__law_rows : Cal P w K mg base 2 "_law_rows" ["_law_d", "_law_houses", "_law_far", "_law_most"] (spRows K) := by
    obtain ⟨f, fd, F1, g⟩ := D.f_law_rows.fn X G
    exact ⟨f, fd, ok_law_rows F1 TL c__law_next, g, F1.kp, F1.binds (ps := ["_law_d", "_law_houses", "_law_far", "_law_most"]) fun _ _ _ _ _ _ us hl => match us, hl with | [_, _, _, _], _ => rfl⟩
  have c__law_moved : Cal P w K mg base 1 "_law_moved" ["_law_rows_here", "_law_by"] spMoved := by
    obtain ⟨f, fd, F1, g⟩ := D.f_law_moved.fn X G
    exact ⟨f, fd, ok_law_moved F1 , g, F1.kp, F1.binds (ps := ["_law_rows_here", "_law_by"]) fun _ _ _ _ _ _ us hl => match us, hl with | [_, _], _ => rfl⟩
  have c__law_names : Cal P w K mg base 1 "_law_names" ["_law_rows_here"] spNames := by
    obtain ⟨f, fd, F1, g⟩ := D.f_law_names.fn X G
    exact ⟨f, fd, ok_law_names F1 TN, g, F1.kp, F1.binds (ps := ["_law_rows_here"]) fun _ _ _ _ _ _ us hl => match us, hl with | [_], _ => rfl⟩
  have c__law_told_rows : Cal P w K mg base 1 "_law_told_rows" ["_law_names_here"] spTold := by
    obtain ⟨f, fd, F1, g⟩ := D.f_law_told_rows.fn X G
    exact ⟨f, fd, ok_law_told_rows F1 , g, F1.kp, F1.binds (ps := ["_law_names_here"]) fun _ _ _ _ _ _ us hl => match us, hl with | [_], _ => rfl⟩
  have c__law_gaps : Cal P w K mg base 1 "_law_gaps" ["_law_names_here"] spGapsL := by
    obtain ⟨f, fd, F1, g⟩ := D.f_law_gaps.fn X G
    exact ⟨f, fd, ok_law_gaps F1 TG, g, F1.kp, F1.binds (ps := ["_law_names_here"]) fun _ _ _ _ _ _ us hl => match us, hl with | [_], _ => rfl⟩
  have c__law_reach : Cal P w K mg base 1 "_law_reach" ["_law_names_here", "_law_house"] spReach := by
    obtain ⟨f, fd, F1, g⟩ := D.f_law_reach.fn X G
    exact ⟨f, fd, ok_law_reach F1 , g, F1.kp, F1.binds (ps := ["_law_names_here", "_law_house"]) fun _ _ _ _ _ _ us hl => match us, hl with | [_, _], _ => rfl⟩
  have c__law_case : Cal P w K mg base 3 "_law_case" ["_law_d"] (spCase K) := by
    obtain ⟨f, fd, F1, g⟩ := D.f_law_case.fn X G
    exact ⟨f, fd, ok_law_case F1 c__law_next c__law_rows, g, F1.kp, F1.binds (ps := ["_law_d"]) fun _ _ _ _ _ _ us hl => match us, hl with | [_], _ => rfl⟩
  have like : Cal P w K mg base 5 "_law_like" ["_law_found", "_law_due"] (spLike 4) := by
    obtain ⟨f, fd, F1, g⟩ := D.f_law_like.fn X G
    have bd : Binds K fd ["_law_found", "_law_due"] [] := F1.binds (ps := ["_law_found", "_law_due"]) fun _ _ _ _ _ _ us hl => match us, hl with | [_, _], _ => rfl
    have c0 : FnOk P w K mg base CX0 1 f fd ["_law_found", "_law_due"] (spLike 0) := ⟨fun vs H Q E z => by obtain ⟨_, _, _, z, _⟩ := z; exact z.elim, fun A outer s H args us vs Q E _ _ _ _ z => by obtain ⟨_, _, _, z, _⟩ := z; exact z.elim⟩
    have c1 := ok_law_like (n := 0) F1 TK ⟨f, fd, c0, g, F1.kp, bd⟩
    have c2 := ok_law_like (n := 1) F1 TK ⟨f, fd, c1, g, F1.kp, bd⟩
    have c3 := ok_law_like (n := 2) F1 TK ⟨f, fd, c2, g, F1.kp, bd⟩
    have c4 := ok_law_like (n := 3) F1 TK ⟨f, fd, c3, g, F1.kp, bd⟩
    exact ⟨f, fd, c4, g, F1.kp, bd⟩
  exact ok_law F TS (tab_ne D.tne hta hth) ⟨c__law_dice, c__law_next, c__law_case, c__law_names, c__law_moved, c__law_told_rows, like, c_plain, c_joined, c_common, c_less, c_amount, c_within, c_has, c_gaps, c_whole_to, c__law_gaps, c__law_reach⟩
theorem walk {l : PySem.W.OpenLaw} {q : Program} {loose : List Str} {lv : List (Str × PySem.W.WData)} {YP : World → Heap → Prop} {d : DefRec} {K : Params → PySem.W.Frag} (hn : l.most = some 63) (hdf : d.params.defaults = []) (hnm : d.name = "law")
    (hY : ∀ (w : World) (h : Heap), YP w h → (K w.params).In h) (hrec : ((recsOf q).find? (fun e => e.name == ("amount" : Str))).isSome = true) (hrec2 : ((recsOf q).find? (fun e => e.name == ("is_in" : Str))).isSome = true) (hlv : (("LIMIT" : Str), PySem.W.WData.int LIM) ∈ lv) (D : ∀ w : World, Head (K w.params)) :
    PySem.W.WalkO q loose (PySem.W.XL q lv) YP l.row.toRowW d [] (fun f vs => PySem.call f vs) := by
  refine Att.attach_callB hn hdf fun w s₀ s₁ mg mb fa o pm cd doc a vs ns G Y ho hd hcd hmg hobj hints hlen hbits hg => ?_
  have KX := hY w _ Y
  have Dw := D w
  rw [hnm] at hmg
  obtain ⟨f, oc, od, an, osl, kV, doc', pm', cdv, ct, a1, l1, c1, k1⟩ := Dw.flaw
  have e := hmg.symm.trans (PySem.W.mg_of KX G.T.g a1)
  cases e
  obtain ⟨c, Pa, t2, nP⟩ := tab_ok Dw.tamount
  obtain ⟨da, hda⟩ := Option.isSome_iff_exists.mp hrec
  obtain ⟨hc, hP⟩ := PySem.W.tab_of G.T KX hda t2
  obtain ⟨c', Ph, t3, nP'⟩ := tab_ok Dw.tis_in
  obtain ⟨da', hda'⟩ := Option.isSome_iff_exists.mp hrec2
  obtain ⟨hc', hP'⟩ := PySem.W.tab_of G.T KX hda' t3
  have lim : ∃ t, mg "LIMIT" = some (.int LIM t) := by
    obtain ⟨v, hv, hr⟩ := G.X.2.val _ hlv
    cases hr
    exact ⟨_, hv⟩
  have both : ∀ {φ : Addr × Addr → Prop}, φ (c, Pa) → φ (c', Ph) → ∀ p ∈ [(c, Pa), (c', Ph)], φ p := fun h1 h2 p hp => by
    simp only [List.mem_cons, List.not_mem_nil, or_false] at hp
    rcases hp with rfl | rfl
    · exact h1
    · exact h2
  exact LamX.law_callTs (cs := [(c, Pa), (c', Ph)]) (k := 7) (x := "_law_script") (CX := CX0) (sp := spLaw2 (K w.params) Pa Ph) KX G.T.g G.T.b G.T.builtins G.T.nolimit hg (both hP hP') (both nP nP') (both hc hc') G.T.bmain hobj hints (Nat.le_trans hlen (by decide)) ⟨rfl, by decide, by decide⟩
    (fun base _ _ hT => all_ok Dw KX G.T.g hmg lim (tab_conv (hT _ List.mem_cons_self)) (tab_conv (hT _ (List.mem_cons_of_mem _ List.mem_cons_self))) t2 t3 (fun_mk (st := s_law) l1 c1 k1)) (fun s u => .of_eq rfl) (fun H hH hS => ⟨a, ns, rfl, hS, ⟨_, hH _ List.mem_cons_self, trivial⟩, ⟨_, hH _ (List.mem_cons_of_mem _ List.mem_cons_self), trivial⟩, fun _ => rfl⟩) fun H e s' z => z
end Rw
open PySem PySem.W PyProof.Rows in
set_option maxRecDepth 100000 in
set_option maxHeartbeats 0 in
theorem PySem.Challenge.cw_doneranges_k02_sets_holds : PySem.Challenge.rw_doneranges_k02_sets.Holds := by
  w_on; o_law; k_head; (case hw => w_witness2)
  k_fill
  refine Rw.walk (l := PySem.Challenge.rw_doneranges_k02_sets) rfl rfl rfl (fun w h Y => PySem.W.kIn_of Y) ?rec ?rec2 List.mem_cons_self ?D
  case rec => decide +kernel
  case rec2 => decide +kernel
  case D =>
    intro w
    constructor
    case fis_number => refine' Rw.has_mk ?a ?l ?c ?k; (case a => k_is); (case l => k_is); (case c => k_is); (case k => k_is)
    case fis_house => refine' Rw.has_mk ?a ?l ?c ?k; (case a => k_is); (case l => k_is); (case c => k_is); (case k => k_is)
    case fis_row => refine' Rw.has_mk ?a ?l ?c ?k; (case a => k_is); (case l => k_is); (case c => k_is); (case k => k_is)
    case ffirst_wrong => refine' Rw.has_mk ?a ?l ?c ?k; (case a => k_is); (case l => k_is); (case c => k_is); (case k => k_is)
    case fcheck_rows => refine' Rw.has_mk ?a ?l ?c ?k; (case a => k_is); (case l => k_is); (case c => k_is); (case k => k_is)
    case fcheck_house => refine' Rw.has_mk ?a ?l ?c ?k; (case a => k_is); (case l => k_is); (case c => k_is); (case k => k_is)
    case fis_in => refine' Rw.has_mk ?a ?l ?c ?k; (case a => k_is); (case l => k_is); (case c => k_is); (case k => k_is)
    case fchanges_of => refine' Rw.has_mk ?a ?l ?c ?k; (case a => k_is); (case l => k_is); (case c => k_is); (case k => k_is)
    case freaching => refine' Rw.has_mk ?a ?l ?c ?k; (case a => k_is); (case l => k_is); (case c => k_is); (case k => k_is)
    case ffewest => refine' Rw.has_mk ?a ?l ?c ?k; (case a => k_is); (case l => k_is); (case c => k_is); (case k => k_is)
    case fheld_by_many => refine' Rw.has_mk ?a ?l ?c ?k; (case a => k_is); (case l => k_is); (case c => k_is); (case k => k_is)
    case fwithout => refine' Rw.has_mk ?a ?l ?c ?k; (case a => k_is); (case l => k_is); (case c => k_is); (case k => k_is)
    case fwhole_in => refine' Rw.has_mk ?a ?l ?c ?k; (case a => k_is); (case l => k_is); (case c => k_is); (case k => k_is)
    case fplain => refine' Rw.has_mk ?a ?l ?c ?k; (case a => k_is); (case l => k_is); (case c => k_is); (case k => k_is)
    case fjoined => refine' Rw.has_mk ?a ?l ?c ?k; (case a => k_is); (case l => k_is); (case c => k_is); (case k => k_is)
    case fcommon => refine' Rw.has_mk ?a ?l ?c ?k; (case a => k_is); (case l => k_is); (case c => k_is); (case k => k_is)
    case fless => refine' Rw.has_mk ?a ?l ?c ?k; (case a => k_is); (case l => k_is); (case c => k_is); (case k => k_is)
    case fwithin => refine' Rw.has_mk ?a ?l ?c ?k; (case a => k_is); (case l => k_is); (case c => k_is); (case k => k_is)
    case fgaps => refine' Rw.has_mk ?a ?l ?c ?k; (case a => k_is); (case l => k_is); (case c => k_is); (case k => k_is)
    case fhas => refine' Rw.has_mk ?a ?l ?c ?k; (case a => k_is); (case l => k_is); (case c => k_is); (case k => k_is)
    case fwhole_to => refine' Rw.has_mk ?a ?l ?c ?k; (case a => k_is); (case l => k_is); (case c => k_is); (case k => k_is)
    case famount => refine' Rw.has_mk ?a ?l ?c ?k; (case a => k_is); (case l => k_is); (case c => k_is); (case k => k_is)
    case f_law_dice => refine' Rw.has_mk ?a ?l ?c ?k; (case a => k_is); (case l => k_is); (case c => k_is); (case k => k_is)
    case f_law_next => refine' Rw.has_mk ?a ?l ?c ?k; (case a => k_is); (case l => k_is); (case c => k_is); (case k => k_is)
    case f_law_rows => refine' Rw.has_mk ?a ?l ?c ?k; (case a => k_is); (case l => k_is); (case c => k_is); (case k => k_is)
    case f_law_moved => refine' Rw.has_mk ?a ?l ?c ?k; (case a => k_is); (case l => k_is); (case c => k_is); (case k => k_is)
    case f_law_names => refine' Rw.has_mk ?a ?l ?c ?k; (case a => k_is); (case l => k_is); (case c => k_is); (case k => k_is)
    case f_law_told_rows => refine' Rw.has_mk ?a ?l ?c ?k; (case a => k_is); (case l => k_is); (case c => k_is); (case k => k_is)
    case f_law_gaps => refine' Rw.has_mk ?a ?l ?c ?k; (case a => k_is); (case l => k_is); (case c => k_is); (case k => k_is)
    case f_law_reach => refine' Rw.has_mk ?a ?l ?c ?k; (case a => k_is); (case l => k_is); (case c => k_is); (case k => k_is)
    case f_law_case => refine' Rw.has_mk ?a ?l ?c ?k; (case a => k_is); (case l => k_is); (case c => k_is); (case k => k_is)
    case f_law_like => refine' Rw.has_mk ?a ?l ?c ?k; (case a => k_is); (case l => k_is); (case c => k_is); (case k => k_is)
    case flaw => refine' Rw.has_mk ?a ?l ?c ?k; (case a => k_is); (case l => k_is); (case c => k_is); (case k => k_is)
    case tamount => kernel_rfl
    case tis_in => kernel_rfl
    case tne => kernel_rfl
    case last => refine' Rw.int_mk ?a; (case a => k_is)
    case most => refine' Rw.int_mk ?a; (case a => k_is)
    case zisinstance => k_is
    case zint => k_is
    case zbool => k_is
    case zstr => k_is
    case ztuple => k_is
    case zlist => k_is
    case zlen => k_is
    case zenumerate => k_is
    case zsorted => k_is
    case zrange => k_is
    case zmin => k_is
    case zmax => k_is
    case zsum => k_is
    case zany => k_is
    case zset => k_is
    case zdict => k_is
#print axioms PySem.Challenge.cw_doneranges_k02_sets_holds
