import PyProof.Rows.All
import Wide.All
import OpenK.AllK
import Wide.FinOn
import HandS.ForMost
import HandS.EndBits
import HandS.Walk
import HandS.Wide
import HandS.IsInst
import HandS.Conv
import HandS.SortRule
import HandS.TupSets
import KE.KDictSum
import HandS.AnyAll
import PyProof.SumAny
import HandS.Style
import HandS.EndTab
import KE.KNest
import KE.KNestM
import PySem.Challenge.RW_doneranges_k04_whole_rules_of_sets
set_option Elab.async false
set_option linter.all false
set_option maxRecDepth 100000
set_option autoImplicit false
namespace Rw
/-! rows (house, first, last), points (house, number), by the order of pairs -/
abbrev Row := Int × Int × Int
abbrev Pt := Int × Int
def lt2 (p q : Pt) : Prop := p.1 < q.1 ∨ (p.1 = q.1 ∧ p.2 < q.2)
def le2 (p q : Pt) : Prop := p.1 < q.1 ∨ (p.1 = q.1 ∧ p.2 ≤ q.2)
instance (p q : Pt) : Decidable (lt2 p q) := by unfold lt2; infer_instance
instance (p q : Pt) : Decidable (le2 p q) := by unfold le2; infer_instance
def inRow (r : Row) (p : Pt) : Prop := r.1 = p.1 ∧ r.2.1 ≤ p.2 ∧ p.2 ≤ r.2.2
instance (r : Row) (p : Pt) : Decidable (inRow r p) := by unfold inRow; infer_instance
def mem (rs : List Row) (p : Pt) : Prop := ∃ r ∈ rs, inRow r p
def before (r s : Row) : Prop := r.1 < s.1 ∨ (r.1 = s.1 ∧ r.2.2 + 1 < s.2.1)
structure Canon (rs : List Row) : Prop where
  ok : ∀ r ∈ rs, r.2.1 ≤ r.2.2
  ord : rs.Pairwise before
theorem Canon.nil : Canon [] := ⟨fun _ h => absurd h (by simp), .nil⟩
theorem Canon.tail {r : Row} {rs : List Row} (c : Canon (r :: rs)) : Canon rs :=
  ⟨fun s h => c.ok s (List.mem_cons_of_mem _ h), (List.pairwise_cons.mp c.ord).2⟩
theorem mem_cons {r : Row} {rs : List Row} {p : Pt} : mem (r :: rs) p ↔ inRow r p ∨ mem rs p := by
  unfold mem; simp
theorem mem_nil {p : Pt} : ¬ mem [] p := by unfold mem; simp
theorem mem_append {as bs : List Row} {p : Pt} : mem (as ++ bs) p ↔ mem as p ∨ mem bs p := by
  unfold mem
  constructor
  · rintro ⟨r, h, e⟩
    rcases List.mem_append.mp h with h | h
    · exact .inl ⟨r, h, e⟩
    · exact .inr ⟨r, h, e⟩
  · rintro (⟨r, h, e⟩ | ⟨r, h, e⟩)
    · exact ⟨r, List.mem_append_left _ h, e⟩
    · exact ⟨r, List.mem_append_right _ h, e⟩
/-- whatever is in a later row lies behind the first one, with a gap -/
theorem Canon.later {r : Row} {rs : List Row} (c : Canon (r :: rs)) {p : Pt} (h : mem rs p) : r.1 < p.1 ∨ (r.1 = p.1 ∧ r.2.2 + 1 < p.2) := by
  obtain ⟨s, hs, e1, e2, e3⟩ := h
  have b := (List.pairwise_cons.mp c.ord).1 s hs
  unfold before at b
  omega
theorem Canon.uniq : ∀ {xs ys : List Row}, Canon xs → Canon ys → (∀ p, mem xs p ↔ mem ys p) → xs = ys
  | [], [], _, _, _ => rfl
  | [], y :: ys, _, cy, h => by
    have o := cy.ok y List.mem_cons_self
    exact absurd ((h (y.1, y.2.1)).mpr (mem_cons.mpr (.inl ⟨rfl, Int.le_refl _, o⟩))) mem_nil
  | x :: xs, [], cx, _, h => by
    have o := cx.ok x List.mem_cons_self
    exact absurd ((h (x.1, x.2.1)).mp (mem_cons.mpr (.inl ⟨rfl, Int.le_refl _, o⟩))) mem_nil
  | x :: xs, y :: ys, cx, cy, h => by
    have ox := cx.ok x List.mem_cons_self
    have oy := cy.ok y List.mem_cons_self
    have a1 := mem_cons.mp ((h (x.1, x.2.1)).mp (mem_cons.mpr (.inl ⟨rfl, Int.le_refl _, ox⟩)))
    have a2 := mem_cons.mp ((h (y.1, y.2.1)).mpr (mem_cons.mpr (.inl ⟨rfl, Int.le_refl _, oy⟩)))
    have b1 : le2 (y.1, y.2.1) (x.1, x.2.1) := by
      unfold le2
      rcases a1 with ⟨e1, e2, e3⟩ | a1
      · simp only at e1 e2 e3 ⊢; omega
      · have z := cy.later a1; simp only at z ⊢; omega
    have b2 : le2 (x.1, x.2.1) (y.1, y.2.1) := by
      unfold le2
      rcases a2 with ⟨e1, e2, e3⟩ | a2
      · simp only at e1 e2 e3 ⊢; omega
      · have z := cx.later a2; simp only at z ⊢; omega
    unfold le2 at b1 b2
    simp only at b1 b2
    have eh : x.1 = y.1 := by omega
    have ea : x.2.1 = y.2.1 := by omega
    have c1 := mem_cons.mp ((h (x.1, x.2.2)).mp (mem_cons.mpr (.inl ⟨rfl, ox, Int.le_refl _⟩)))
    have c2 := mem_cons.mp ((h (y.1, y.2.2)).mpr (mem_cons.mpr (.inl ⟨rfl, oy, Int.le_refl _⟩)))
    have eb : x.2.2 = y.2.2 := by
      rcases Int.lt_trichotomy x.2.2 y.2.2 with z | z | z
      · -- (x.1, x.2.2 + 1) is in y, so in x's tail
        have d := mem_cons.mp ((h (x.1, x.2.2 + 1)).mpr (mem_cons.mpr (.inl ⟨eh.symm, by simp only; omega, by simp only; omega⟩)))
        rcases d with ⟨_, _, e3⟩ | d
        · simp only at e3; omega
        · have u := cx.later d; simp only at u; omega
      · exact z
      · have d := mem_cons.mp ((h (y.1, y.2.2 + 1)).mp (mem_cons.mpr (.inl ⟨eh, by simp only; omega, by simp only; omega⟩)))
        rcases d with ⟨_, _, e3⟩ | d
        · simp only at e3; omega
        · have u := cy.later d; simp only at u; omega
    have exy : x = y := by
      obtain ⟨x1, x2, x3⟩ := x
      obtain ⟨y1, y2, y3⟩ := y
      simp only at eh ea eb
      subst eh ea eb
      rfl
    subst exy
    congr 1
    refine Canon.uniq cx.tail cy.tail fun p => ?_
    constructor
    · intro m
      rcases mem_cons.mp ((h p).mp (mem_cons.mpr (.inr m))) with ⟨e1, e2, e3⟩ | d
      · have u := cx.later m; omega
      · exact d
    · intro m
      rcases mem_cons.mp ((h p).mpr (mem_cons.mpr (.inr m))) with ⟨e1, e2, e3⟩ | d
      · have u := cy.later m; omega
      · exact d
theorem Canon.snoc {rs : List Row} {r : Row} (c : Canon rs) (o : r.2.1 ≤ r.2.2) (h : ∀ s ∈ rs, before s r) : Canon (rs ++ [r]) := by
  refine ⟨fun s hs => ?_, List.pairwise_append.mpr ⟨c.ord, List.pairwise_singleton _ _, fun s hs t ht => ?_⟩⟩
  · rcases List.mem_append.mp hs with hs | hs
    · exact c.ok s hs
    · rw [List.mem_singleton.mp hs]; exact o
  · rw [List.mem_singleton.mp ht]; exact h s hs

/-! ### sums over weighted rows -/
abbrev WRow := Row × Int
def S (f : Row → Int) : List WRow → Int
  | [] => 0
  | (r, w) :: ws => w * f r + S f ws
theorem S_append (f : Row → Int) : ∀ (as bs : List WRow), S f (as ++ bs) = S f as + S f bs
  | [], bs => by simp [S]
  | (r, w) :: as, bs => by
    show w * f r + S f (as ++ bs) = w * f r + S f as + S f bs
    rw [S_append f as bs]; omega
theorem S_congr {f g : Row → Int} : ∀ {ws : List WRow}, (∀ x ∈ ws, f x.1 = g x.1) → S f ws = S g ws
  | [], _ => rfl
  | (r, w) :: ws, h => by
    show w * f r + S f ws = w * g r + S g ws
    rw [h (r, w) List.mem_cons_self, S_congr (ws := ws) fun x hx => h x (List.mem_cons_of_mem _ hx)]
theorem S_add (f g : Row → Int) : ∀ ws : List WRow, S (fun r => f r + g r) ws = S f ws + S g ws
  | [] => rfl
  | (r, w) :: ws => by
    show w * (f r + g r) + S (fun r => f r + g r) ws = (w * f r + S f ws) + (w * g r + S g ws)
    rw [S_add f g ws, Int.mul_add]; omega
theorem S_zero {f : Row → Int} : ∀ {ws : List WRow}, (∀ x ∈ ws, f x.1 = 0) → S f ws = 0
  | [], _ => rfl
  | (r, w) :: ws, h => by
    show w * f r + S f ws = 0
    rw [h (r, w) List.mem_cons_self, S_zero (ws := ws) fun x hx => h x (List.mem_cons_of_mem _ hx)]; omega
def ind (c : Prop) [Decidable c] : Int := if c then 1 else 0
theorem ind_pos {c : Prop} [Decidable c] (h : c) : ind c = 1 := if_pos h
theorem ind_neg {c : Prop} [Decidable c] (h : ¬ c) : ind c = 0 := if_neg h
theorem ind_or (c : Prop) [Decidable c] : (c ∧ ind c = 1) ∨ (¬ c ∧ ind c = 0) := by
  by_cases h : c
  · exact .inl ⟨h, ind_pos h⟩
  · exact .inr ⟨h, ind_neg h⟩
def fstP (r : Row) : Pt := (r.1, r.2.1)
def endP (r : Row) : Pt := (r.1, r.2.2 + 1)
/-- what weighs on a point -/
def cover (ws : List WRow) (p : Pt) : Int := S (fun r => ind (inRow r p)) ws
/-- the change at a point -/
def chg (ws : List WRow) (p : Pt) : Int := S (fun r => ind (fstP r = p) - ind (endP r = p)) ws
def Wok (ws : List WRow) : Prop := ∀ x ∈ ws, x.1.2.1 ≤ x.1.2.2
theorem cover_eq {ws : List WRow} (h : Wok ws) (p : Pt) : cover ws p = S (fun r => ind (le2 (fstP r) p) - ind (le2 (endP r) p)) ws := by
  refine S_congr fun x hx => ?_
  have o := h x hx
  obtain ⟨⟨rh, ra, rb⟩, w⟩ := x
  obtain ⟨ph, pn⟩ := p
  rcases ind_or (inRow (rh, ra, rb) (ph, pn)) with ⟨a, ea⟩ | ⟨a, ea⟩ <;> rcases ind_or (le2 (fstP (rh, ra, rb)) (ph, pn)) with ⟨b, eb⟩ | ⟨b, eb⟩ <;>
    rcases ind_or (le2 (endP (rh, ra, rb)) (ph, pn)) with ⟨c, ec⟩ | ⟨c, ec⟩ <;> rw [ea, eb, ec] <;> simp only [inRow, le2, fstP, endP] at a b c o <;> omega
/-- all points of change are among ks -/
def Has (ks : List Pt) (ws : List WRow) : Prop := ∀ x ∈ ws, fstP x.1 ∈ ks ∧ endP x.1 ∈ ks
/-- from a point to the next one of change -/
theorem cover_step {ws : List WRow} (o : Wok ws) {c k : Pt} (hlt : lt2 c k) (hn : ∀ x ∈ ws, (le2 (fstP x.1) c ∨ le2 k (fstP x.1)) ∧ (le2 (endP x.1) c ∨ le2 k (endP x.1))) :
    cover ws k = cover ws c + chg ws k := by
  rw [cover_eq o, cover_eq o, chg, ← S_add]
  refine S_congr fun x hx => ?_
  obtain ⟨a, b⟩ := hn x hx
  obtain ⟨⟨rh, ra, rb⟩, w⟩ := x
  obtain ⟨kh, kn⟩ := k
  obtain ⟨ch, cn⟩ := c
  simp only [lt2, le2, fstP, endP] at a b hlt
  rcases ind_or (le2 (fstP (rh, ra, rb)) (kh, kn)) with ⟨u1, e1⟩ | ⟨u1, e1⟩ <;> rcases ind_or (le2 (endP (rh, ra, rb)) (kh, kn)) with ⟨u2, e2⟩ | ⟨u2, e2⟩ <;>
    rcases ind_or (le2 (fstP (rh, ra, rb)) (ch, cn)) with ⟨u3, e3⟩ | ⟨u3, e3⟩ <;> rcases ind_or (le2 (endP (rh, ra, rb)) (ch, cn)) with ⟨u4, e4⟩ | ⟨u4, e4⟩ <;>
    rcases ind_or (fstP (rh, ra, rb) = (kh, kn)) with ⟨u5, e5⟩ | ⟨u5, e5⟩ <;> rcases ind_or (endP (rh, ra, rb) = (kh, kn)) with ⟨u6, e6⟩ | ⟨u6, e6⟩ <;>
    rw [e1, e2, e3, e4, e5, e6] <;> simp only [le2, fstP, endP, Prod.mk.injEq] at u1 u2 u3 u4 u5 u6 <;> omega
theorem cover_same {ws : List WRow} (o : Wok ws) {c p : Pt} (hle : le2 c p) (hn : ∀ x ∈ ws, (le2 (fstP x.1) c ∨ lt2 p (fstP x.1)) ∧ (le2 (endP x.1) c ∨ lt2 p (endP x.1))) :
    cover ws p = cover ws c := by
  rw [cover_eq o, cover_eq o]
  refine S_congr fun x hx => ?_
  obtain ⟨a, b⟩ := hn x hx
  obtain ⟨⟨rh, ra, rb⟩, w⟩ := x
  obtain ⟨kh, kn⟩ := p
  obtain ⟨ch, cn⟩ := c
  simp only [lt2, le2, fstP, endP] at a b hle
  rcases ind_or (le2 (fstP (rh, ra, rb)) (kh, kn)) with ⟨u1, e1⟩ | ⟨u1, e1⟩ <;> rcases ind_or (le2 (endP (rh, ra, rb)) (kh, kn)) with ⟨u2, e2⟩ | ⟨u2, e2⟩ <;>
    rcases ind_or (le2 (fstP (rh, ra, rb)) (ch, cn)) with ⟨u3, e3⟩ | ⟨u3, e3⟩ <;> rcases ind_or (le2 (endP (rh, ra, rb)) (ch, cn)) with ⟨u4, e4⟩ | ⟨u4, e4⟩ <;>
    rw [e1, e2, e3, e4] <;> simp only [le2, fstP, endP] at u1 u2 u3 u4 <;> omega
theorem cover_first {ws : List WRow} (o : Wok ws) {k : Pt} (hn : ∀ x ∈ ws, le2 k (fstP x.1) ∧ le2 k (endP x.1)) : cover ws k = chg ws k := by
  rw [cover_eq o, chg]
  refine S_congr fun x hx => ?_
  obtain ⟨a, b⟩ := hn x hx
  obtain ⟨⟨rh, ra, rb⟩, w⟩ := x
  obtain ⟨kh, kn⟩ := k
  simp only [le2, fstP, endP] at a b
  rcases ind_or (le2 (fstP (rh, ra, rb)) (kh, kn)) with ⟨u1, e1⟩ | ⟨u1, e1⟩ <;> rcases ind_or (le2 (endP (rh, ra, rb)) (kh, kn)) with ⟨u2, e2⟩ | ⟨u2, e2⟩ <;>
    rcases ind_or (fstP (rh, ra, rb) = (kh, kn)) with ⟨u5, e5⟩ | ⟨u5, e5⟩ <;> rcases ind_or (endP (rh, ra, rb) = (kh, kn)) with ⟨u6, e6⟩ | ⟨u6, e6⟩ <;>
    rw [e1, e2, e5, e6] <;> simp only [le2, fstP, endP, Prod.mk.injEq] at u1 u2 u5 u6 <;> omega
theorem cover_none {ws : List WRow} {p : Pt} (hn : ∀ x ∈ ws, ¬ inRow x.1 p) : cover ws p = 0 := S_zero fun x hx => ind_neg (hn x hx)
/-- something covers: its end lies behind, in the same house -/
theorem cover_pos {ws : List WRow} {p : Pt} (h : cover ws p ≠ 0) : ∃ x ∈ ws, inRow x.1 p := by
  by_cases e : ∃ x ∈ ws, inRow x.1 p
  · exact e
  · exact absurd (cover_none fun x hx q => e ⟨x, hx, q⟩) h

/-! ### the sweep -/
structure St where
  out : List Row
  total : Int
  start : Int
def stepM (ch : Pt → Int) (least : Int) (s : St) (k : Pt) : St :=
  if s.total < least ∧ least ≤ s.total + ch k then ⟨s.out, s.total + ch k, k.2⟩
  else if s.total + ch k < least ∧ least ≤ s.total then ⟨s.out ++ [(k.1, s.start, k.2 - 1)], s.total + ch k, s.start⟩
  else ⟨s.out, s.total + ch k, s.start⟩
/-- behind the point c of change: what is out, and what is open -/
structure At (ws : List WRow) (least : Int) (c : Pt) (s : St) : Prop where
  tot : s.total = cover ws c
  can : Canon s.out
  cl : s.total < least → (∀ r ∈ s.out, le2 (endP r) c) ∧ ∀ p, le2 p c → (mem s.out p ↔ least ≤ cover ws p)
  op : least ≤ s.total → s.start ≤ c.2 ∧ (∀ r ∈ s.out, lt2 (endP r) (c.1, s.start)) ∧ (∀ n, s.start ≤ n → n ≤ c.2 → least ≤ cover ws (c.1, n)) ∧
    ∀ p, lt2 p (c.1, s.start) → (mem s.out p ↔ least ≤ cover ws p)
theorem not_mem_of_end {rs : List Row} {c p : Pt} (h : ∀ r ∈ rs, le2 (endP r) c) (hp : le2 c p) : ¬ mem rs p := by
  rintro ⟨r, hr, e1, e2, e3⟩
  have a := h r hr
  unfold le2 endP at a
  unfold le2 at hp
  simp only at a
  omega
theorem At.step {ws : List WRow} {least : Int} (hl : 0 < least) (o : Wok ws) {c k : Pt} {s : St} (a : At ws least c s) (hlt : lt2 c k)
    (hn : ∀ x ∈ ws, (le2 (fstP x.1) c ∨ le2 k (fstP x.1)) ∧ (le2 (endP x.1) c ∨ le2 k (endP x.1))) : At ws least k (stepM (chg ws) least s k) := by
  have tk : s.total + chg ws k = cover ws k := by rw [a.tot, cover_step o hlt hn]
  have same : ∀ p, le2 c p → lt2 p k → cover ws p = cover ws c := fun p h1 h2 => by
    refine cover_same o h1 fun x hx => ?_
    obtain ⟨u, v⟩ := hn x hx
    unfold lt2 le2 at *
    exact ⟨by omega, by omega⟩
  unfold stepM
  rw [tk]
  by_cases h1 : s.total < least
  · obtain ⟨c1, c2⟩ := a.cl h1
    have hm : ∀ p, lt2 p k → (mem s.out p ↔ least ≤ cover ws p) := fun p hp => by
      by_cases hc : le2 p c
      · exact c2 p hc
      · have hc' : le2 c p := by unfold le2 at *; omega
        have nm := not_mem_of_end c1 hc'
        have e := same p hc' hp
        rw [e, ← a.tot]
        exact ⟨fun z => absurd z nm, fun z => absurd h1 (by omega)⟩
    by_cases h2 : least ≤ cover ws k
    · rw [if_pos ⟨h1, h2⟩]
      refine ⟨rfl, a.can, fun z => absurd z (by simp only; omega), fun _ => ⟨Int.le_refl _, fun r hr => ?_, fun n z1 z2 => ?_, fun p hp => hm p hp⟩⟩
      · have q := c1 r hr
        unfold le2 lt2 at *
        simp only at *
        omega
      · have : n = k.2 := by simp only at z1 z2; omega
        rw [this]; exact h2
    · rw [if_neg (fun z => h2 z.2), if_neg (fun z => absurd z.2 (by omega))]
      refine ⟨rfl, a.can, fun _ => ⟨fun r hr => ?_, fun p hp => ?_⟩, fun z => absurd z (by simp only; omega)⟩
      · have q := c1 r hr
        unfold le2 lt2 at *
        omega
      · by_cases hpk : lt2 p k
        · exact hm p hpk
        · have e : p = k := by
            obtain ⟨p1, p2⟩ := p
            obtain ⟨k1, k2⟩ := k
            unfold le2 at hp
            unfold lt2 at hpk
            simp only at hp hpk
            have e1 : p1 = k1 := by omega
            have e2 : p2 = k2 := by omega
            rw [e1, e2]
          subst e
          have hck : le2 c p := by unfold lt2 at hlt; unfold le2; omega
          exact ⟨fun z => absurd z (not_mem_of_end c1 hck), fun z => absurd z h2⟩
  · have h1' : least ≤ s.total := by omega
    obtain ⟨o1, o2, o3, o4⟩ := a.op h1'
    rw [if_neg (fun z => h1 z.1)]
    -- a row that covers c ends behind c in its house: k lies in the same house
    have hk1 : k.1 = c.1 := by
      obtain ⟨x, hx, i1, i2, i3⟩ := cover_pos (ws := ws) (p := c) (by rw [← a.tot]; omega)
      obtain ⟨_, v⟩ := hn x hx
      unfold le2 endP at v
      unfold lt2 at hlt
      simp only at v
      omega
    have hk2 : c.2 < k.2 := by unfold lt2 at hlt; omega
    have seg : ∀ n, s.start ≤ n → n < k.2 → least ≤ cover ws (c.1, n) := fun n z1 z2 => by
      by_cases hc : n ≤ c.2
      · exact o3 n z1 hc
      · rw [same (c.1, n) (.inr ⟨rfl, by simp only; omega⟩) (.inr ⟨hk1.symm, z2⟩), ← a.tot]
        exact h1'
    by_cases h2 : cover ws k < least
    · rw [if_pos ⟨h2, h1'⟩]
      refine ⟨rfl, a.can.snoc (by simp only; omega) fun r hr => ?_, fun _ => ⟨fun r hr => ?_, fun p hp => ?_⟩, fun z => absurd z (show ¬ least ≤ cover ws k by omega)⟩
      · have q := o2 r hr
        unfold lt2 endP at q
        unfold before
        simp only at q ⊢
        omega
      · rcases List.mem_append.mp hr with hr | hr
        · have q := o2 r hr
          unfold lt2 at q
          unfold le2
          simp only at q ⊢
          omega
        · rw [List.mem_singleton.mp hr]
          exact .inr ⟨rfl, show k.2 - 1 + 1 ≤ k.2 by omega⟩
      · rw [mem_append]
        by_cases hb : lt2 p (c.1, s.start)
        · rw [← o4 p hb]
          constructor
          · rintro (z | ⟨r, hr, i1, i2, i3⟩)
            · exact z
            · rw [List.mem_singleton.mp hr] at i1 i2 i3
              unfold lt2 at hb
              simp only at i1 i2 i3 hb
              omega
          · exact .inl
        · by_cases hpk : lt2 p k
          · have e : p.1 = c.1 := by
              unfold lt2 at hb hpk
              simp only at hb
              omega
            have z1 : s.start ≤ p.2 := by
              unfold lt2 at hb
              simp only at hb
              omega
            have z2 : p.2 < k.2 := by
              unfold lt2 at hpk
              omega
            have q := seg p.2 z1 z2
            rw [← e] at q
            refine ⟨fun _ => q, fun _ => .inr ⟨_, List.mem_singleton.mpr rfl, ?_, ?_, ?_⟩⟩
            · simp only; omega
            · exact z1
            · simp only; omega
          · have e : p = k := by
              obtain ⟨p1, p2⟩ := p
              obtain ⟨k1, k2⟩ := k
              unfold le2 at hp
              unfold lt2 at hpk
              simp only at hp hpk
              have e1 : p1 = k1 := by omega
              have e2 : p2 = k2 := by omega
              rw [e1, e2]
            subst e
            refine ⟨fun z => ?_, fun z => absurd z (by omega)⟩
            exfalso
            rcases z with ⟨r, hr, i1, i2, i3⟩ | ⟨r, hr, i1, i2, i3⟩
            · have q := o2 r hr
              unfold lt2 endP at q
              simp only at q
              omega
            · rw [List.mem_singleton.mp hr] at i1 i2 i3
              simp only at i1 i2 i3
              omega
    · rw [if_neg (fun z => h2 z.1)]
      refine ⟨rfl, a.can, fun z => absurd z (by simp only; omega), fun _ => ⟨by simp only; omega, ?_, fun n z1 z2 => ?_, ?_⟩⟩
      · rw [hk1]; exact o2
      · rw [hk1]
        by_cases hn2 : n < k.2
        · exact seg n z1 hn2
        · have : n = k.2 := by omega
          rw [this, ← hk1]
          show least ≤ cover ws k
          omega
      · rw [hk1]; exact o4
/-- the first point -/
theorem At.start {ws : List WRow} {least : Int} (hl : 0 < least) (o : Wok ws) {k : Pt} (z : Int) (hn : ∀ x ∈ ws, le2 k (fstP x.1) ∧ le2 k (endP x.1)) :
    At ws least k (stepM (chg ws) least ⟨[], 0, z⟩ k) := by
  have tk : (0 : Int) + chg ws k = cover ws k := by rw [cover_first o hn]; omega
  have zero : ∀ p, lt2 p k → cover ws p = 0 := fun p hp => cover_none fun x hx ⟨i1, i2, i3⟩ => by
    obtain ⟨u, _⟩ := hn x hx
    unfold le2 fstP at u
    unfold lt2 at hp
    simp only at u
    omega
  unfold stepM
  simp only
  rw [tk]
  by_cases h2 : least ≤ cover ws k
  · rw [if_pos ⟨hl, h2⟩]
    refine ⟨rfl, .nil, fun z => absurd z (by simp only; omega), fun _ => ⟨Int.le_refl _, fun r hr => absurd hr (by simp), fun n z1 z2 => ?_, fun p hp => ?_⟩⟩
    · have : n = k.2 := by simp only at z1 z2; omega
      rw [this]; exact h2
    · rw [zero p hp]
      exact ⟨fun z => absurd z mem_nil, fun z => absurd z (by omega)⟩
  · rw [if_neg (fun z => h2 z.2), if_neg (fun z => absurd z.2 (by omega))]
    refine ⟨rfl, .nil, fun _ => ⟨fun r hr => absurd hr (by simp), fun p hp => ?_⟩, fun z => absurd z (by simp only; omega)⟩
    by_cases hpk : lt2 p k
    · rw [zero p hpk]
      exact ⟨fun z => absurd z mem_nil, fun z => absurd z (by omega)⟩
    · have e : p = k := by
        obtain ⟨p1, p2⟩ := p
        obtain ⟨k1, k2⟩ := k
        unfold le2 at hp
        unfold lt2 at hpk
        simp only at hp hpk
        have e1 : p1 = k1 := by omega
        have e2 : p2 = k2 := by omega
        rw [e1, e2]
      subst e
      exact ⟨fun z => absurd z mem_nil, fun z => absurd z h2⟩
theorem le2_of_not {p q : Pt} (h : ¬ lt2 p q) : le2 q p := by unfold lt2 at h; unfold le2; omega
theorem At.done {ws : List WRow} {least : Int} (hl : 0 < least) (o : Wok ws) {c : Pt} {s : St} (a : At ws least c s) (hn : ∀ x ∈ ws, le2 (fstP x.1) c ∧ le2 (endP x.1) c) :
    Canon s.out ∧ ∀ p, mem s.out p ↔ least ≤ cover ws p := by
  have far : ∀ p, le2 c p → cover ws p = 0 := fun p hp => cover_none fun x hx ⟨i1, i2, i3⟩ => by
    obtain ⟨_, v⟩ := hn x hx
    unfold le2 endP at v
    unfold le2 at hp
    simp only at v
    omega
  have ht : s.total < least := by
    rw [a.tot, far c (by unfold le2; omega)]; exact hl
  obtain ⟨c1, c2⟩ := a.cl ht
  refine ⟨a.can, fun p => ?_⟩
  by_cases hp : le2 p c
  · exact c2 p hp
  · have hp' : le2 c p := by unfold le2 at *; omega
    rw [far p hp']
    exact ⟨fun z => absurd z (not_mem_of_end c1 hp'), fun z => absurd z (by omega)⟩
theorem sweep_from {ws : List WRow} {least : Int} (hl : 0 < least) (o : Wok ws) : ∀ (ks : List Pt) (c : Pt) (s : St), At ws least c s → (c :: ks).Pairwise lt2 →
    (∀ x ∈ ws, (le2 (fstP x.1) c ∨ fstP x.1 ∈ ks) ∧ (le2 (endP x.1) c ∨ endP x.1 ∈ ks)) →
    Canon (ks.foldl (stepM (chg ws) least) s).out ∧ ∀ p, mem (ks.foldl (stepM (chg ws) least) s).out p ↔ least ≤ cover ws p
  | [], c, s, a, _, h => a.done hl o fun x hx => by
    obtain ⟨u, v⟩ := h x hx
    exact ⟨u.resolve_right (by simp), v.resolve_right (by simp)⟩
  | k :: ks, c, s, a, hp, h => by
    have h1 := (List.pairwise_cons.mp hp).1 k List.mem_cons_self
    have h2 := (List.pairwise_cons.mp hp).2
    have h3 := (List.pairwise_cons.mp h2).1
    have key : ∀ q : Pt, (le2 q c ∨ q ∈ k :: ks) → (le2 q c ∨ le2 k q) := fun q z => by
      rcases z with z | z
      · exact .inl z
      · rcases List.mem_cons.mp z with e | z
        · subst e; exact .inr (by unfold le2; omega)
        · have w := h3 q z
          exact .inr (by unfold lt2 at w; unfold le2; omega)
    refine sweep_from hl o ks k _ (a.step hl o h1 fun x hx => ⟨key _ (h x hx).1, key _ (h x hx).2⟩) h2 fun x hx => ?_
    have key2 : ∀ q : Pt, (le2 q c ∨ q ∈ k :: ks) → (le2 q k ∨ q ∈ ks) := fun q z => by
      rcases z with z | z
      · exact .inl (by unfold lt2 at h1; unfold le2 at *; omega)
      · rcases List.mem_cons.mp z with e | z
        · subst e; exact .inl (by unfold le2; omega)
        · exact .inr z
    exact ⟨key2 _ (h x hx).1, key2 _ (h x hx).2⟩
/-- THE SWEEP: the fewest rows of what weighs least or more -/
theorem sweep {ws : List WRow} {least : Int} (hl : 0 < least) (o : Wok ws) {ks : List Pt} (hp : ks.Pairwise lt2) (h : Has ks ws) (z : Int) :
    Canon (ks.foldl (stepM (chg ws) least) ⟨[], 0, z⟩).out ∧ ∀ p, mem (ks.foldl (stepM (chg ws) least) ⟨[], 0, z⟩).out p ↔ least ≤ cover ws p := by
  cases ks with
  | nil =>
    have e : ws = [] := by
      cases ws with
      | nil => rfl
      | cons x xs => exact absurd (h x List.mem_cons_self).1 (by simp)
    subst e
    refine ⟨.nil, fun p => ⟨fun z => absurd z mem_nil, fun z => absurd z ?_⟩⟩
    show ¬ least ≤ 0
    omega
  | cons k ks =>
    have h3 := (List.pairwise_cons.mp hp).1
    have key : ∀ q : Pt, q ∈ k :: ks → le2 k q := fun q z => by
      rcases List.mem_cons.mp z with e | z
      · subst e; unfold le2; omega
      · have w := h3 q z
        unfold lt2 at w; unfold le2; omega
    refine sweep_from hl o ks k _ (At.start hl o z fun x hx => ⟨key _ (h x hx).1, key _ (h x hx).2⟩) hp fun x hx => ?_
    have key2 : ∀ q : Pt, q ∈ k :: ks → (le2 q k ∨ q ∈ ks) := fun q z => by
      rcases List.mem_cons.mp z with e | z
      · subst e; exact .inl (by unfold le2; omega)
      · exact .inr z
    exact ⟨key2 _ (h x hx).1, key2 _ (h x hx).2⟩
end Rw
namespace Rw
open PySem L2
/-! ### kinds of data that never change -/
structure Kd (α : Type) where
  is : Hp → V → α → Prop
  mono : ∀ {F F' : Hp} {v : V} {x : α}, Same F F' → is F v x → is F' v x
def kInt : Kd Int := ⟨fun _ v x => v = .int x, fun _ h => h⟩
def kRow : Kd Row := ⟨fun F v r => ∃ t, v = .ref t ∧ F t = some (.tup [.int r.1, .int r.2.1, .int r.2.2]), fun s ⟨t, e, h⟩ => ⟨t, e, s _ _ h⟩⟩
def kPt : Kd Pt := ⟨fun F v p => ∃ t, v = .ref t ∧ F t = some (.tup [.int p.1, .int p.2]), fun s ⟨t, e, h⟩ => ⟨t, e, s _ _ h⟩⟩
def kW : Kd WRow := ⟨fun F v x => ∃ t u, v = .ref t ∧ F t = some (.tup [u, .int x.2]) ∧ kRow.is F u x.1, fun s ⟨t, u, e, h, k⟩ => ⟨t, u, e, s _ _ h, kRow.mono s k⟩⟩
theorem pr_mono {α : Type} {R S : V → α → Prop} (h : ∀ v x, R v x → S v x) : ∀ {vs : List V} {xs : List α}, Paired R vs xs → Paired S vs xs
  | _, _, .nil => .nil
  | _, _, .cons r t => .cons (h _ _ r) (pr_mono h t)
theorem pr_len {α : Type} {R : V → α → Prop} : ∀ {vs : List V} {xs : List α}, Paired R vs xs → vs.length = xs.length
  | _, _, .nil => rfl
  | _, _, .cons _ t => by rw [List.length_cons, List.length_cons, pr_len t]
theorem pr_get {α : Type} {R : V → α → Prop} : ∀ {vs : List V} {xs : List α} {i : Nat} {v : V}, Paired R vs xs → vs[i]? = some v → ∃ x, xs[i]? = some x ∧ R v x
  | _, _, _, _, .nil, e => by simp at e
  | _, _, 0, _, .cons r _, e => by simp at e; subst e; exact ⟨_, rfl, r⟩
  | _, _, i + 1, v, .cons _ t, e => by
    obtain ⟨x, h1, h2⟩ := pr_get (i := i) (v := v) t (by simpa using e)
    exact ⟨x, by simpa using h1, h2⟩
theorem pr_get' {α : Type} {R : V → α → Prop} : ∀ {vs : List V} {xs : List α} {i : Nat} {x : α}, Paired R vs xs → xs[i]? = some x → ∃ v, vs[i]? = some v ∧ R v x
  | _, _, _, _, .nil, e => by simp at e
  | _, _, 0, _, .cons r _, e => by simp at e; subst e; exact ⟨_, rfl, r⟩
  | _, _, i + 1, v, .cons _ t, e => by
    obtain ⟨x, h1, h2⟩ := pr_get' (i := i) t (by simpa using e)
    exact ⟨x, by simpa using h1, h2⟩
theorem pr_append {α : Type} {R : V → α → Prop} : ∀ {vs us : List V} {xs ys : List α}, Paired R vs xs → Paired R us ys → Paired R (vs ++ us) (xs ++ ys)
  | _, _, _, _, .nil, s => s
  | _, _, _, _, .cons r t, s => .cons r (pr_append t s)
theorem pr_snoc {α : Type} {R : V → α → Prop} {vs : List V} {xs : List α} {v : V} {x : α} (h : Paired R vs xs) (r : R v x) : Paired R (vs ++ [v]) (xs ++ [x]) := pr_append h (.cons r .nil)
theorem pr_take {α : Type} {R : V → α → Prop} : ∀ {vs : List V} {xs : List α} (n : Nat), Paired R vs xs → Paired R (vs.take n) (xs.take n)
  | _, _, 0, _ => .nil
  | _, _, _ + 1, .nil => .nil
  | _, _, n + 1, .cons r t => .cons r (pr_take n t)
theorem pr_drop {α : Type} {R : V → α → Prop} : ∀ {vs : List V} {xs : List α} (n : Nat), Paired R vs xs → Paired R (vs.drop n) (xs.drop n)
  | _, _, 0, r => r
  | _, _, _ + 1, .nil => .nil
  | _, _, n + 1, .cons _ t => pr_drop n t
theorem pr_map {α β : Type} {R : V → α → Prop} {S : V → β → Prop} {f : α → β} (h : ∀ v x, R v x → S v (f x)) : ∀ {vs : List V} {xs : List α}, Paired R vs xs → Paired S vs (xs.map f)
  | _, _, .nil => .nil
  | _, _, .cons r t => .cons (h _ _ r) (pr_map h t)
theorem pr_mem {α : Type} {R : V → α → Prop} {v : V} : ∀ {vs : List V} {xs : List α}, Paired R vs xs → v ∈ vs → ∃ x ∈ xs, R v x
  | _, _, .nil, h => by simp at h
  | _, _, .cons r t, h => by
    rcases List.mem_cons.mp h with e | h
    · subst e; exact ⟨_, List.mem_cons_self, r⟩
    · obtain ⟨x, hx, rx⟩ := pr_mem t h; exact ⟨x, List.mem_cons_of_mem _ hx, rx⟩
/-- lists of data -/
def kL {α : Type} (k : Kd α) : Kd (List α) := ⟨fun F v xs => ∃ a vs, v = .ref a ∧ F a = some (.lst vs) ∧ Paired (k.is F) vs xs, fun s ⟨a, vs, e, h, p⟩ => ⟨a, vs, e, s _ _ h, pr_mono (fun _ _ r => k.mono s r) p⟩⟩
/-! ### frames: F the part that never changes, H the whole; M the places that the step may change -/
structure Ext (M : Addr → Prop) (F H F' H' : Hp) : Prop where
  ff : Same F F'
  fh : Same F' H'
  hh : ∀ b o, H b = some o → ¬ M b → H' b = some o
  tr : ∀ b, H b ≠ none → H' b ≠ none
  new : ∀ b, H b ≠ none → F' b = F b
abbrev M0 : Addr → Prop := fun _ => False
section
variable {M M' : Addr → Prop} {F H F' H' F'' H'' : Hp} {p : Addr} {o : HO}
theorem Ext.refl (s : Same F H) : Ext M F H F H := ⟨Same.refl F, s, fun _ _ h _ => h, fun _ h => h, fun _ _ => rfl⟩
theorem Ext.trans (a : Ext M F H F' H') (b : Ext M F' H' F'' H'') : Ext M F H F'' H'' :=
  ⟨a.ff.trans b.ff, b.fh, fun c u h m => b.hh c u (a.hh c u h m) m, fun c h => b.tr c (a.tr c h), fun c h => (b.new c (a.tr c h)).trans (a.new c h)⟩
theorem Ext.mono (a : Ext M F H F' H') (h : ∀ b, M b → M' b) : Ext M' F H F' H' := ⟨a.ff, a.fh, fun c u e m => a.hh c u e fun z => m (h c z), a.tr, a.new⟩
theorem Ext.up (a : Ext M0 F H F' H') : Ext M F H F' H' := a.mono fun _ z => z.elim
theorem Ext.same (a : Ext M0 F H F' H') : Same H H' := fun b o h => a.hh b o h fun z => z
theorem Ext.free (a : Ext M F H F' H') (h : H' p = none) : H p = none := by
  cases q : H p with
  | none => rfl
  | some u => exact absurd h (a.tr p (by rw [q]; simp))
theorem Ext.ffree (a : Ext M F H F' H') (h : H' p = none) : F' p = none := a.fh.free h
/-- a new thing that never changes -/
theorem Ext.lay (a : Ext M F H F' H') (h : H' p = none) : Ext M F H (upd F' p o) (upd H' p o) := by
  have fp := a.ffree h
  have hp := a.free h
  refine ⟨fun b u e => ?_, fun b u e => ?_, fun b u e m => ?_, fun b e => ?_, fun b e => ?_⟩
  · rw [upd_ne (ne_of_none (a.ff b u e) fp)]; exact a.ff b u e
  · by_cases hb : b = p
    · subst hb; rw [upd_same] at e ⊢; exact e
    · rw [upd_ne hb] at e ⊢; exact a.fh b u e
  · rw [upd_ne (ne_of_none (a.hh b u e m) h)]; exact a.hh b u e m
  · by_cases hb : b = p
    · subst hb; exact absurd hp e
    · rw [upd_ne hb]; exact a.tr b e
  · by_cases hb : b = p
    · subst hb; exact absurd hp e
    · rw [upd_ne hb]; exact a.new b e
/-- a new thing outside of F, or a change of one -/
theorem Ext.put (a : Ext M F H F' H') (h : H p = none ∨ M p) (f : F' p = none) : Ext M F H F' (upd H' p o) := by
  refine ⟨a.ff, fun b u e => ?_, fun b u e m => ?_, fun b e => ?_, a.new⟩
  · rw [upd_ne (ne_of_none e f)]; exact a.fh b u e
  · have hb : b ≠ p := fun z => by
      subst z
      rcases h with h | h
      · rw [h] at e; cases e
      · exact m h
    rw [upd_ne hb]; exact a.hh b u e m
  · by_cases hb : b = p
    · subst hb; rw [upd_same]; simp
    · rw [upd_ne hb]; exact a.tr b e
theorem Ext.tmp (a : Ext M F H F' H') (h : H' p = none) : Ext M F H F' (upd H' p o) := a.put (.inl (a.free h)) (a.ffree h)
/-- what was made within, from now on never changes -/
theorem Ext.frz (a : Ext M F H F' H') (h : H p = none) (f : F' p = none) (e : H' p = some o) : Ext M F H (upd F' p o) H' := by
  refine ⟨fun b u z => ?_, fun b u z => ?_, a.hh, a.tr, fun b z => ?_⟩
  · rw [upd_ne (ne_of_none (a.ff b u z) f)]; exact a.ff b u z
  · by_cases hb : b = p
    · subst hb; rw [upd_same] at z; cases z; exact e
    · rw [upd_ne hb] at z; exact a.fh b u z
  · have hb : b ≠ p := fun q => by subst q; exact z h
    rw [upd_ne hb]; exact a.new b z
end
theorem same_upd {H : Hp} {p : Addr} {o : HO} (h : H p = none) : Same H (upd H p o) := fun b x e => by
  rw [upd_ne (ne_of_none e h)]
  exact e
/-- a promise: a new list of such data, of which φ holds; the list itself may be changed behind -/
def RetL {α : Type} (M : Addr → Prop) (F H : Hp) (k : Kd α) (φ : List α → Prop) (Q : VK) : Prop :=
  ∀ (F' H' : Hp) (a : Addr) (vs : List V) (xs : List α), Ext M F H F' H' → H a = none → F' a = none → H' a = some (.lst vs) → Paired (k.is F') vs xs → φ xs → Q (.ref a) H'
/-- a promise: this value, nothing changed -/
def RetV (F H : Hp) (v : V) (Q : VK) : Prop := ∀ (F' H' : Hp), Ext M0 F H F' H' → Q v H'
theorem kL_new {α : Type} {k : Kd α} {F' : Hp} {a : Addr} {vs : List V} {xs : List α} (f : F' a = none) (h : Paired (k.is F') vs xs) : (kL k).is (upd F' a (.lst vs)) (.ref a) xs :=
  ⟨a, vs, rfl, upd_same, pr_mono (fun _ _ r => k.mono (same_upd f) r) h⟩
/-! ### as data of the library -/
def dRow (r : Row) : PyData := .tuple [.int r.1, .int r.2.1, .int r.2.2]
def dPt (p : Pt) : PyData := .tuple [.int p.1, .int p.2]
structure Kd.Enc {α : Type} (k : Kd α) (d : α → PyData) : Prop where
  dp : ∀ {K : PySem.W.Frag} {F H : Hp} {v : V} {x : α}, Same F H → k.is F v x → Dp K H v (d x)
theorem dpInts {K : PySem.W.Frag} {H : Hp} : ∀ ns : List Int, DpAll K H (ns.map V.int) (ns.map PyData.int)
  | [] => .nil
  | n :: ns => .cons (.int n) (dpInts ns)
theorem enc_row : kRow.Enc dRow := ⟨fun s ⟨t, e, h⟩ => by subst e; exact .tup (SqT.of (s _ _ h)) (dpInts [_, _, _])⟩
theorem enc_pt : kPt.Enc dPt := ⟨fun s ⟨t, e, h⟩ => by subst e; exact .tup (SqT.of (s _ _ h)) (dpInts [_, _])⟩
theorem dpAll {α : Type} {k : Kd α} {d : α → PyData} (E : k.Enc d) {K : PySem.W.Frag} {F H : Hp} (s : Same F H) : ∀ {vs : List V} {xs : List α}, Paired (k.is F) vs xs → DpAll K H vs (xs.map d)
  | _, _, .nil => .nil
  | _, _, .cons r t => .cons (E.dp s r) (dpAll E s t)
def dL {α : Type} (d : α → PyData) (xs : List α) : PyData := .list (xs.map d)
theorem enc_L {α : Type} {k : Kd α} {d : α → PyData} (E : k.Enc d) : (kL k).Enc (dL d) := ⟨fun s ⟨a, vs, e, h, p⟩ => by subst e; exact .lst (SqL.of (s _ _ h)) (dpAll E s p)⟩
end Rw
namespace Rw
open PySem PySem.Spec PyProof.Rows L2
/-! ### sorted(d) of a dict whose keys are pairs of ints, any length -/
section
variable {prog : Program} {w : World} {A : Around} {E : Value → Shared → Prop} {s : Shared} {T : String} {r d : Addr} {n : Nat} {P : Nat → Value → Prop} {OK : Heap → Prop}
theorem sorted_src {vs : List Value} {k : Value → Int × Int} {Q : Value → Shared → Prop} (K : PySem.W.KdlSrc prog w T r d n P OK) (hh : A.handled = none) (hok : OK s.heap) (hn : n ≤ sizeLine)
    (hv : ∀ acc, ItemsOf P acc n → acc.toList = vs) (hp : ∀ v ∈ vs, Srt.IsPair s.heap v (k v).1 (k v).2)
    (h : ∀ (h1 h' : Heap) (tk : Nat) (e : Addr) (out : List Value), SrtO.Srtd (fun v u => SrtO.lexB (k v) (k u)) out → SrtO.Stb (fun v u => SrtO.lexB (k v) (k u)) out vs → (∀ b o, s.heap.get? b = some o → h1.get? b = some o) → (∀ b o, h1.get? b = some o → h'.get? b = some o) → h1.objs.size ≤ e →
      (∃ n, h'.get? e = some (seqObj "list" out.toArray n)) → Q (.ref e) { s with heap := h', toks := tk }) :
    wpAny (model prog w) A (call (.builtin "sorted") [.ref r]) Q E s := by
  refine Calls.call_function_entry kind_sorted plain_sorted entry_sorted (args_sorted1 _) ?_
  unfold Builtin.«sorted»
  refine wpAny_bind (m := checkCount "sorted" 1 1 _) (wpAny_pure ?_)
  refine wpAny_bind (PySem.W.kdu_collect (A := A.in1) K hh hok hn fun h' tk acc hk hacc => ?_)
  have e := hv acc hacc
  have hz : vs.length ≤ sizeLine := by rw [← e, Array.length_toList, hacc.1]; exact hn
  rw [e]
  refine wpAny_bind (wpAny_newList ?_ hz)
  have hoL : (h'.push (seqObj "list" vs.toArray 0)).get? h'.objs.size = some (seqObj "list" vs.toArray 0) := Heap.get?_push_size _ rfl
  have keep : ∀ b o, s.heap.get? b = some o → b ≠ h'.objs.size ∧ (h'.push (seqObj "list" vs.toArray 0)).get? b = some o := fun b o q =>
    ⟨Nat.ne_of_lt (Heap.lt_size (hk b o q)), Heap.get?_push_of_some _ (hk b o q)⟩
  show wpAny _ _ _ _ _ { s with heap := h'.push (seqObj "list" vs.toArray 0), toks := tk }
  refine wpAny_bind (wpAny_holding (wpAny_call_entry slot_list_sort ⟨_, hoL, rfl⟩ entry_list_sort
    (SrtO.list_sort_ord (s := { s with heap := h'.push (seqObj "list" vs.toArray 0), toks := tk }) (SrtO.swo_lex k) hoL hz (fun h2 => ?_) fun out hs hb => ⟨_, rfl, ?_⟩) (args_list_sort _)))
  · refine SrtO.pairs_sortableO (s := { s with heap := h'.push (seqObj "list" vs.toArray 0), toks := tk }) (by omega) (fun v hm => (hp v hm).keeps fun b o e _ => (keep b o e).2) fun o e' => ?_
    have e2 : some o = some (seqObj "list" vs.toArray 0) := e'.symm.trans hoL
    cases e2
    intro c
    exact absurd (Value.type.inj c) (by decide)
  · refine wpAny_pure ⟨_, rfl, h h' _ tk h'.objs.size out hs hb hk (fun b o q => ?_) (Nat.le_refl _) (sortedHeap_at hoL)⟩
    have hb : b < h'.objs.size := Heap.lt_size q
    rw [sortedHeap_old (Nat.ne_of_lt hb) (by rw [size_push']; exact Nat.lt_succ_of_lt hb)]
    exact Heap.get?_push_of_some _ q
end
/-- the key of a point -/
def kk (p : Pt) : List Key := [.inl p.1, .inl p.2]
theorem kk_inj {p q : Pt} (h : kk p = kk q) : p = q := by
  unfold kk at h
  have h1 := List.cons.inj h
  have h2 := List.cons.inj h1.2
  obtain ⟨p1, p2⟩ := p
  obtain ⟨q1, q2⟩ := q
  have e1 : p1 = q1 := Sum.inl.inj h1.1
  have e2 : p2 = q2 := Sum.inl.inj h2.1
  rw [e1, e2]
section
variable {X : Cx}
/-- the pair of ints that a value is, by the abstract heap -/
noncomputable def ptOf (H : Hp) (v : V) : Pt := open Classical in if h : ∃ p : Pt, kPt.is H v p then h.choose else (0, 0)
theorem kPt_inj {H : Hp} {v : V} {p q : Pt} (a : kPt.is H v p) (b : kPt.is H v q) : p = q := by
  obtain ⟨t, e, h⟩ := a
  obtain ⟨u, e', h'⟩ := b
  subst e
  cases e'
  rw [h] at h'
  have z := HO.tup.inj (Option.some.inj h')
  have z1 := List.cons.inj z
  have z2 := List.cons.inj z1.2
  obtain ⟨p1, p2⟩ := p
  obtain ⟨q1, q2⟩ := q
  have e1 : p1 = q1 := V.int.inj z1.1
  have e2 : p2 = q2 := V.int.inj z2.1
  rw [e1, e2]
theorem ptOf_eq {H : Hp} {v : V} {p : Pt} (h : kPt.is H v p) : ptOf H v = p := by
  have e : ∃ p : Pt, kPt.is H v p := ⟨p, h⟩
  unfold ptOf
  rw [dif_pos e]
  exact kPt_inj e.choose_spec h
theorem isPair_of {pins : List (Addr × Obj)} {σ : L2.St} {H : Hp} {s : Shared} (I : Inv X pins σ H s) {t : Addr} {p : Pt} (h : kPt.is H (.ref t) p) : Srt.IsPair s.heap (.ref t) p.1 p.2 := by
  obtain ⟨u, e, ht⟩ := h
  cases e
  obtain ⟨_, its2, r2, o, ho, hc, n, hd⟩ := I.hok _ _ ht
  obtain ⟨u1, u2, rfl, ri, rj⟩ := vals2 r2
  obtain ⟨t1, rfl⟩ := ri
  obtain ⟨t2, rfl⟩ := rj
  exact ⟨_, o, t1, t2, n, rfl, ho, hc, hd⟩
theorem keys_pts {H : Hp} : ∀ {kvs : List (List Key × V)} {bs : List Addr} {ps : List Pt}, IsKeys H kvs bs → kvs.map (·.1) = ps.map kk → Paired (kPt.is H) (bs.map V.ref) ps
  | [], _, [], .nil, _ => .nil
  | [], _, _ :: _, .nil, e => by simp at e
  | _ :: _, _, [], _, e => by simp at e
  | kv :: kvs, _, p :: ps, .cons (b := b) r t, e => by
    have e1 := List.cons.inj e
    refine .cons ⟨b, rfl, ?_⟩ (keys_pts t e1.2)
    have : kv.1 = kk p := e1.1
    rw [this] at r
    exact r
theorem pr_perm {α : Type} {R : V → α → Prop} {f : V → α} (hf : ∀ v x, R v x → f v = x) : ∀ {vs : List V} {xs : List α}, Paired R vs xs → xs = vs.map f
  | _, _, .nil => rfl
  | _, _, .cons r t => by rw [List.map_cons, ← pr_perm hf t, hf _ _ r]
theorem pr_of_all {α : Type} {R : V → α → Prop} {f : V → α} : ∀ {vs : List V}, (∀ v ∈ vs, R v (f v)) → Paired R vs (vs.map f)
  | [], _ => .nil
  | v :: vs, h => .cons (h v List.mem_cons_self) (pr_of_all fun u hu => h u (List.mem_cons_of_mem _ hu))
/-- what behind a sort of pairs stands: the points, in order -/
theorem sorted_pts {H : Hp} {vs ys : List V} {ps : List Pt} (h : Paired (kPt.is H) vs ps) (nd : ps.Nodup) (hs : SrtO.Srtd (ltP (ptOf H)) ys) (hb : SrtO.Stb (ltP (ptOf H)) ys vs) :
    ∃ qs : List Pt, Paired (kPt.is H) ys qs ∧ qs.Perm ps ∧ qs.Pairwise lt2 := by
  have e : ps = vs.map (ptOf H) := pr_perm (fun v x r => ptOf_eq r) h
  have all : ∀ v ∈ ys, kPt.is H v (ptOf H v) := fun v hv => by
    obtain ⟨x, _, r⟩ := pr_mem h (hb.perm.mem_iff.mp hv)
    rw [ptOf_eq r]
    exact r
  have perm : (ys.map (ptOf H)).Perm ps := by rw [e]; exact hb.perm.map _
  refine ⟨ys.map (ptOf H), pr_of_all all, perm, ?_⟩
  have nd' : (ys.map (ptOf H)).Nodup := perm.nodup_iff.mpr nd
  rw [List.pairwise_map]
  have nd2 : ys.Pairwise fun a b => ptOf H a ≠ ptOf H b := List.pairwise_map.mp nd'
  refine (List.Pairwise.and hs nd2).imp fun {a b} z => ?_
  have a1 := SrtO.lexB_no.mp z.1
  have a2 := z.2
  unfold lt2
  have a3 : ¬ ((ptOf H a).1 = (ptOf H b).1 ∧ (ptOf H a).2 = (ptOf H b).2) := fun q => a2 (Prod.ext q.1 q.2)
  omega
def rSortedDT : List V → Hp → VK → Prop := fun vs H Q => ∃ (d : Addr) (kvs : List (List Key × V)) (ps : List Pt), vs = [V.ref d] ∧ H d = some (.dT kvs) ∧ kvs.map (·.1) = ps.map kk ∧ ps.Nodup ∧
  ∀ (ys : List V) (qs : List Pt) (p : Addr), Paired (kPt.is H) ys qs → qs.Perm ps → qs.Pairwise lt2 → H p = none → Q (.ref p) (upd H p (.lst ys))
theorem cr_sortedDT (hc : X.calm = true) : CallR X (.builtin "sorted") rSortedDT := by
  intro pins s σ H xs us Q I r h
  obtain ⟨d, kvs, ps, rfl, hd, hps, hnd, q⟩ := h
  obtain ⟨u, rfl, rx⟩ := r.one
  cases rx
  obtain ⟨z, hs, ks, pr, o, es, ep, ho, hx, hdt, he, hn⟩ := (show ObjOk X.prog X.w H s.heap d (.dT kvs) from I.hok d _ hd)
  have l1 : es.size = ks.length := size_of_entries he
  have l2 : kvs.length = ks.length := Paired.length pr
  have hpp : Paired (kPt.is H) ((ks.map fun x => x.2.1).map V.ref) ps := keys_pts (isKeys_of pr) hps
  refine sorted_src (vs := (ks.map fun x => x.2.1).map Value.ref) (k := fun u => ptOf H (backV u)) (kdl_raw hs hx hdt) (I.ok.hd hc) ho (by omega) (fun acc' it => ?_) (fun v hv => ?_) fun h1 h' tk e out hs1 hb1 k1 k2 hle hob => ?_
  · have hl : acc'.toList.length = ks.length := by rw [Array.length_toList, it.1]; exact l1
    rw [List.map_map]
    apply List.ext_getElem?
    intro j
    rw [List.getElem?_map]
    cases hj : acc'.toList[j]? with
    | none =>
      have h1 := List.getElem?_eq_none_iff.mp hj
      rw [List.getElem?_eq_none (by omega)]
      all_goals rfl
    | some v =>
      obtain ⟨en, hen, hv⟩ := it.2 j v (by rw [← Array.getElem?_toList]; exact hj)
      have qe := entry_at he j
      rw [hen] at qe
      cases hb : ks[j]? with
      | none =>
        rw [hb] at qe
        exact nomatch (show some en = none from qe)
      | some b =>
        rw [hb] at qe
        have e2 : en = entryOfKey (tupleKind (mixKind X.prog X.w)) b := Option.some.inj qe
        rw [hv, e2]
        all_goals rfl
  · obtain ⟨t, ht, rfl⟩ := List.mem_map.mp hv
    obtain ⟨x, _, rx⟩ := pr_mem hpp (List.mem_map.mpr ⟨t, ht, rfl⟩)
    have : ptOf H (backV (Value.ref t)) = x := ptOf_eq rx
    show Srt.IsPair _ _ (ptOf H (backV (Value.ref t))).1 (ptOf H (backV (Value.ref t))).2
    rw [this]
    exact isPair_of I rx
  · have h3 : ∀ u ∈ out, ∃ a, u = Value.ref a := fun u hu => by
      have := hb1.perm.mem_iff.mp hu
      obtain ⟨t, _, rfl⟩ := List.mem_map.mp this
      exact ⟨t, rfl⟩
    have hback : ((ks.map fun x => x.2.1).map Value.ref).map backV = (ks.map fun x => x.2.1).map V.ref := by
      rw [List.map_map]
      exact List.map_congr_left fun _ _ => rfl
    have hb2 : SrtO.Stb (ltP (ptOf H)) (out.map backV) ((ks.map fun x => x.2.1).map V.ref) := by
      rw [← hback]
      exact SrtO.Stb.map (ltP_swo (ptOf H)) backV hb1
    obtain ⟨qs, a1, a2, a3⟩ := sorted_pts hpp hnd (SrtO.srtd_map hs1) hb2
    obtain ⟨n, hob⟩ := hob
    have I1 : Inv X pins σ H { s with heap := h1 } := I.kept (t' := s.toks) k1
    refine ⟨.ref e, upd H e (.lst (out.map backV)), I1.laid (t' := tk) k2 hle ⟨?_, out, n, vals_back h3, hob⟩, rfl, q _ qs e a1 a2 a3 (I1.hok.fresh hle)⟩
    rw [hb2.len, List.length_map, List.length_map, ← l2]
    exact z
end
end Rw
namespace Rw
open PySem L2
def topS (i : Nat) : Stmt := PySem.Challenge.pw_doneranges_k04_whole_rules_of_sets.main.body.getD i (.Pass ⟨0, 0, 0, 0⟩)
abbrev s_is_number : Stmt := topS 9
theorem sc_is_number : FnScope ["value", "low", "high"] ["value", "low", "high"] (defScope s_is_number) := ⟨rfl, rfl, rfl, by decide +kernel, rfl, by decide +kernel, by decide +kernel⟩
abbrev s_is_house : Stmt := topS 10
theorem sc_is_house : FnScope ["value"] ["value"] (defScope s_is_house) := ⟨rfl, rfl, rfl, by decide +kernel, rfl, by decide +kernel, by decide +kernel⟩
abbrev s_is_row : Stmt := topS 11
theorem sc_is_row : FnScope ["row", "house", "first", "last"] ["row"] (defScope s_is_row) := ⟨rfl, rfl, rfl, by decide +kernel, rfl, by decide +kernel, by decide +kernel⟩
abbrev s_first_wrong : Stmt := topS 12
theorem sc_first_wrong : FnScope ["rows", "at", "row"] ["rows"] (defScope s_first_wrong) := ⟨rfl, rfl, rfl, by decide +kernel, rfl, by decide +kernel, by decide +kernel⟩
abbrev s_check_rows : Stmt := topS 13
theorem sc_check_rows : FnScope ["rows", "at"] ["rows"] (defScope s_check_rows) := ⟨rfl, rfl, rfl, by decide +kernel, rfl, by decide +kernel, by decide +kernel⟩
abbrev s_check_house : Stmt := topS 14
theorem sc_check_house : FnScope ["house"] ["house"] (defScope s_check_house) := ⟨rfl, rfl, rfl, by decide +kernel, rfl, by decide +kernel, by decide +kernel⟩
abbrev s_changes_of : Stmt := topS 15
theorem sc_changes_of : FnScope ["weighed", "changes", "house", "first", "last", "weight"] ["weighed"] (defScope s_changes_of) := ⟨rfl, rfl, rfl, by decide +kernel, rfl, by decide +kernel, by decide +kernel⟩
abbrev s_reaching : Stmt := topS 16
theorem sc_reaching : FnScope ["weighed", "least", "changes", "out", "total", "start", "house", "number", "ahead"] ["weighed", "least"] (defScope s_reaching) := ⟨rfl, rfl, rfl, by decide +kernel, rfl, by decide +kernel, by decide +kernel⟩
abbrev s_fewest : Stmt := topS 17
theorem sc_fewest : FnScope ["rows", "row"] ["rows"] (defScope s_fewest) := ⟨rfl, rfl, rfl, by decide +kernel, rfl, by decide +kernel, by decide +kernel⟩
abbrev s_held_by_many : Stmt := topS 18
theorem sc_held_by_many : FnScope ["sets", "least", "rows", "row"] ["sets", "least"] (defScope s_held_by_many) := ⟨rfl, rfl, rfl, by decide +kernel, rfl, by decide +kernel, by decide +kernel⟩
abbrev s_without : Stmt := topS 19
theorem sc_without : FnScope ["one", "other", "kept", "barred", "row"] ["one", "other"] (defScope s_without) := ⟨rfl, rfl, rfl, by decide +kernel, rfl, by decide +kernel, by decide +kernel⟩
abbrev s_whole_in : Stmt := topS 20
theorem sc_whole_in : FnScope ["rows", "house", "maker", "first", "last"] ["rows", "house"] (defScope s_whole_in) := ⟨rfl, rfl, rfl, by decide +kernel, rfl, by decide +kernel, by decide +kernel⟩
abbrev s_plain : Stmt := topS 22
theorem sc_plain : FnScope ["rows"] ["rows"] (defScope s_plain) := ⟨rfl, rfl, rfl, by decide +kernel, rfl, by decide +kernel, by decide +kernel⟩
abbrev s_joined : Stmt := topS 23
theorem sc_joined : FnScope ["one", "other"] ["one", "other"] (defScope s_joined) := ⟨rfl, rfl, rfl, by decide +kernel, rfl, by decide +kernel, by decide +kernel⟩
abbrev s_common : Stmt := topS 24
theorem sc_common : FnScope ["one", "other"] ["one", "other"] (defScope s_common) := ⟨rfl, rfl, rfl, by decide +kernel, rfl, by decide +kernel, by decide +kernel⟩
abbrev s_less : Stmt := topS 25
theorem sc_less : FnScope ["one", "other"] ["one", "other"] (defScope s_less) := ⟨rfl, rfl, rfl, by decide +kernel, rfl, by decide +kernel, by decide +kernel⟩
abbrev s_by_many : Stmt := topS 26
theorem sc_by_many : FnScope ["sets", "least", "rows"] ["sets", "least"] (defScope s_by_many) := ⟨rfl, rfl, rfl, by decide +kernel, rfl, by decide +kernel, by decide +kernel⟩
abbrev s_gaps : Stmt := topS 27
theorem sc_gaps : FnScope ["rows", "house", "_", "last"] ["rows"] (defScope s_gaps) := ⟨rfl, rfl, rfl, by decide +kernel, rfl, by decide +kernel, by decide +kernel⟩
abbrev s_within : Stmt := topS 28
theorem sc_within : FnScope ["one", "other"] ["one", "other"] (defScope s_within) := ⟨rfl, rfl, rfl, by decide +kernel, rfl, by decide +kernel, by decide +kernel⟩
abbrev s_amount : Stmt := topS 29
theorem sc_amount : FnScope ["rows", "_", "first", "last"] ["rows"] (defScope s_amount) := ⟨rfl, rfl, rfl, by decide +kernel, rfl, by decide +kernel, by decide +kernel⟩
abbrev s_whole_to : Stmt := topS 30
theorem sc_whole_to : FnScope ["rows", "house"] ["rows", "house"] (defScope s_whole_to) := ⟨rfl, rfl, rfl, by decide +kernel, rfl, by decide +kernel, by decide +kernel⟩
abbrev s_law_dice : Stmt := topS 32
theorem sc_law_dice : FnScope ["_law_script", "_law_mixed", "_law_cell"] ["_law_script"] (defScope s_law_dice) := ⟨rfl, rfl, rfl, by decide +kernel, rfl, by decide +kernel, by decide +kernel⟩
abbrev s_law_next : Stmt := topS 33
theorem sc_law_next : FnScope ["_law_dice_here", "_law_many", "_law_found", "_law_cell"] ["_law_dice_here", "_law_many"] (defScope s_law_next) := ⟨rfl, rfl, rfl, by decide +kernel, rfl, by decide +kernel, by decide +kernel⟩
abbrev s_law_rows : Stmt := topS 34
theorem sc_law_rows : FnScope ["_law_d", "_law_houses", "_law_far", "_law_most", "_law_found", "_law_k", "_law_first", "_law_wide"] ["_law_d", "_law_houses", "_law_far", "_law_most"] (defScope s_law_rows) := ⟨rfl, rfl, rfl, by decide +kernel, rfl, by decide +kernel, by decide +kernel⟩
abbrev s_law_ends : Stmt := topS 35
theorem sc_law_ends : FnScope ["_law_one", "_law_lacking", "_law_house", "_law_last", "_law_row"] ["_law_one"] (defScope s_law_ends) := ⟨rfl, rfl, rfl, by decide +kernel, rfl, by decide +kernel, by decide +kernel⟩
abbrev s_law : Stmt := topS 36
theorem sc_law : FnScope ["_law_script", "_law_d", "_law_far", "_law_one", "_law_two", "_law_three", "_law_both", "_law_every", "_law_sets", "_law_pairs"] ["_law_script"] (defScope s_law) := ⟨rfl, rfl, rfl, by decide +kernel, rfl, by decide +kernel, by decide +kernel⟩
end Rw
namespace Rw
open PySem L2
section
variable (P : Program) (w : World) (K : PySem.W.Frag) (mg : Str → Option Value) (base : Heap)
/-- a def that may be called by its name -/
def Cal (k : Nat) (x : Str) (ps : List Str) (sp : Sp) : Prop :=
  ∃ (f : Addr) (fd : FuncData), FnOk P w K mg base CX0 k f fd ps sp ∧ mg x = some (.ref f) ∧ PySem.W.keepIn K (.ref f) = true ∧ Binds K fd ps []
end
theorem tyx_int {K : PySem.W.Frag} {H : Hp} (i : Int) : TyX K H (.int i) (.type "int") := .base (.int i)
theorem tyx_tup {K : PySem.W.Frag} {H : Hp} {a : Addr} {xs : List V} (h : H a = some (.tup xs)) : TyX K H (.ref a) (.type "tuple") := .base (.tup h)
theorem tyx_lst {K : PySem.W.Frag} {H : Hp} {a : Addr} {xs : List V} (h : H a = some (.lst xs)) : TyX K H (.ref a) (.type "list") := .base (.lst h)
theorem kit_ii {K : PySem.W.Frag} : PySem.W.kitOne K (.type "int") (.type "int") = some true := kit_ty (by decide +kernel)
theorem kit_ib {K : PySem.W.Frag} : PySem.W.kitOne K (.type "int") (.type "bool") = some false := kit_ty (by decide +kernel)
theorem kit_tt {K : PySem.W.Frag} : PySem.W.kitOne K (.type "tuple") (.type "tuple") = some true := kit_ty (by decide +kernel)
theorem bt_int : bootBuiltins "int" = some (.type "int") := by decide +kernel
theorem bt_bool : bootBuiltins "bool" = some (.type "bool") := by decide +kernel
theorem bt_tuple : bootBuiltins "tuple" = some (.type "tuple") := by decide +kernel
theorem pe_bty {X : Cx} {x : Str} {n : String} {pos : Pos} (hg : Gl X x) (hm : X.mg x = none) (hv : bootBuiltins x = some (.type n)) (hn : x ≠ "__name__" := by decide) (hd : (x == ("__debug__" : Str)) = false := by decide) : PE X (.Name x pos) (tC (.ty n)) :=
  pe_bltn (v := .ty n) (u := .type n) hg hm hv rfl hn hd
end Rw
namespace Rw
open PySem L2
/-! ### the refusals' readers, of what is right -/
def LIM : Int := 1000000000000
def spIsNumber : Sp := fun vs H Q _ => ∃ v lo hi : Int, vs = [.int v, .int lo, .int hi] ∧ Q (.bl (decide (lo ≤ v ∧ v ≤ hi))) H
def spIsHouse : Sp := fun vs H Q _ => ∃ v : Int, vs = [.int v] ∧ Q (.bl (decide (0 ≤ v ∧ v ≤ 7))) H
/-- a row as it may be handed in -/
def RowOk (r : Row) : Prop := 0 ≤ r.1 ∧ r.1 ≤ 7 ∧ 1 ≤ r.2.1 ∧ r.2.1 ≤ r.2.2 ∧ r.2.2 ≤ LIM
def spIsRow : Sp := fun vs H Q _ => ∃ (v : V) (r : Row), vs = [v] ∧ kRow.is H v r ∧ RowOk r ∧ Q (.bl true) H
def RowsOk (rs : List Row) : Prop := rs.length ≤ 200 ∧ ∀ r ∈ rs, RowOk r
def spFirstWrong : Sp := fun vs H Q _ => ∃ (v : V) (rs : List Row), vs = [v] ∧ (kL kRow).is H v rs ∧ RowsOk rs ∧ ∀ H', Same H H' → Q .non H'
structure TxA (mg : Str → Option Value) : Prop where
  isinst : mg "isinstance" = none
  int : mg "int" = none
  bool : mg "bool" = none
  tuple : mg "tuple" = none
  len : mg "len" = none
  enum : mg "enumerate" = none
  last : ∃ t, mg "LAST_HOUSE" = some (.int 7 t)
  lim : ∃ t, mg "LIMIT" = some (.int LIM t)
  most : ∃ t, mg "MOST_ROWS" = some (.int 200 t)
section
variable {P : Program} {w : World} {K : PySem.W.Frag} {mg : Str → Option Value} {base : Heap}
theorem ok_is_number {f : Addr} {fd : FuncData} (F : Fun K "is_number" "is_number" s_is_number f fd) (T : TxA mg) : FnOk P w K mg base CX0 1 f fd ["value", "low", "high"] spIsNumber := by
  refine F.ok sc_is_number (fun vs H Q E h => ?_) (fun cdv A outer s H vs Q E hr h => ?_)
  · obtain ⟨v, lo, hi, rfl, _⟩ := h
    rfl
  · obtain ⟨v, lo, hi, rfl, q⟩ := h
    refine ⟨_, pss_one (ps_ret (pe_and (pe_callB call_isi (by rfl) T.isinst (by decide +kernel) (pa_cons (pv 0) (pa_cons (pe_bty (by rfl) T.int bt_int) pa_nil)))
      (pe_and (pe_not (pe_callB call_isi (by rfl) T.isinst (by decide +kernel) (pa_cons (pv 0) (pa_cons (pe_bty (by rfl) T.bool bt_bool) pa_nil))))
      (pe_one (pe_chain op_le op_le (pv 1) (pv 0) (pv 2)))))), ?_⟩
    refine ⟨_, rfl, _, .ty "int", _, _, _, rfl, .ty _, tyx_int _, kit_ii, true, rfl, iteT ?_⟩
    refine ⟨_, rfl, _, .ty "bool", _, _, _, rfl, .ty _, tyx_int _, kit_ib, false, rfl, true, rfl, iteT ?_⟩
    refine ⟨_, rfl, _, rfl, _, _, rfl, rfl, _, rfl, ite2 (fun h1 => ?_) (fun h1 => ?_)⟩
    · have h1 := of_decide_eq_true h1
      refine ⟨_, rfl, _, _, rfl, rfl, ?_⟩
      have e : decide (v ≤ hi) = decide (lo ≤ v ∧ v ≤ hi) := by
        by_cases z : v ≤ hi
        · rw [decide_eq_true z, decide_eq_true ⟨h1, z⟩]
        · rw [decide_eq_false z, decide_eq_false fun q => z q.2]
      rw [← e] at q
      exact q
    · have h1' : ¬ lo ≤ v := fun z => h1 (decide_eq_true z)
      rw [decide_eq_false fun q => h1' q.1] at q
      exact q
theorem ok_is_house {f : Addr} {fd : FuncData} (F : Fun K "is_house" "is_house" s_is_house f fd) (T : TxA mg) (CN : Cal P w K mg base 1 "is_number" ["value", "low", "high"] spIsNumber) : FnOk P w K mg base CX0 2 f fd ["value"] spIsHouse := by
  obtain ⟨f1, fd1, G1, g1, kp1, b1⟩ := CN
  obtain ⟨t7, h7⟩ := T.last
  refine F.ok sc_is_house (fun vs H Q E h => ?_) (fun cdv A outer s H vs Q E hr h => ?_)
  · obtain ⟨v, rfl, _⟩ := h
    rfl
  · obtain ⟨v, rfl, q⟩ := h
    refine ⟨_, pss_one (ps_ret (pe_call G1 hr (by rfl) g1 kp1 b1 .nil pass0 (pa_cons (pv 0) (pa_cons pe_int (pa_cons (pe_glob (v := .int 7) (by rfl) h7 ⟨_, rfl⟩) pa_nil))))), ?_⟩
    exact ⟨_, rfl, v, 0, 7, rfl, q⟩
theorem ok_is_row {f : Addr} {fd : FuncData} (F : Fun K "is_row" "is_row" s_is_row f fd) (T : TxA mg) (CN : Cal P w K mg base 1 "is_number" ["value", "low", "high"] spIsNumber) (CH : Cal P w K mg base 2 "is_house" ["value"] spIsHouse) : FnOk P w K mg base CX0 3 f fd ["row"] spIsRow := by
  obtain ⟨f1, fd1, G1, g1, kp1, b1⟩ := CN
  obtain ⟨f2, fd2, G2, g2, kp2, b2⟩ := CH
  obtain ⟨tl, hl⟩ := T.lim
  refine F.ok sc_is_row (fun vs H Q E h => ?_) (fun cdv A outer s H vs Q E hr h => ?_)
  · obtain ⟨v, r, rfl, _⟩ := h
    rfl
  · obtain ⟨v, r, rfl, ⟨t, rfl, ht⟩, ⟨r1, r2, r3, r4, r5⟩, q⟩ := h
    have hr1 : Room 1 _ := hr.mono (by decide)
    refine ⟨_, pss_cons (ps_if (PW.pt (pw_or (pt_not (pt_val (pe_callB call_isi (by rfl) T.isinst (by decide +kernel) (pa_cons (pv 0) (pa_cons (pe_bty (by rfl) T.tuple bt_tuple) pa_nil)))))
        (pw_or1 (pt_cmpR op_ne (pe_callB call_len (by rfl) T.len PySem.boot_len (pa_cons (pv 0) pa_nil)) pe_int (nomark _))))) (pss_one (ps_ret pe_bl)) pss_nil)
      (pss_cons (ps_asg (pv 0) (pg_tup (by rfl) (pgs_cons (pg_name (i := 1) sc_is_row.nd rfl (.inl rfl)) (pgs_cons (pg_name (i := 2) sc_is_row.nd rfl (.inl rfl)) (pgs_cons (pg_name (i := 3) sc_is_row.nd rfl (.inl rfl)) pgs_nil)))))
      (pss_one (ps_ret (pe_and (pe_call G2 hr (by rfl) g2 kp2 b2 .nil pass0 (pa_cons (pv 1) pa_nil))
        (pe_and (pe_call G1 hr1 (by rfl) g1 kp1 b1 .nil pass0 (pa_cons (pv 2) (pa_cons pe_int (pa_cons (pe_glob (v := .int LIM) (by rfl) hl ⟨_, rfl⟩) pa_nil))))
          (pe_one (pe_call G1 hr1 (by rfl) g1 kp1 b1 .nil pass0 (pa_cons (pv 3) (pa_cons (pv 2) (pa_cons (pe_glob (v := .int LIM) (by rfl) hl ⟨_, rfl⟩) pa_nil)))))))))), ?_⟩
    refine ⟨_, rfl, _, .ty "tuple", _, _, _, rfl, .ty _, tyx_tup ht, kit_tt, true, rfl, iteF ?_⟩
    refine ⟨_, rfl, _, 3, rfl, .inr ⟨_, SqT.of ht, rfl⟩, rfl, false, by decide, iteF ?_⟩
    refine ⟨_, rfl, _, _, rfl, SqT.of ht, rfl, _, _, rfl, _, _, rfl, _, _, rfl, rfl, ?_⟩
    refine ⟨_, rfl, r.1, rfl, _, rfl, ?_⟩
    rw [decide_eq_true ⟨r1, r2⟩]
    refine iteT ⟨_, rfl, r.2.1, 1, LIM, rfl, _, rfl, ?_⟩
    rw [decide_eq_true ⟨r3, Int.le_trans r4 r5⟩]
    refine iteT ⟨_, rfl, _, rfl, r.2.2, r.2.1, LIM, rfl, ?_⟩
    rw [decide_eq_true ⟨r4, r5⟩]
    exact q
end
end Rw
namespace Rw
open PySem L2
theorem mem_cut {xs : List V} {lo hi : Option Int} {i : Nat} {x : V} (h : (cutV xs lo hi)[i]? = some x) : x ∈ xs := by
  have h1 := List.mem_of_getElem? h
  unfold cutV at h1
  exact List.mem_of_mem_drop (List.mem_of_mem_take h1)
theorem kL_mem {α : Type} {k : Kd α} {F : Hp} {vs : List V} {xs : List α} (h : Paired (k.is F) vs xs) {v : V} (m : v ∈ vs) : ∃ x ∈ xs, k.is F v x := pr_mem h m
def spCheckRows : Sp := fun vs H Q _ => ∃ (v : V) (rs : List Row), vs = [v] ∧ (kL kRow).is H v rs ∧ RowsOk rs ∧ ∀ H', Same H H' → Q .non H'
def spCheckHouse : Sp := fun vs H Q _ => ∃ (h : Int), vs = [.int h] ∧ 0 ≤ h ∧ h ≤ 7 ∧ Q .non H
section
variable {P : Program} {w : World} {K : PySem.W.Frag} {mg : Str → Option Value} {base : Heap}
theorem ok_first_wrong {f : Addr} {fd : FuncData} (F : Fun K "first_wrong" "first_wrong" s_first_wrong f fd) (T : TxA mg) (CR : Cal P w K mg base 3 "is_row" ["row"] spIsRow) : FnOk P w K mg base CX0 4 f fd ["rows"] spFirstWrong := by
  obtain ⟨f1, fd1, G1, g1, kp1, b1⟩ := CR
  obtain ⟨tm, hm⟩ := T.most
  refine F.ok sc_first_wrong (fun vs H Q E h => ?_) (fun cdv A outer s H vs Q E hr h => ?_)
  · obtain ⟨v, rs, rfl, _⟩ := h
    rfl
  · obtain ⟨v, rs, rfl, ⟨a, xs, rfl, ha, hp⟩, ⟨hl, hok⟩, q⟩ := h
    have el : xs.length = rs.length := pr_len hp
    refine ⟨_, pss_cons (ps_for PassesOwn.never rfl (pi_enum (by rfl) T.enum (pa_cons (pe_slice sl_list (pv 0) po_none (po_some (pe_glob (v := .int 200) (by rfl) hm ⟨_, rfl⟩))) pa_nil))
          (pg_tup rfl (pgs_cons (pg_name (i := 1) sc_first_wrong.nd rfl (.inl rfl)) (pgs_cons (pg_name (i := 2) sc_first_wrong.nd rfl (.inl rfl)) pgs_nil)))
        (pss_one (ps_if (pt_not (pt_val (pe_call G1 hr (by rfl) g1 kp1 b1 .nil pass0 (pa_cons (pv 2) pa_nil)))) (pss_one (ps_ret (pv 1))) pss_nil)))
      (pss_one (ps_ret (pe_ifExp (pt_cmpR op_gt (pe_callB call_len (by rfl) T.len PySem.boot_len (pa_cons (pv 0) pa_nil)) (pe_glob (v := .int 200) (by rfl) hm ⟨_, rfl⟩) (nomark _))
        (pe_glob (v := .int 200) (by rfl) hm ⟨_, rfl⟩) pe_non))), ?_⟩
    refine ⟨_, rfl, 200, rfl, a, xs, rfl, SqL.of ha, fun p np => ?_⟩
    refine ⟨p, _, rfl, SqL.of upd_same, for_it (walk_enum (K := K) (a := p) (xs := cutV xs none (some 200))) (fun i σ H' => Same H H' ∧ SqL K H' p (cutV xs none (some 200)) ∧ ∃ x y, σ = [some (.ref a), x, y])
      ⟨same_upd np, SqL.of upd_same, none, none, rfl⟩ (fun _ _ _ _ h => h.2.1) ?_ ?_⟩
    · rintro i x σ H1 H2 hi ⟨s1, l1, x0, y0, rfl⟩ ⟨U, i', row, rfl, nU, rfl, ei, er⟩
      have s2 : Same H (upd H1 U (.tup [i', row])) := s1.trans (same_upd nU)
      obtain ⟨r, hr1, hr2⟩ := pr_mem hp (mem_cut er)
      refine ⟨U, _, rfl, SqT.of upd_same, rfl, i', [row], rfl, row, [], rfl, rfl, ?_⟩
      refine ⟨_, rfl, _, r, rfl, kRow.mono s2 hr2, hok r hr1, true, rfl, iteF ?_⟩
      exact ⟨s2, (same_upd nU).seq l1, _, _, rfl⟩
    · rintro σ H1 ⟨s1, l1, x0, y0, rfl⟩
      have la : H1 a = some (.lst xs) := s1 _ _ ha
      refine ⟨_, rfl, _, xs.length, rfl, .inl ⟨_, SqL.of la, rfl⟩, _, _, rfl, rfl, _, rfl, ?_⟩
      rw [decide_eq_false (show ¬ (xs.length : Int) > 200 by omega)]
      exact iteF (q _ s1)
theorem ok_check_rows {f : Addr} {fd : FuncData} (F : Fun K "check_rows" "check_rows" s_check_rows f fd) (CR : Cal P w K mg base 4 "first_wrong" ["rows"] spFirstWrong) : FnOk P w K mg base CX0 5 f fd ["rows"] spCheckRows := by
  obtain ⟨f1, fd1, G1, g1, kp1, b1⟩ := CR
  refine F.ok sc_check_rows (fun vs H Q E h => ?_) (fun cdv A outer s H vs Q E hr h => ?_)
  · obtain ⟨v, rs, rfl, _⟩ := h
    rfl
  · obtain ⟨v, rs, rfl, hv, hok, q⟩ := h
    refine ⟨_, pss_cons (ps_set (i := 1) sc_check_rows.nd rfl (.inl rfl) (pe_call G1 hr (by rfl) g1 kp1 b1 .nil pass0 (pa_cons (pv 0) pa_nil)))
      (pss_one (ps_if (pt_cmpR op_notN (pv 1) pe_non (nomark _)) (pss_one ps_never) pss_nil)), ?_⟩
    refine ⟨_, rfl, v, rs, rfl, hv, hok, fun H1 s1 => ?_⟩
    refine ⟨_, rfl, rfl, _, rfl, iteF ?_⟩
    exact q _ s1
theorem ok_check_house {f : Addr} {fd : FuncData} (F : Fun K "check_house" "check_house" s_check_house f fd) (CH : Cal P w K mg base 2 "is_house" ["value"] spIsHouse) : FnOk P w K mg base CX0 3 f fd ["house"] spCheckHouse := by
  obtain ⟨f1, fd1, G1, g1, kp1, b1⟩ := CH
  refine F.ok sc_check_house (fun vs H Q E h => ?_) (fun cdv A outer s H vs Q E hr h => ?_)
  · obtain ⟨v, rfl, _⟩ := h
    rfl
  · obtain ⟨v, rfl, h0, h7, q⟩ := h
    refine ⟨_, pss_one (ps_if (pt_not (pt_val (pe_call G1 hr (by rfl) g1 kp1 b1 .nil pass0 (pa_cons (pv 0) pa_nil)))) (pss_one ps_never) pss_nil), ?_⟩
    refine ⟨_, rfl, v, rfl, ?_⟩
    rw [decide_eq_true ⟨h0, h7⟩]
    exact ⟨true, rfl, iteF q⟩
end
end Rw
namespace Rw
open PySem L2
/-! ### a dict of points -/
structure DI (kvs : List (List Key × V)) (ps : List Pt) (g : Pt → Int) : Prop where
  keys : kvs.map (·.1) = ps.map kk
  nd : ps.Nodup
  val : ∀ p, valV kvs (kk p) = if p ∈ ps then some (.int (g p)) else none
theorem DI.nil (g : Pt → Int) : DI [] [] g := ⟨rfl, .nil, fun p => by simp [valV]⟩
theorem DI.put {kvs : List (List Key × V)} {ps : List Pt} {g : Pt → Int} (d : DI kvs ps g) (q : Pt) (z : Int) :
    ∃ ps', DI (putK kvs (kk q) (.int z)) ps' (fun p => if p = q then z else g p) ∧ (∀ p, p ∈ ps' ↔ p ∈ ps ∨ p = q) ∧ ps'.length ≤ ps.length + 1 := by
  have vals : ∀ p, valV (putK kvs (kk q) (.int z)) (kk p) = if p = q then some (.int z) else if p ∈ ps then some (.int (g p)) else none := fun p => by
    rw [valV_put]
    by_cases e : p = q
    · rw [if_pos (by rw [e]), if_pos e]
    · rw [if_neg (fun h => e (kk_inj h)), if_neg e, d.val p]
  by_cases m : q ∈ ps
  · refine ⟨ps, ⟨?_, d.nd, fun p => ?_⟩, fun p => ⟨.inl, fun h => h.elim id fun e => e ▸ m⟩, Nat.le_succ _⟩
    · have a : (kvs.any fun kv => decide (kv.1 = kk q)) = true := by rw [valV_any, d.val q, if_pos m]; rfl
      unfold putK
      rw [if_pos a, List.map_map, ← d.keys]
      refine List.map_congr_left fun kv _ => ?_
      by_cases e : kv.1 = kk q
      · simp only [Function.comp, if_pos e]
      · simp only [Function.comp, if_neg e]
    · rw [vals p]
      by_cases e : p = q
      · rw [if_pos e, if_pos (e ▸ m)]
        simp only [if_pos e]
      · simp only [if_neg e]
  · refine ⟨ps ++ [q], ⟨?_, ?_, fun p => ?_⟩, fun p => by simp, by simp⟩
    · rw [putK_new _ (by rw [d.val q, if_neg m]), List.map_append, List.map_append, d.keys]
      rfl
    · exact List.nodup_append.mpr ⟨d.nd, by simp, fun a ha b hb e => by rw [List.mem_singleton.mp hb] at e; exact m (e ▸ ha)⟩
    · rw [vals p]
      by_cases e : p = q
      · rw [if_pos e, if_pos (by rw [e]; simp)]
        simp only [if_pos e]
      · simp [e]
theorem putK_le (kvs : List (List Key × V)) (k : List Key) (v : V) : (putK kvs k v).length ≤ kvs.length + 1 := by
  unfold putK
  split
  · rw [List.length_map]; omega
  · rw [List.length_append]; simp
theorem DI.len {kvs : List (List Key × V)} {ps : List Pt} {g : Pt → Int} (d : DI kvs ps g) : kvs.length = ps.length := by
  have h := congrArg List.length d.keys
  rw [List.length_map, List.length_map] at h
  exact h
/-- what stands at a point, 0 where nothing does -/
theorem DI.get {kvs : List (List Key × V)} {ps : List Pt} {g : Pt → Int} (d : DI kvs ps g) (z : ∀ p, p ∉ ps → g p = 0) (p : Pt) : (valV kvs (kk p)).getD (.int 0) = .int (g p) := by
  rw [d.val p]
  by_cases m : p ∈ ps
  · rw [if_pos m]; rfl
  · rw [if_neg m, z p m]; rfl
theorem DI.congr {kvs : List (List Key × V)} {ps : List Pt} {g g' : Pt → Int} (d : DI kvs ps g) (h : ∀ p, g p = g' p) : DI kvs ps g' := by
  have e : g = g' := funext h
  rw [← e]; exact d
theorem chg_snoc (ws : List WRow) (r : Row) (z : Int) (p : Pt) : chg (ws ++ [(r, z)]) p = chg ws p + z * (ind (fstP r = p) - ind (endP r = p)) := by
  unfold chg
  rw [S_append]
  show _ + (z * (ind (fstP r = p) - ind (endP r = p)) + 0) = _
  omega
/-- what the program's dict of changes tells of weighed rows -/
structure ChD (kvs : List (List Key × V)) (ws : List WRow) : Prop where
  ex : ∃ ps : List Pt, DI kvs ps (chg ws) ∧ (∀ p, p ∉ ps → chg ws p = 0) ∧ Has ps ws ∧ ps.length ≤ 2 * ws.length
theorem ChD.nil : ChD [] [] := ⟨[], DI.nil _, fun _ _ => rfl, fun x h => absurd h (by simp), Nat.le_refl _⟩
/-- one row more: the two stores -/
theorem ChD.step {kvs : List (List Key × V)} {ws : List WRow} (c : ChD kvs ws) (r : Row) (z : Int) (hne : fstP r ≠ endP r) :
    ∃ v1 : Int, (valV kvs (kk (fstP r))).getD (.int 0) = .int v1 ∧ ∃ v2 : Int, (valV (putK kvs (kk (fstP r)) (.int (v1 + z))) (kk (endP r))).getD (.int 0) = .int v2 ∧
      ChD (putK (putK kvs (kk (fstP r)) (.int (v1 + z))) (kk (endP r)) (.int (v2 - z))) (ws ++ [(r, z)]) := by
  obtain ⟨ps, d, hz, hh, hl⟩ := c.ex
  refine ⟨chg ws (fstP r), d.get hz _, ?_⟩
  obtain ⟨ps1, d1, m1, l1⟩ := d.put (fstP r) (chg ws (fstP r) + z)
  have hz1 : ∀ p, p ∉ ps1 → (if p = fstP r then chg ws (fstP r) + z else chg ws p) = 0 := fun p hp => by
    have a : ¬ (p ∈ ps ∨ p = fstP r) := fun q => hp ((m1 p).mpr q)
    rw [if_neg fun e => a (.inr e)]
    exact hz p fun q => a (.inl q)
  have e2 : (if endP r = fstP r then chg ws (fstP r) + z else chg ws (endP r)) = chg ws (endP r) := if_neg fun e => hne e.symm
  refine ⟨chg ws (endP r), by rw [d1.get hz1, e2], ?_⟩
  obtain ⟨ps2, d2, m2, l2⟩ := d1.put (endP r) (chg ws (endP r) - z)
  have ev : ∀ p, (if p = endP r then chg ws (endP r) - z else if p = fstP r then chg ws (fstP r) + z else chg ws p) = chg (ws ++ [(r, z)]) p := fun p => by
    rw [chg_snoc]
    by_cases a : p = endP r
    · subst a
      rw [if_pos rfl, ind_pos (rfl : endP r = endP r), ind_neg hne]
      omega
    · rw [if_neg a, ind_neg (fun e => a e.symm : ¬ endP r = p)]
      by_cases b : p = fstP r
      · subst b
        rw [if_pos rfl, ind_pos (rfl : fstP r = fstP r)]
        omega
      · rw [if_neg b, ind_neg (fun e => b e.symm : ¬ fstP r = p)]
        omega
  refine ⟨ps2, d2.congr ev, fun p hp => ?_, fun x hx => ?_, ?_⟩
  · rw [← ev p]
    have a : ¬ (p ∈ ps1 ∨ p = endP r) := fun q => hp ((m2 p).mpr q)
    rw [if_neg fun e => a (.inr e)]
    exact hz1 p fun q => a (.inl q)
  · rcases List.mem_append.mp hx with hx | hx
    · obtain ⟨a, b⟩ := hh x hx
      exact ⟨(m2 _).mpr (.inl ((m1 _).mpr (.inl a))), (m2 _).mpr (.inl ((m1 _).mpr (.inl b)))⟩
    · rw [List.mem_singleton.mp hx]
      exact ⟨(m2 _).mpr (.inl ((m1 _).mpr (.inr rfl))), (m2 _).mpr (.inr rfl)⟩
  · rw [List.length_append, List.length_singleton]
    omega
def spChangesOf : Sp := fun vs H Q _ => ∃ (F : Hp) (v : V) (ws : List WRow), vs = [v] ∧ Same F H ∧ (kL kW).is F v ws ∧ Wok ws ∧ ws.length ≤ 1000000 ∧
  ∀ (H' : Hp) (d : Addr) (kvs : List (List Key × V)), Ext M0 F H F H' → H d = none → F d = none → H' d = some (.dT kvs) → ChD kvs ws → Q (.ref d) H'
section
variable {P : Program} {w : World} {K : PySem.W.Frag} {mg : Str → Option Value} {base : Heap}
theorem ok_changes_of {f : Addr} {fd : FuncData} (F0 : Fun K "changes_of" "changes_of" s_changes_of f fd) : FnOk P w K mg base CX0 1 f fd ["weighed"] spChangesOf := by
  refine F0.ok sc_changes_of (fun vs H Q E h => ?_) (fun cdv A outer s H vs Q E hr h => ?_)
  · obtain ⟨F, v, ws, rfl, _⟩ := h
    rfl
  · obtain ⟨F, v, ws, rfl, fh, ⟨a, xs, rfl, ha, hp⟩, hok, hlen, q⟩ := h
    have hu := hu_of hr
    refine ⟨_, pss_cons (ps_set (i := 1) sc_changes_of.nd rfl (.inl rfl) pe_dnewT)
      (pss_cons (ps_for PassesOwn.never rfl (pi_list (pv 0))
          (pg_tup rfl (pgs_cons (pg_tup rfl (pgs_cons (pg_name (i := 2) sc_changes_of.nd rfl (.inl rfl)) (pgs_cons (pg_name (i := 3) sc_changes_of.nd rfl (.inl rfl)) (pgs_cons (pg_name (i := 4) sc_changes_of.nd rfl (.inl rfl)) pgs_nil))))
            (pgs_cons (pg_name (i := 5) sc_changes_of.nd rfl (.inl rfl)) pgs_nil)))
        (pss_cons (ps_dput hu (pv 1) (pe_tup (pa_cons (pv 2) (pa_cons (pv 3) pa_nil))) (pe_op op_add (pe_dget2 hu (pv 1) (pe_tup (pa_cons (pv 2) (pa_cons (pv 3) pa_nil))) pe_int ⟨rfl, rfl, rfl, rfl⟩) (pv 5)) rfl)
          (pss_one (ps_dput hu (pv 1) (pe_tup (pa_cons (pv 2) (pa_cons (pe_op op_add (pv 4) pe_int) pa_nil))) (pe_op op_sub (pe_dget2 hu (pv 1) (pe_tup (pa_cons (pv 2) (pa_cons (pe_op op_add (pv 4) pe_int) pa_nil))) pe_int ⟨rfl, rfl, rfl, rfl⟩) (pv 5)) rfl))))
      (pss_one (ps_ret (pv 1)))), ?_⟩
    intro d nd
    have fd0 : F d = none := fh.free nd
    refine ⟨_, rfl, a, rfl, ⟨xs, SqL.of ((same_upd nd) _ _ (fh _ _ ha))⟩, for_list (K := K) (a := a) (xs := xs) (fun i σ H1 => ∃ kvs y2 y3 y4 y5, σ = [some (.ref a), some (.ref d), y2, y3, y4, y5] ∧ Ext M0 F H F H1 ∧ H1 d = some (.dT kvs) ∧ ChD kvs (ws.take i))
      ⟨[], none, none, none, none, rfl, (Ext.refl fh).put (.inl nd) fd0, upd_same, ChD.nil⟩ (fun i σ H1 _ ⟨_, _, _, _, _, _, X1, _, _⟩ => SqL.of (X1.fh _ _ ha)) ?_ ?_⟩
    · rintro i x σ H1 hi ⟨kvs, y2, y3, y4, y5, rfl, X1, hd, hc⟩
      obtain ⟨⟨r, z⟩, hri, t, u, rfl, ht, ⟨t2, rfl, ht2⟩⟩ := pr_get hp hi
      have hro := hok _ (List.mem_of_getElem? hri)
      have hne : fstP r ≠ endP r := fun e => by
        have e2 := congrArg Prod.snd e
        simp only [fstP, endP] at e2
        simp only at hro
        omega
      obtain ⟨v1, e1, v2, e2, hc2⟩ := hc.step r z hne
      have hlen2 : ∀ {kvs : List (List Key × V)} {n : Nat}, ChD kvs (ws.take n) → kvs.length < sizeLine - 2 := fun {kvs n} c => by
        obtain ⟨ps, dd, _, _, l⟩ := c.ex
        have l2 : (ws.take n).length ≤ ws.length := List.length_take_le' n ws
        rw [dd.len, sizeLine_eq]
        omega
      have hk := hlen2 hc
      refine ⟨t, _, rfl, SqT.of (X1.fh _ _ ht), rfl, _, _, rfl, t2, _, rfl, SqT.of (X1.fh _ _ ht2), rfl, _, _, rfl, _, _, rfl, _, _, rfl, rfl, _, _, rfl, rfl, ?_⟩
      -- changes[house, first] = changes.get((house, first), 0) + weight
      refine ⟨_, rfl, d, rfl, .inr ⟨kvs, .inl hd⟩, _, rfl, _, rfl, (by show 2 ≤ sizeLine; decide), fun k1 nk1 => ?_⟩
      have dk1 : d ≠ k1 := ne_of_none hd nk1
      have hd1 : upd H1 k1 (.tup [.int r.1, .int r.2.1]) d = some (.dT kvs) := by rw [upd_ne dk1]; exact hd
      refine ⟨_, DGet.t (k := kk (fstP r)) hd1 upd_same, _, rfl, v1, z, e1, rfl, _, rfl, _, rfl, _, rfl, (by show 2 ≤ sizeLine; decide), fun k2 nk2 => ?_⟩
      have dk2 : d ≠ k2 := ne_of_none hd1 nk2
      have hd2 : upd (upd H1 k1 (.tup [.int r.1, .int r.2.1])) k2 (.tup [.int r.1, .int r.2.1]) d = some (.dT kvs) := by rw [upd_ne dk2]; exact hd1
      refine ⟨d, _, rfl, DPut.t (k := kk (fstP r)) hd2 upd_same (by omega), ?_⟩
      have X2 := (((X1.tmp (o := .tup [.int r.1, .int r.2.1]) nk1).tmp (o := .tup [.int r.1, .int r.2.1]) nk2).put (o := .dT (putK kvs (kk (fstP r)) (.int (v1 + z)))) (.inl nd) fd0)
      have hd3 : upd (upd (upd H1 k1 (.tup [.int r.1, .int r.2.1])) k2 (.tup [.int r.1, .int r.2.1])) d (.dT (putK kvs (kk (fstP r)) (.int (v1 + z)))) d = some (.dT (putK kvs (kk (fstP r)) (.int (v1 + z)))) := upd_same
      revert hd3 X2
      generalize upd (upd (upd H1 k1 (.tup [.int r.1, .int r.2.1])) k2 (.tup [.int r.1, .int r.2.1])) d (.dT (putK kvs (kk (fstP r)) (.int (v1 + z)))) = H2
      intro X2 hd3
      -- changes[house, last + 1] = changes.get((house, last + 1), 0) - weight
      refine ⟨_, rfl, d, rfl, .inr ⟨_, .inl hd3⟩, _, rfl, _, rfl, _, _, rfl, rfl, (by show 2 ≤ sizeLine; decide), fun k3 nk3 => ?_⟩
      have dk3 : d ≠ k3 := ne_of_none hd3 nk3
      have hd4 : upd H2 k3 (.tup [.int r.1, .int (r.2.2 + 1)]) d = some (.dT (putK kvs (kk (fstP r)) (.int (v1 + z)))) := by rw [upd_ne dk3]; exact hd3
      refine ⟨_, DGet.t (k := kk (endP r)) hd4 upd_same, _, rfl, v2, z, e2, rfl, _, rfl, _, rfl, _, rfl, _, _, rfl, rfl, (by show 2 ≤ sizeLine; decide), fun k4 nk4 => ?_⟩
      have dk4 : d ≠ k4 := ne_of_none hd4 nk4
      have hd5 : upd (upd H2 k3 (.tup [.int r.1, .int (r.2.2 + 1)])) k4 (.tup [.int r.1, .int (r.2.2 + 1)]) d = some (.dT (putK kvs (kk (fstP r)) (.int (v1 + z)))) := by rw [upd_ne dk4]; exact hd4
      have lp : (putK kvs (kk (fstP r)) (.int (v1 + z))).length ≤ kvs.length + 1 := putK_le _ _ _
      refine ⟨d, _, rfl, DPut.t (k := kk (endP r)) hd5 upd_same (by omega), ?_⟩
      refine ⟨_, _, _, _, _, rfl, (((X2.tmp nk3).tmp nk4).put (.inl nd) fd0), upd_same, ?_⟩
      rw [List.take_add_one, hri]
      exact hc2
    · rintro σ H1 ⟨kvs, y2, y3, y4, y5, rfl, X1, hd, hc⟩
      refine ⟨_, rfl, q H1 d kvs X1 nd fd0 hd ?_⟩
      rw [pr_len hp, List.take_length] at hc
      exact hc
end
end Rw
namespace Rw
open PySem L2
theorem same_put {G H : Hp} {p : Addr} {o : HO} (s : Same G H) (g : G p = none) : Same G (upd H p o) := fun b u e => by
  rw [upd_ne (ne_of_none e g)]
  exact s b u e
/-- all but one place -/
def but (H : Hp) (o : Addr) : Hp := fun b => if b = o then none else H b
theorem but_same {H : Hp} {o : Addr} : Same (but H o) H := fun b u e => by
  unfold but at e
  by_cases h : b = o
  · rw [if_pos h] at e; cases e
  · rw [if_neg h] at e; exact e
theorem but_self {H : Hp} {o : Addr} : but H o o = none := if_pos rfl
theorem but_at {H : Hp} {o b : Addr} (h : b ≠ o) : but H o b = H b := if_neg h
theorem kPt_but {H : Hp} {o : Addr} {xs : List V} (ho : H o = some (.lst xs)) {v : V} {p : Pt} (h : kPt.is H v p) : kPt.is (but H o) v p := by
  obtain ⟨t, e, ht⟩ := h
  exact ⟨t, e, by rw [but_at (ne_of ht ho (by intro z; cases z))]; exact ht⟩
def sweepM (ws : List WRow) (least : Int) (ks : List Pt) : St := ks.foldl (stepM (chg ws) least) ⟨[], 0, 0⟩
theorem stepM_out (ch : Pt → Int) (least : Int) (s : St) (k : Pt) : (stepM ch least s k).out.length ≤ s.out.length + 1 := by
  unfold stepM
  split
  · exact Nat.le_succ _
  · split
    · simp
    · exact Nat.le_succ _
theorem sweepM_snoc (ws : List WRow) (least : Int) (ks : List Pt) (k : Pt) : sweepM ws least (ks ++ [k]) = stepM (chg ws) least (sweepM ws least ks) k := by
  unfold sweepM
  rw [List.foldl_append]
  rfl
theorem sweepM_len (ws : List WRow) (least : Int) (ks : List Pt) : (sweepM ws least ks).out.length ≤ ks.length := by
  have key : ∀ (ks : List Pt) (s : St), (ks.foldl (stepM (chg ws) least) s).out.length ≤ s.out.length + ks.length := by
    intro ks
    induction ks with
    | nil => intro s; exact Nat.le_refl _
    | cons k ks ih =>
      intro s
      have h1 := ih (stepM (chg ws) least s k)
      have h2 := stepM_out (chg ws) least s k
      rw [List.foldl_cons, List.length_cons]
      omega
  have h := key ks ⟨[], 0, 0⟩
  simp only [List.length_nil, Nat.zero_add] at h
  exact h
/-- what the sweep tells -/
structure Told (ws : List WRow) (least : Int) (out : List Row) : Prop where
  can : Canon out
  mem : ∀ p, mem out p ↔ least ≤ cover ws p
def spReaching : Sp := fun vs H Q _ => ∃ (F : Hp) (v : V) (ws : List WRow) (least : Int), vs = [v, .int least] ∧ Same F H ∧ (kL kW).is F v ws ∧ Wok ws ∧ ws.length ≤ 1000000 ∧ 0 < least ∧ RetL M0 F H kRow (Told ws least) Q
structure TxB (mg : Str → Option Value) : Prop where
  sorted : mg "sorted" = none
section
variable {P : Program} {w : World} {K : PySem.W.Frag} {mg : Str → Option Value} {base : Heap}
theorem ok_reaching {f : Addr} {fd : FuncData} (F0 : Fun K "reaching" "reaching" s_reaching f fd) (T : TxB mg) (CC : Cal P w K mg base 1 "changes_of" ["weighed"] spChangesOf) : FnOk P w K mg base CX0 2 f fd ["weighed", "least"] spReaching := by
  obtain ⟨f1, fd1, G1, g1, kp1, b1⟩ := CC
  refine F0.ok sc_reaching (fun vs H Q E h => ?_) (fun cdv A outer s H vs Q E hr h => ?_)
  · obtain ⟨F, v, ws, least, rfl, _⟩ := h
    rfl
  · obtain ⟨F, v, ws, least, rfl, fh, hv, hok, hlen, hle, q⟩ := h
    have hu := hu_of hr
    refine ⟨_, pss_cons (ps_set (i := 2) sc_reaching.nd rfl (.inl rfl) (pe_call G1 hr (by rfl) g1 kp1 b1 .nil pass0 (pa_cons (pv 0) pa_nil)))
      (pss_cons (ps_set (i := 3) sc_reaching.nd rfl (.inl rfl) (pe_lst pa_nil))
      (pss_cons (ps_set (i := 4) sc_reaching.nd rfl (.inl rfl) pe_int)
      (pss_cons (ps_set (i := 5) sc_reaching.nd rfl (.inl rfl) pe_int)
      (pss_cons (ps_for PassesOwn.never rfl (pi_list (pe_callB (cr_sortedDT (by rfl)) (by rfl) T.sorted (by decide +kernel) (pa_cons (pv 2) pa_nil)))
          (pg_tup rfl (pgs_cons (pg_name (i := 6) sc_reaching.nd rfl (.inl rfl)) (pgs_cons (pg_name (i := 7) sc_reaching.nd rfl (.inl rfl)) pgs_nil)))
        (pss_cons (ps_set (i := 8) sc_reaching.nd rfl (.inl rfl) (pv 4))
        (pss_cons (ps_set (i := 4) sc_reaching.nd rfl (.inl rfl) (pe_op op_add (pv 8) (pe_dget hu (pv 2) (pe_tup (pa_cons (pv 6) (pa_cons (pv 7) pa_nil))) (fun _ _ => rfl))))
        (pss_one (ps_if (pt_chain op_lt op_le (pv 8) (pv 1) (pv 4)) (pss_one (ps_set (i := 5) sc_reaching.nd rfl (.inl rfl) (pv 7)))
          (pss_one (ps_if (pt_chain op_lt op_le (pv 4) (pv 1) (pv 8))
            (pss_one (ps_expr (pe_bm PySem.F.plainAttrs_list PySem.F.slot_list_append PySem.F.type_list_append mt_append (pv 3) (pa_cons (pe_tup (pa_cons (pv 6) (pa_cons (pv 5) (pa_cons (pe_op op_sub (pv 7) pe_int) pa_nil)))) pa_nil)))) pss_nil)))))))
      (pss_one (ps_ret (pv 3))))))), ?_⟩
    refine ⟨_, rfl, F, v, ws, rfl, fh, hv, hok, hlen, fun H1 d kvs X1 nd fd hd hc => ?_⟩
    refine ⟨Nat.zero_le _, fun o no => ?_⟩
    have X2 := X1.tmp (o := .lst []) no
    have dno : d ≠ o := ne_of_none hd no
    have hd2 : upd H1 o (.lst []) d = some (.dT kvs) := by rw [upd_ne dno]; exact hd
    have ho2 : upd H1 o (.lst []) o = some (.lst []) := upd_same
    have Ho : H o = none := X1.free no
    have Fo : F o = none := X1.ffree no
    revert X2 hd2 ho2
    generalize upd H1 o (.lst []) = H2
    intro X2 hd2 ho2
    obtain ⟨ps, dd, hz, hh, hl⟩ := hc.ex
    refine ⟨_, rfl, d, kvs, ps, rfl, hd2, dd.keys, dd.nd, fun ys qs p hys hperm hsort np => ?_⟩
    have pno : o ≠ p := ne_of_none ho2 np
    have dnp : d ≠ p := ne_of_none hd2 np
    have X3 := X2.tmp (o := .lst ys) np
    have ho3 : upd H2 p (.lst ys) o = some (.lst []) := by rw [upd_ne pno]; exact ho2
    have hd3 : upd H2 p (.lst ys) d = some (.dT kvs) := by rw [upd_ne dnp]; exact hd2
    have hp3 : upd H2 p (.lst ys) p = some (.lst ys) := upd_same
    have hys3 : Paired (kPt.is (but (upd H2 p (.lst ys)) o)) ys qs := pr_mono (fun _ _ r => kPt_but ho3 (kPt.mono (same_upd np) r)) hys
    revert X3 ho3 hd3 hp3 hys3
    generalize upd H2 p (.lst ys) = H3
    intro X3 ho3 hd3 hp3 hys3
    have gd : but H3 o d = some (.dT kvs) := by rw [but_at dno]; exact hd3
    have gp : but H3 o p = some (.lst ys) := by rw [but_at pno.symm]; exact hp3
    have go : but H3 o o = none := but_self
    have gs : Same (but H3 o) H3 := but_same
    revert gd gp go gs hys3
    generalize but H3 o = G
    intro hys3 gd gp go gs
    have lq : qs.length ≤ 2 * ws.length := by rw [hperm.length_eq]; exact hl
    refine ⟨p, rfl, ⟨ys, SqL.of (gs _ _ gp)⟩, for_list (K := K) (a := p) (xs := ys) (fun i σ H' => ∃ F' outs y6 y7 y8, σ = [some v, some (.int least), some (.ref d), some (.ref o), some (.int (sweepM ws least (qs.take i)).total), some (.int (sweepM ws least (qs.take i)).start), y6, y7, y8] ∧
        Ext M0 F H F' H' ∧ Same G H' ∧ F' o = none ∧ H' o = some (.lst outs) ∧ Paired (kRow.is F') outs (sweepM ws least (qs.take i)).out)
      ⟨F, [], none, none, none, rfl, X3, gs, Fo, ho3, .nil⟩ (fun i σ H' _ ⟨_, _, _, _, _, _, _, s1, _⟩ => SqL.of (s1 _ _ gp)) ?_ ?_⟩
    · rintro i x σ H' hi ⟨F', outs, y6, y7, y8, rfl, X4, s4, fo, hout, hpr⟩
      obtain ⟨k, hk, t, rfl, ht⟩ := pr_get hys3 hi
      have kps : k ∈ ps := hperm.mem_iff.mp (List.mem_of_getElem? hk)
      have hval : valV kvs (kk k) = some (.int (chg ws k)) := by rw [dd.val k, if_pos kps]
      have hst : sweepM ws least (qs.take (i + 1)) = stepM (chg ws) least (sweepM ws least (qs.take i)) k := by
        rw [List.take_add_one, hk, ← sweepM_snoc]
        rfl
      have hlo : outs.length ≤ 2 * ws.length := by
        have h1 := sweepM_len ws least (qs.take i)
        have h2 : (qs.take i).length ≤ qs.length := List.length_take_le' i qs
        rw [pr_len hpr]
        omega
      revert hpr hst
      generalize sweepM ws least (qs.take i) = st
      intro hpr hst
      refine ⟨t, _, rfl, SqT.of (s4 _ _ ht), rfl, _, _, rfl, _, _, rfl, rfl, ?_⟩
      refine ⟨_, rfl, _, rfl, _, rfl, _, rfl, _, rfl, (by show 2 ≤ sizeLine; decide), fun k1 nk1 => ?_⟩
      have hd4 : H' d = some (.dT kvs) := s4 _ _ gd
      have dk1 : d ≠ k1 := ne_of_none hd4 nk1
      have ok1 : o ≠ k1 := ne_of_none hout nk1
      have e5 : upd H' k1 (.tup [.int k.1, .int k.2]) d = some (.dT kvs) := by rw [upd_ne dk1]; exact hd4
      refine ⟨d, _, rfl, hval ▸ DGet.t (k := kk k) e5 upd_same, _, _, rfl, rfl, ?_⟩
      have X5 := X4.tmp (o := .tup [.int k.1, .int k.2]) nk1
      have s5 : Same G (upd H' k1 (.tup [.int k.1, .int k.2])) := s4.trans (same_upd nk1)
      have ho5 : upd H' k1 (.tup [.int k.1, .int k.2]) o = some (.lst outs) := by rw [upd_ne ok1]; exact hout
      revert X5 s5 ho5
      generalize upd H' k1 (.tup [.int k.1, .int k.2]) = H5
      intro X5 s5 ho5
      by_cases c1 : st.total < least
      · by_cases c2 : least ≤ st.total + chg ws k
        · have es : sweepM ws least (qs.take (i + 1)) = ⟨st.out, st.total + chg ws k, k.2⟩ := by rw [hst]; unfold stepM; rw [if_pos ⟨c1, c2⟩]
          refine ⟨_, rfl, _, rfl, _, _, rfl, rfl, _, rfl, ?_⟩
          rw [decide_eq_true c1]
          refine iteT ⟨_, rfl, _, _, rfl, rfl, _, rfl, ?_⟩
          rw [decide_eq_true c2]
          refine iteT ⟨_, rfl, F', outs, some (.int k.1), some (.int k.2), some (.int st.total), ?_, X5, s5, fo, ho5, ?_⟩
          · rw [es]; rfl
          · rw [es]; exact hpr
        · have es : sweepM ws least (qs.take (i + 1)) = ⟨st.out, st.total + chg ws k, st.start⟩ := by
            rw [hst]; unfold stepM; rw [if_neg (fun z => c2 z.2), if_neg (fun z => absurd z.2 (by omega))]
          refine ⟨_, rfl, _, rfl, _, _, rfl, rfl, _, rfl, ?_⟩
          rw [decide_eq_true c1]
          refine iteT ⟨_, rfl, _, _, rfl, rfl, _, rfl, ?_⟩
          rw [decide_eq_false c2]
          refine iteF ⟨_, rfl, _, rfl, _, _, rfl, rfl, _, rfl, ?_⟩
          rw [decide_eq_true (show st.total + chg ws k < least by omega)]
          refine iteT ⟨_, rfl, _, _, rfl, rfl, _, rfl, ?_⟩
          rw [decide_eq_false (show ¬ least ≤ st.total by omega)]
          refine iteF ⟨F', outs, some (.int k.1), some (.int k.2), some (.int st.total), ?_, X5, s5, fo, ho5, ?_⟩
          · rw [es]; rfl
          · rw [es]; exact hpr
      · by_cases c2 : st.total + chg ws k < least
        · have es : sweepM ws least (qs.take (i + 1)) = ⟨st.out ++ [(k.1, st.start, k.2 - 1)], st.total + chg ws k, st.start⟩ := by
            rw [hst]; unfold stepM; rw [if_neg (fun z => c1 z.1), if_pos ⟨c2, by omega⟩]
          refine ⟨_, rfl, _, rfl, _, _, rfl, rfl, _, rfl, ?_⟩
          rw [decide_eq_false c1]
          refine iteF ⟨_, rfl, iteF ⟨_, rfl, _, rfl, _, _, rfl, rfl, _, rfl, ?_⟩⟩
          rw [decide_eq_true c2]
          refine iteT ⟨_, rfl, _, _, rfl, rfl, _, rfl, ?_⟩
          rw [decide_eq_true (show least ≤ st.total by omega)]
          refine iteT ⟨_, rfl, .inl ⟨rfl, _, SqL.of ho5⟩, _, rfl, _, rfl, _, rfl, _, _, rfl, rfl, (by show 3 ≤ sizeLine; decide), fun t6 nt6 => ?_⟩
          have ot6 : o ≠ t6 := ne_of_none ho5 nt6
          refine ⟨o, outs, _, rfl, rfl, by rw [upd_ne ot6]; exact ho5, by rw [sizeLine_eq]; omega, ?_⟩
          have fo6 : upd F' t6 (.tup [.int k.1, .int st.start, .int (k.2 - 1)]) o = none := by rw [upd_ne ot6]; exact fo
          refine ⟨upd F' t6 (.tup [.int k.1, .int st.start, .int (k.2 - 1)]), outs ++ [.ref t6], some (.int k.1), some (.int k.2), some (.int st.total), ?_, (X5.lay nt6).put (.inl Ho) fo6, same_put (s5.trans (same_upd nt6)) go, fo6, upd_same, ?_⟩
          · rw [es]; rfl
          · rw [es]
            exact pr_snoc (pr_mono (fun _ _ r => kRow.mono (same_upd (X5.ffree nt6)) r) hpr) ⟨t6, rfl, upd_same⟩
        · have es : sweepM ws least (qs.take (i + 1)) = ⟨st.out, st.total + chg ws k, st.start⟩ := by
            rw [hst]; unfold stepM; rw [if_neg (fun z => c1 z.1), if_neg (fun z => c2 z.1)]
          refine ⟨_, rfl, _, rfl, _, _, rfl, rfl, _, rfl, ?_⟩
          rw [decide_eq_false c1]
          refine iteF ⟨_, rfl, iteF ⟨_, rfl, _, rfl, _, _, rfl, rfl, _, rfl, ?_⟩⟩
          rw [decide_eq_false c2]
          refine iteF ⟨_, rfl, iteF ⟨F', outs, some (.int k.1), some (.int k.2), some (.int st.total), ?_, X5, s5, fo, ho5, ?_⟩⟩
          · rw [es]; rfl
          · rw [es]; exact hpr
    · rintro σ H' ⟨F', outs, y6, y7, y8, rfl, X4, s4, fo, hout, hpr⟩
      rw [pr_len hys3, List.take_length] at hpr
      obtain ⟨a1, a2⟩ := sweep hle hok hsort (fun x hx => ⟨hperm.mem_iff.mpr (hh x hx).1, hperm.mem_iff.mpr (hh x hx).2⟩) 0
      refine ⟨_, rfl, q F' H' o outs _ X4 Ho fo hout hpr ⟨a1, a2⟩⟩
end
end Rw
namespace Rw
open PySem L2
/-! ### how long what is told can be; its rows are rows -/
theorem nodup_sub {α : Type} [DecidableEq α] : ∀ (l D : List α), l.Nodup → (∀ x ∈ l, x ∈ D) → l.length ≤ D.length
  | [], _, _, _ => Nat.zero_le _
  | x :: l, D, hn, h => by
    have h1 := List.nodup_cons.mp hn
    have hx := h x List.mem_cons_self
    have ih := nodup_sub l (D.erase x) h1.2 fun y hy => by
      have ne : y ≠ x := fun e => h1.1 (e ▸ hy)
      exact (List.mem_erase_of_ne ne).mpr (h y (List.mem_cons_of_mem _ hy))
    rw [List.length_erase_of_mem hx] at ih
    have : 0 < D.length := List.length_pos_of_mem hx
    rw [List.length_cons]
    omega
theorem S_drop {f g : Row → Int} : ∀ {ws : List WRow}, S f ws < S g ws → ∃ x ∈ ws, x.2 * f x.1 < x.2 * g x.1
  | [], h => by simp [S] at h
  | (r, w) :: ws, h => by
    by_cases c : w * f r < w * g r
    · exact ⟨_, List.mem_cons_self, c⟩
    · have h' : w * f r + S f ws < w * g r + S g ws := h
      obtain ⟨x, hx, e⟩ := S_drop (f := f) (g := g) (ws := ws) (by omega)
      exact ⟨x, List.mem_cons_of_mem _ hx, e⟩
/-- where a weighed row can end a told one -/
def stopP (x : WRow) : Pt := if 0 < x.2 then endP x.1 else fstP x.1
theorem Canon.ends {out : List Row} (c : Canon out) : (out.map endP).Nodup := by
  refine List.pairwise_map.mpr (c.ord.imp_of_mem fun {r s} hr hs b e => ?_)
  have o := c.ok s hs
  have e1 := congrArg Prod.fst e
  have e2 := congrArg Prod.snd e
  unfold endP at e1 e2
  simp only at e1 e2
  unfold before at b
  omega
theorem Canon.gap {out : List Row} (c : Canon out) {r : Row} (hr : r ∈ out) : ¬ mem out (endP r) := by
  rintro ⟨s, hs, i1, i2, i3⟩
  unfold endP at i1 i2 i3
  simp only at i1 i2 i3
  rcases Classical.em (r = s) with e | e
  · subst e; omega
  · have key : before r s ∨ before s r := by
      obtain ⟨i, hi, ei⟩ := List.getElem_of_mem hr
      obtain ⟨j, hj, ej⟩ := List.getElem_of_mem hs
      have p := List.pairwise_iff_getElem.mp c.ord
      rcases Nat.lt_trichotomy i j with l | l | l
      · exact .inl (by have := p i j hi hj l; rw [ei, ej] at this; exact this)
      · subst l; exact absurd (ei.symm.trans ej) e
      · exact .inr (by have := p j i hj hi l; rw [ei, ej] at this; exact this)
    have o := c.ok r hr
    have o2 := c.ok s hs
    unfold before at key
    omega
theorem Canon.last {out : List Row} (c : Canon out) {r : Row} (hr : r ∈ out) : mem out (r.1, r.2.2) := ⟨r, hr, rfl, c.ok r hr, Int.le_refl _⟩
theorem Canon.first {out : List Row} (c : Canon out) {r : Row} (hr : r ∈ out) : mem out (r.1, r.2.1) := ⟨r, hr, rfl, Int.le_refl _, c.ok r hr⟩
theorem Told.len {ws : List WRow} {least : Int} {out : List Row} (t : Told ws least out) : out.length ≤ ws.length := by
  have h := nodup_sub (out.map endP) (ws.map stopP) t.can.ends fun p hp => by
    obtain ⟨r, hr, rfl⟩ := List.mem_map.mp hp
    have a := (t.mem _).mp (t.can.last hr)
    have b : ¬ least ≤ cover ws (endP r) := fun z => t.can.gap hr ((t.mem _).mpr z)
    obtain ⟨x, hx, e⟩ := S_drop (f := fun s => ind (inRow s (endP r))) (g := fun s => ind (inRow s (r.1, r.2.2))) (ws := ws) (by unfold cover at a b; omega)
    refine List.mem_map.mpr ⟨x, hx, ?_⟩
    obtain ⟨s, w⟩ := x
    simp only at e
    unfold stopP
    rcases ind_or (inRow s (endP r)) with ⟨u1, e1⟩ | ⟨u1, e1⟩ <;> rcases ind_or (inRow s (r.1, r.2.2)) with ⟨u2, e2⟩ | ⟨u2, e2⟩ <;> rw [e1, e2] at e
    · omega
    · rw [if_neg (show ¬ 0 < w by omega)]
      unfold inRow endP at u1
      unfold inRow at u2
      unfold fstP endP
      simp only at u1 u2 ⊢
      exact Prod.ext (by simp only; omega) (by simp only; omega)
    · rw [if_pos (show 0 < w by omega)]
      unfold inRow endP at u1
      unfold inRow at u2
      unfold endP
      simp only at u1 u2 ⊢
      exact Prod.ext (by simp only; omega) (by simp only; omega)
    · omega
  rw [List.length_map, List.length_map] at h
  exact h
def InBox (p : Pt) : Prop := 0 ≤ p.1 ∧ p.1 ≤ 7 ∧ 1 ≤ p.2 ∧ p.2 ≤ LIM
theorem RowOk.box {r : Row} (h : RowOk r) {p : Pt} (i : inRow r p) : InBox p := by
  obtain ⟨a, b, c, d, e⟩ := h
  obtain ⟨i1, i2, i3⟩ := i
  unfold InBox
  omega
theorem rows_box {rs : List Row} (h : ∀ r ∈ rs, RowOk r) {p : Pt} (m : mem rs p) : InBox p := by
  obtain ⟨r, hr, i⟩ := m
  exact (h r hr).box i
theorem canon_ok {out : List Row} (c : Canon out) (h : ∀ p, mem out p → InBox p) : ∀ r ∈ out, RowOk r := fun r hr => by
  have a := h _ (c.last hr)
  have b := h _ (c.first hr)
  have o := c.ok r hr
  unfold InBox at a b
  unfold RowOk
  simp only at a b
  omega
/-! ### what the sums come to -/
def once (rs : List Row) : List WRow := rs.map fun r => (r, 1)
theorem cover_once (rs : List Row) (p : Pt) : 0 ≤ cover (once rs) p ∧ (1 ≤ cover (once rs) p ↔ mem rs p) := by
  induction rs with
  | nil => exact ⟨Int.le_refl _, fun h => absurd h (by show ¬ (1 : Int) ≤ 0; omega), fun h => absurd h mem_nil⟩
  | cons r rs ih =>
    have e : cover (once (r :: rs)) p = 1 * ind (inRow r p) + cover (once rs) p := rfl
    rw [e, mem_cons]
    rcases ind_or (inRow r p) with ⟨u, eu⟩ | ⟨u, eu⟩ <;> rw [eu]
    · exact ⟨by omega, fun _ => .inl u, fun _ => by omega⟩
    · refine ⟨by omega, fun h => .inr (ih.2.mp (by omega)), fun h => ?_⟩
      have := ih.2.mpr (h.resolve_left u)
      omega
instance (rs : List Row) (p : Pt) : Decidable (mem rs p) := by unfold mem; infer_instance
/-- of a canonical list each point is covered at most once -/
theorem cover_canon {rs : List Row} (c : Canon rs) (p : Pt) : cover (once rs) p = ind (mem rs p) := by
  induction rs with
  | nil => exact (ind_neg mem_nil).symm
  | cons r rs ih =>
    have e : cover (once (r :: rs)) p = 1 * ind (inRow r p) + cover (once rs) p := rfl
    rw [e, ih c.tail]
    rcases ind_or (inRow r p) with ⟨u, eu⟩ | ⟨u, eu⟩ <;> rw [eu]
    · have n : ¬ mem rs p := fun m => by
        have := c.later m
        obtain ⟨i1, i2, i3⟩ := u
        omega
      rw [ind_neg n, ind_pos (mem_cons.mpr (.inl u))]
      omega
    · by_cases m : mem rs p
      · rw [ind_pos m, ind_pos (mem_cons.mpr (.inr m))]; omega
      · rw [ind_neg m, ind_neg (fun z => (mem_cons.mp z).elim u m)]; omega
end Rw
namespace Rw
open PySem L2
/-! ### loops of comprehensions, by a walk -/
theorem it_by {J : It} {n : Nat} {G : Hp → Prop} {Y : Nat → Hp → V → Hp → Prop} (w : Walk J n G Y) {B : (Hp → Prop) → V → Hp → Prop} {H0 : Hp} {Qd : Hp → Prop} (Pv : Nat → Hp → Prop) (h0 : Pv 0 H0)
    (hG : ∀ i H, i ≤ n → Pv i H → G H) (hs : ∀ i x H H', i < n → Pv i H → Y i H x H' → B (Pv (i + 1)) x H') (hd : ∀ H, Pv n H → Qd H) :
    ∃ W : Nat → Nat → Hp → Prop, (∃ m, W 0 m H0) ∧ ∀ i m H, W i m H →
      (J.stop i H ∧ Qd H) ∨ (J.go i H ∧ ∃ Nx : Hp → Prop, (∀ H', Nx H' → ∃ m', m' < m ∧ W (i + 1) m' H') ∧ ∀ x H', J.yld i H x H' → B Nx x H') := by
  refine ⟨fun i m H => m = n - i ∧ i ≤ n ∧ Pv i H, ⟨n, by simp, Nat.zero_le _, h0⟩, ?_⟩
  rintro i m H ⟨rfl, hi, p⟩
  have g := hG i H hi p
  by_cases c : i < n
  · exact .inr ⟨w.goes i H c g, Pv (i + 1), fun H' p' => ⟨n - (i + 1), by omega, rfl, c, p'⟩, fun x H' y => hs i x H H' c p (w.yields i H x H' c g y)⟩
  · obtain rfl : i = n := by omega
    exact .inl ⟨w.stops H g, hd H p⟩
theorem RetL.step {α : Type} {M : Addr → Prop} {F H F1 H1 : Hp} {k : Kd α} {φ ψ : List α → Prop} {Q : VK} (X : Ext M F H F1 H1) (q : RetL M F H k ψ Q) (h : ∀ xs, φ xs → ψ xs) : RetL M0 F1 H1 k φ Q :=
  fun F' H' a vs xs X' ha fa hl hp hx => q F' H' a vs xs (X.trans X'.up) (X.free ha) fa hl hp (h xs hx)
/-- how many of some sets hold a point -/
def cnt : List (List Row) → Pt → Int
  | [], _ => 0
  | rs :: sets, p => ind (mem rs p) + cnt sets p
def total : List (List Row) → Nat
  | [] => 0
  | rs :: sets => rs.length + total sets
theorem cnt_snoc (p : Pt) (rs : List Row) : ∀ sets : List (List Row), cnt (sets ++ [rs]) p = cnt sets p + ind (mem rs p)
  | [] => by show ind _ + 0 = 0 + ind _; omega
  | x :: sets => by
    show ind _ + cnt (sets ++ [rs]) p = ind _ + cnt sets p + ind _
    rw [cnt_snoc p rs sets]; omega
theorem total_snoc (rs : List Row) : ∀ sets : List (List Row), total (sets ++ [rs]) = total sets + rs.length
  | [] => by show rs.length + 0 = 0 + rs.length; omega
  | x :: sets => by
    show x.length + total (sets ++ [rs]) = x.length + total sets + rs.length
    rw [total_snoc rs sets]; omega
theorem total_take (sets : List (List Row)) (i : Nat) : total (sets.take i) ≤ total sets := by
  induction sets generalizing i with
  | nil => simp [total]
  | cons x sets ih =>
    cases i with
    | zero => simp [total]
    | succ i =>
      have := ih i
      show x.length + total (sets.take i) ≤ x.length + total sets
      omega
def Valid (rs : List Row) : Prop := ∀ r ∈ rs, r.2.1 ≤ r.2.2
theorem wok_once {rs : List Row} (h : Valid rs) : Wok (once rs) := fun x hx => by
  obtain ⟨r, hr, rfl⟩ := List.mem_map.mp hx
  exact h r hr
structure Fewest (rs out : List Row) : Prop where
  can : Canon out
  mem : ∀ p, mem out p ↔ mem rs p
  len : out.length ≤ rs.length
def spFewest : Sp := fun vs H Q _ => ∃ (F : Hp) (v : V) (rs : List Row), vs = [v] ∧ Same F H ∧ (kL kRow).is F v rs ∧ Valid rs ∧ rs.length ≤ 100000 ∧ RetL M0 F H kRow (Fewest rs) Q
structure Held (sets : List (List Row)) (least : Int) (out : List Row) : Prop where
  can : Canon out
  mem : ∀ p, mem out p ↔ least ≤ cnt sets p
  len : out.length ≤ total sets
def spHeld : Sp := fun vs H Q _ => ∃ (F : Hp) (v : V) (sets : List (List Row)) (least : Int), vs = [v, .int least] ∧ Same F H ∧ (kL (kL kRow)).is F v sets ∧ (∀ rs ∈ sets, Valid rs) ∧ total sets ≤ 100000 ∧ 0 < least ∧ RetL M0 F H kRow (Held sets least) Q
structure Without (one other out : List Row) : Prop where
  can : Canon out
  mem : ∀ p, mem out p ↔ mem one p ∧ ¬ mem other p
  len : out.length ≤ one.length + other.length
def spWithout : Sp := fun vs H Q _ => ∃ (F : Hp) (v u : V) (one other : List Row), vs = [v, u] ∧ Same F H ∧ (kL kRow).is F v one ∧ (kL kRow).is F u other ∧ Valid one ∧ Valid other ∧ one.length ≤ 50000 ∧ other.length ≤ 50000 ∧ RetL M0 F H kRow (Without one other) Q
theorem once_len (rs : List Row) : (once rs).length = rs.length := List.length_map ..
theorem told_fewest {rs out : List Row} (t : Told (once rs) 1 out) : Fewest rs out := ⟨t.can, fun p => (t.mem p).trans (cover_once rs p).2, by have := t.len; rw [once_len] at this; exact this⟩
section
variable {P : Program} {w : World} {K : PySem.W.Frag} {mg : Str → Option Value} {base : Heap}
theorem ok_fewest {f : Addr} {fd : FuncData} (F0 : Fun K "fewest" "fewest" s_fewest f fd) (CR : Cal P w K mg base 2 "reaching" ["weighed", "least"] spReaching) : FnOk P w K mg base CX0 3 f fd ["rows"] spFewest := by
  obtain ⟨f1, fd1, G1, g1, kp1, b1⟩ := CR
  refine F0.ok sc_fewest (fun vs H Q E h => ?_) (fun cdv A outer s H vs Q E hr h => ?_)
  · obtain ⟨F, v, rs, rfl, _⟩ := h
    rfl
  · obtain ⟨F, v, rs, rfl, fh, ⟨a, xs, rfl, ha, hp⟩, hval, hlen, q⟩ := h
    refine ⟨_, pss_one (ps_ret (pe_call G1 hr (by rfl) g1 kp1 b1 .nil pass0 (pa_cons (pe_lc (own := [("row", 1)]) (g := gName 1) (tt := tYes) (by rfl) sc_fewest.nd (pi_list (pv 0))
      (blkOk_by (own := [("row", 1)]) (N := ["rows", "row"]) (sc := defScope s_fewest) (by decide +kernel)) (fun _ _ _ _ _ => pg_name (i := 1) sc_fewest.nd rfl (Or.inl rfl)) (fun _ _ _ _ _ => pts_nil)
      (fun _ _ _ _ _ => pe_tup (pa_cons (pv 1) (pa_cons pe_int pa_nil)))) (pa_cons pe_int pa_nil)))), ?_⟩
    refine ⟨_, rfl, a, rfl, ⟨_, SqL.of (fh _ _ ha)⟩, fun D nD => ?_⟩
    have fD : F D = none := fh.free nD
    refine it_by (walk_list (K := K) (a := a) (xs := xs)) (fun i H' => ∃ F' acc, Ext M0 F H F' H' ∧ H' D = some (.lst acc) ∧ F' D = none ∧ Paired (kW.is F') acc (once (rs.take i)))
      ⟨F, [], (Ext.refl fh).tmp nD, upd_same, fD, .nil⟩ (fun i H' _ ⟨_, _, X1, _⟩ => SqL.of (X1.fh _ _ (X1.ff _ _ ha))) ?_ ?_
    · rintro i x H1 _ hi ⟨F', acc, X1, hD, fD', hacc⟩ ⟨rfl, hx⟩
      obtain ⟨r, hri, hr1⟩ := pr_get hp hx
      refine ⟨rfl, ?_⟩
      refine ⟨_, rfl, (by show 2 ≤ sizeLine; decide), fun t nt => ?_⟩
      have Dt : D ≠ t := ne_of_none hD nt
      have la : acc.length ≤ rs.length := by rw [pr_len hacc, once_len]; exact List.length_take_le' i rs
      refine ⟨acc, by rw [upd_ne Dt]; exact hD, by rw [sizeLine_eq]; omega, ?_⟩
      have fD2 : upd F' t (.tup [x, .int 1]) D = none := by rw [upd_ne Dt]; exact fD'
      refine ⟨upd F' t (.tup [x, .int 1]), acc ++ [.ref t], (X1.lay nt).put (.inl nD) fD2, upd_same, fD2, ?_⟩
      rw [List.take_add_one, hri]
      have e : once (rs.take i ++ [r]) = once (rs.take i) ++ [(r, 1)] := List.map_append ..
      show Paired _ _ (once (rs.take i ++ [r]))
      rw [e]
      have sm : Same F' (upd F' t (.tup [x, .int 1])) := same_upd (X1.ffree nt)
      exact pr_snoc (pr_mono (fun _ _ z => kW.mono sm z) hacc) ⟨t, x, rfl, upd_same, kRow.mono (X1.ff.trans sm) hr1⟩
    · rintro H1 ⟨F', acc, X1, hD, fD', hacc⟩
      rw [pr_len hp, List.take_length] at hacc
      have X2 := X1.frz nD fD' hD
      refine ⟨upd F' D (.lst acc), .ref D, once rs, 1, rfl, X2.fh, kL_new fD' hacc, wok_once hval, by rw [once_len]; omega, by decide, RetL.step X2 q fun out t => told_fewest t⟩
end
end Rw
namespace Rw
open PySem L2
theorem kLL_get {α : Type} {k : Kd α} {F : Hp} {vs : List V} {xss : List (List α)} {i : Nat} {v : V} (h : Paired ((kL k).is F) vs xss) (e : vs[i]? = some v) : ∃ xs, xss[i]? = some xs ∧ (kL k).is F v xs := pr_get h e
theorem cover_append (as bs : List WRow) (p : Pt) : cover (as ++ bs) p = cover as p + cover bs p := S_append _ as bs
theorem wok_append {as bs : List WRow} (h : Wok as) (h' : Wok bs) : Wok (as ++ bs) := fun x hx => (List.mem_append.mp hx).elim (h x) (h' x)
theorem once_snoc (rs : List Row) (r : Row) : once (rs ++ [r]) = once rs ++ [(r, 1)] := List.map_append ..
theorem valid_canon {rs : List Row} (c : Canon rs) : Valid rs := c.ok
def anti (rs : List Row) : List WRow := rs.map fun r => (r, -1)
theorem cover_anti (rs : List Row) (p : Pt) : cover (anti rs) p = - cover (once rs) p := by
  induction rs with
  | nil => rfl
  | cons r rs ih =>
    have e1 : cover (anti (r :: rs)) p = -1 * ind (inRow r p) + cover (anti rs) p := rfl
    have e2 : cover (once (r :: rs)) p = 1 * ind (inRow r p) + cover (once rs) p := rfl
    rw [e1, e2, ih]; omega
theorem wok_anti {rs : List Row} (h : Valid rs) : Wok (anti rs) := fun x hx => by
  obtain ⟨r, hr, rfl⟩ := List.mem_map.mp hx
  exact h r hr
theorem told_without {one other kept out : List Row} (k : Fewest one kept) (t : Told (once kept ++ anti other) 1 out) : Without one other out := by
  refine ⟨t.can, fun p => ?_, ?_⟩
  · rw [t.mem p, cover_append, cover_anti, cover_canon k.can, ← k.mem p]
    have c := cover_once other p
    rcases ind_or (mem kept p) with ⟨u, eu⟩ | ⟨u, eu⟩ <;> rw [eu]
    · constructor
      · intro h; exact ⟨u, fun z => by have := c.2.mpr z; omega⟩
      · intro h
        have : ¬ 1 ≤ cover (once other) p := fun z => h.2 (c.2.mp z)
        omega
    · exact ⟨fun h => by omega, fun h => absurd h.1 u⟩
  · have h := t.len
    rw [List.length_append, once_len] at h
    have e : (anti other).length = other.length := List.length_map ..
    have := k.len
    omega
section
variable {P : Program} {w : World} {K : PySem.W.Frag} {mg : Str → Option Value} {base : Heap}
theorem ok_held_by_many {f : Addr} {fd : FuncData} (F0 : Fun K "held_by_many" "held_by_many" s_held_by_many f fd) (CR : Cal P w K mg base 2 "reaching" ["weighed", "least"] spReaching) (CF : Cal P w K mg base 3 "fewest" ["rows"] spFewest) :
    FnOk P w K mg base CX0 4 f fd ["sets", "least"] spHeld := by
  obtain ⟨f1, fd1, G1, g1, kp1, b1⟩ := CR
  obtain ⟨f2, fd2, G2, g2, kp2, b2⟩ := CF
  refine F0.ok sc_held_by_many (fun vs H Q E h => ?_) (fun cdv A outer s H vs Q E hr h => ?_)
  · obtain ⟨F, v, sets, least, rfl, _⟩ := h
    rfl
  · obtain ⟨F, v, sets, least, rfl, fh, ⟨a, xs, rfl, ha, hp⟩, hval, hlen, hle, q⟩ := h
    have hr1 : Room 2 _ := hr.mono (by decide)
    refine ⟨_, pss_one (ps_ret (pe_call G1 hr1 (by rfl) g1 kp1 b1 .nil pass0 (pa_cons (pe_lc2 (own := [("rows", 2), ("row", 3)]) (g := gName 2) (tt := tYes) (wi1 := iList K (tCall spFewest [] E0 (tCons (tVar 2) tNil))) (g1 := gName 3) (tt1 := tYes) (vs1 := [3]) (by rfl) sc_held_by_many.nd (pi_list (pv 0))
      (blkOk_by (own := [("rows", 2), ("row", 3)]) (N := ["sets", "least", "rows", "row"]) (sc := defScope s_held_by_many) (by decide +kernel)) (by decide)
      (fun _ _ _ _ _ => pg_name (i := 2) sc_held_by_many.nd rfl (Or.inl rfl)) (fun _ _ _ _ _ => pts_nil)
      (fun _ _ _ _ _ => pi_list (pe_call G2 hr (by rfl) g2 kp2 b2 .nil pass0 (pa_cons (pv 2) pa_nil)))
      (fun _ _ _ _ _ => pg_name (i := 3) sc_held_by_many.nd rfl (Or.inl rfl)) (fun _ _ _ _ _ => pts_nil)
      (fun _ _ _ _ _ => pe_tup (pa_cons (pv 3) (pa_cons pe_int pa_nil)))) (pa_cons (pv 1) pa_nil)))), ?_⟩
    refine ⟨_, rfl, a, rfl, ⟨_, SqL.of (fh _ _ ha)⟩, fun D nD => ?_⟩
    have fD : F D = none := fh.free nD
    refine it_by (walk_list (K := K) (a := a) (xs := xs)) (fun i H' => ∃ F' acc ws, Ext M0 F H F' H' ∧ H' D = some (.lst acc) ∧ F' D = none ∧ Paired (kW.is F') acc ws ∧ Wok ws ∧ (∀ p, cover ws p = cnt (sets.take i) p) ∧ ws.length ≤ total (sets.take i))
      ⟨F, [], [], (Ext.refl fh).tmp nD, upd_same, fD, .nil, fun x h => absurd h (by simp), fun _ => rfl, Nat.le_refl _⟩ (fun i H' _ ⟨_, _, _, X1, _⟩ => SqL.of (X1.fh _ _ (X1.ff _ _ ha))) ?_ ?_
    · rintro i x H1 _ hi ⟨F', acc, ws, X1, hD, fD', hacc, wok, hcov, hwl⟩ ⟨rfl, hx⟩
      obtain ⟨rs, hri, hrs⟩ := pr_get hp hx
      have hrm : rs ∈ sets := List.mem_of_getElem? hri
      have et : sets.take (i + 1) = sets.take i ++ [rs] := by rw [List.take_add_one, hri]; rfl
      have tl : total (sets.take i) + rs.length ≤ 100000 := by
        have h1 := total_take sets (i + 1)
        rw [et, total_snoc] at h1
        omega
      refine ⟨rfl, _, rfl, F', x, rs, rfl, X1.fh, (kL kRow).mono X1.ff hrs, hval rs hrm, by omega, fun F2 H2 b vs out X2 nb fb hb hout fw => ?_⟩
      refine ⟨b, rfl, ⟨vs, SqL.of hb⟩, ?_⟩
      have X3 := X1.trans X2
      have hD2 : H2 D = some (.lst acc) := X2.same _ _ hD
      have fD2 : F2 D = none := by rw [X2.new D (by rw [hD]; simp)]; exact fD'
      refine it_by (walk_list (K := K) (a := b) (xs := vs)) (fun j H' => ∃ F3 acc3, Ext M0 F H F3 H' ∧ H' D = some (.lst acc3) ∧ F3 D = none ∧ H' b = some (.lst vs) ∧ F3 b = none ∧ Paired (kRow.is F3) vs out ∧ Paired (kW.is F3) acc3 (ws ++ once (out.take j)))
        ⟨F2, acc, X3, hD2, fD2, hb, fb, hout, by rw [show once (out.take 0) = [] from rfl, List.append_nil]; exact pr_mono (fun _ _ z => kW.mono X2.ff z) hacc⟩ (fun j H' _ ⟨_, _, _, _, _, z, _⟩ => SqL.of z) ?_ ?_
      · rintro j y H3 _ hj ⟨F3, acc3, X4, hD3, fD3, hb3, fb3, hout3, hacc3⟩ ⟨rfl, hy⟩
        obtain ⟨r, hrj, hr3⟩ := pr_get hout3 hy
        refine ⟨rfl, _, rfl, (by show 2 ≤ sizeLine; decide), fun t nt => ?_⟩
        have Dt : D ≠ t := ne_of_none hD3 nt
        have bt : b ≠ t := ne_of_none hb3 nt
        have Db : b ≠ D := fun e => by rw [e] at nb; rw [nb] at hD; cases hD
        have la : acc3.length ≤ 100000 := by
          rw [pr_len hacc3, List.length_append, once_len]
          have h1 := List.length_take_le' j out
          have := fw.len
          omega
        refine ⟨acc3, by rw [upd_ne Dt]; exact hD3, by rw [sizeLine_eq]; omega, ?_⟩
        have fD4 : upd F3 t (.tup [y, .int 1]) D = none := by rw [upd_ne Dt]; exact fD3
        have sm : Same F3 (upd F3 t (.tup [y, .int 1])) := same_upd (X4.ffree nt)
        refine ⟨upd F3 t (.tup [y, .int 1]), acc3 ++ [.ref t], (X4.lay nt).put (.inl nD) fD4, upd_same, fD4, by rw [upd_ne Db, upd_ne bt]; exact hb3, by rw [upd_ne bt]; exact fb3, pr_mono (fun _ _ z => kRow.mono sm z) hout3, ?_⟩
        have eo : once (out.take (j + 1)) = once (out.take j) ++ [(r, 1)] := by rw [List.take_add_one, hrj]; exact once_snoc _ _
        rw [eo, ← List.append_assoc]
        exact pr_snoc (pr_mono (fun _ _ z => kW.mono sm z) hacc3) ⟨t, y, rfl, upd_same, kRow.mono sm hr3⟩
      · rintro H3 ⟨F3, acc3, X4, hD3, fD3, hb3, fb3, hout3, hacc3⟩
        rw [pr_len hout3, List.take_length] at hacc3
        refine ⟨F3, acc3, _, X4, hD3, fD3, hacc3, wok_append wok (wok_once (valid_canon fw.can)), fun p => ?_, ?_⟩
        · rw [cover_append, hcov p, cover_canon fw.can, et, cnt_snoc]
          have : ind (mem out p) = ind (mem rs p) := by
            rcases ind_or (mem rs p) with ⟨u, eu⟩ | ⟨u, eu⟩ <;> rw [eu]
            · exact ind_pos ((fw.mem p).mpr u)
            · exact ind_neg fun z => u ((fw.mem p).mp z)
          rw [this]
        · rw [List.length_append, once_len, et, total_snoc]
          have := fw.len
          omega
    · rintro H1 ⟨F', acc, ws, X1, hD, fD', hacc, wok, hcov, hwl⟩
      rw [pr_len hp, List.take_length] at hcov hwl
      have X2 := X1.frz nD fD' hD
      refine ⟨_, rfl, upd F' D (.lst acc), .ref D, ws, least, rfl, X2.fh, kL_new fD' hacc, wok, by omega, hle, RetL.step X2 q fun out t => ?_⟩
      exact ⟨t.can, fun p => by rw [t.mem p, hcov p], Nat.le_trans t.len hwl⟩
theorem ok_without {f : Addr} {fd : FuncData} (F0 : Fun K "without" "without" s_without f fd) (CR : Cal P w K mg base 2 "reaching" ["weighed", "least"] spReaching) (CF : Cal P w K mg base 3 "fewest" ["rows"] spFewest) :
    FnOk P w K mg base CX0 4 f fd ["one", "other"] spWithout := by
  obtain ⟨f1, fd1, G1, g1, kp1, b1⟩ := CR
  obtain ⟨f2, fd2, G2, g2, kp2, b2⟩ := CF
  refine F0.ok sc_without (fun vs H Q E h => ?_) (fun cdv A outer s H vs Q E hr h => ?_)
  · obtain ⟨F, v, u, one, other, rfl, _⟩ := h
    rfl
  · obtain ⟨F, v, u, one, other, rfl, fh, hv, ⟨b, ys, rfl, hb, hpb⟩, val1, val2, len1, len2, q⟩ := h
    have hr1 : Room 2 _ := hr.mono (by decide)
    refine ⟨_, pss_cons (ps_setLc (i := 2) (own := [("row", 4)]) (g := gName 4) (tt := tYes) (by rfl) sc_without.nd rfl rfl (sw_true rfl rfl rfl (by decide +kernel)) (pi_list (pe_call G2 hr (by rfl) g2 kp2 b2 .nil pass0 (pa_cons (pv 0) pa_nil)))
        (blkOk_by (own := [("row", 4)]) (N := ["one", "other", "kept", "barred", "row"]) (sc := defScope s_without) (by decide +kernel)) (fun _ _ _ _ _ => pg_name (i := 4) sc_without.nd rfl (Or.inl rfl)) (fun _ _ _ _ _ => pts_nil)
        (fun _ _ _ _ _ => pe_tup (pa_cons (pv 4) (pa_cons pe_int pa_nil))))
      (pss_cons (ps_setLc (i := 3) (own := [("row", 4)]) (g := gName 4) (tt := tYes) (by rfl) sc_without.nd rfl rfl (sw_true rfl rfl rfl (by decide +kernel)) (pi_list (pv 1))
        (blkOk_by (own := [("row", 4)]) (N := ["one", "other", "kept", "barred", "row"]) (sc := defScope s_without) (by decide +kernel)) (fun _ _ _ _ _ => pg_name (i := 4) sc_without.nd rfl (Or.inl rfl)) (fun _ _ _ _ _ => pts_nil)
        (fun _ _ _ _ _ => pe_tup (pa_cons (pv 4) (pa_cons (pe_un un_neg pe_int) pa_nil))))
      (pss_one (ps_ret (pe_call G1 hr1 (by rfl) g1 kp1 b1 .nil pass0 (pa_cons (pe_op op_cat (pv 2) (pv 3)) (pa_cons pe_int pa_nil)))))), ?_⟩
    have hr3 : Room 3 _ := hr.mono (by decide)
    refine ⟨_, rfl, F, v, one, rfl, fh, hv, val1, by omega, fun F1 H1 c vs out X1 nc fc hc hout fw => ?_⟩
    refine ⟨c, rfl, ⟨vs, SqL.of hc⟩, fun D nD => ?_⟩
    have HD : H D = none := X1.free nD
    have cD : c ≠ D := ne_of_none hc nD
    have lo : out.length ≤ 50000 := Nat.le_trans fw.len len1
    refine it_by (walk_list (K := K) (a := c) (xs := vs)) (fun i H' => ∃ F' acc, Ext M0 F H F' H' ∧ H' D = some (.lst acc) ∧ F' D = none ∧ H' c = some (.lst vs) ∧ Paired (kRow.is F') vs out ∧ Paired (kW.is F') acc (once (out.take i)))
      ⟨F1, [], X1.tmp nD, upd_same, X1.ffree nD, by rw [upd_ne cD]; exact hc, hout, .nil⟩ (fun i H' _ ⟨_, _, _, _, _, z, _⟩ => SqL.of z) ?_ ?_
    · rintro i x H2 _ hi ⟨F', acc, X2, hD, fD, hc2, hout2, hacc⟩ ⟨rfl, hx⟩
      obtain ⟨r, hri, hr2⟩ := pr_get hout2 hx
      refine ⟨rfl, _, rfl, (by show 2 ≤ sizeLine; decide), fun t nt => ?_⟩
      have Dt : D ≠ t := ne_of_none hD nt
      have ct : c ≠ t := ne_of_none hc2 nt
      have la : acc.length ≤ 50000 := by
        rw [pr_len hacc, once_len]
        have h1 := List.length_take_le' i out
        omega
      refine ⟨acc, by rw [upd_ne Dt]; exact hD, by rw [sizeLine_eq]; omega, ?_⟩
      have fD2 : upd F' t (.tup [x, .int 1]) D = none := by rw [upd_ne Dt]; exact fD
      have sm : Same F' (upd F' t (.tup [x, .int 1])) := same_upd (X2.ffree nt)
      refine ⟨upd F' t (.tup [x, .int 1]), acc ++ [.ref t], (X2.lay nt).put (.inl HD) fD2, upd_same, fD2, by rw [upd_ne cD, upd_ne ct]; exact hc2, pr_mono (fun _ _ z => kRow.mono sm z) hout2, ?_⟩
      have eo : once (out.take (i + 1)) = once (out.take i) ++ [(r, 1)] := by rw [List.take_add_one, hri]; exact once_snoc _ _
      rw [eo]
      exact pr_snoc (pr_mono (fun _ _ z => kW.mono sm z) hacc) ⟨t, x, rfl, upd_same, kRow.mono sm hr2⟩
    · rintro H2 ⟨F', acc, X2, hD, fD, hc2, hout2, hacc⟩
      rw [pr_len hout2, List.take_length] at hacc
      refine ⟨_, rfl, b, rfl, ⟨_, SqL.of (X2.fh _ _ (X2.ff _ _ hb))⟩, fun D2 nD2 => ?_⟩
      have HD2 : H D2 = none := X2.free nD2
      have DD : D ≠ D2 := ne_of_none hD nD2
      refine it_by (walk_list (K := K) (a := b) (xs := ys)) (fun i H' => ∃ F' acc2, Ext M0 F H F' H' ∧ H' D2 = some (.lst acc2) ∧ F' D2 = none ∧ H' D = some (.lst acc) ∧ F' D = none ∧ Paired (kW.is F') acc (once out) ∧ Paired (kW.is F') acc2 (anti (other.take i)))
        ⟨F', [], X2.tmp nD2, upd_same, X2.ffree nD2, by rw [upd_ne DD]; exact hD, fD, hacc, .nil⟩ (fun i H' _ ⟨_, _, z, _⟩ => SqL.of (z.fh _ _ (z.ff _ _ hb))) ?_ ?_
      · rintro i x H3 _ hi ⟨F3, acc2, X3, hD2, fD2, hD3, fD3, hacc3, hacc2⟩ ⟨rfl, hx⟩
        obtain ⟨r, hri, hr2⟩ := pr_get hpb hx
        refine ⟨rfl, _, rfl, 1, rfl, (by show 2 ≤ sizeLine; decide), fun t nt => ?_⟩
        have Dt : D2 ≠ t := ne_of_none hD2 nt
        have ct : D ≠ t := ne_of_none hD3 nt
        have la : acc2.length ≤ 50000 := by
          have e : (anti (other.take i)).length = (other.take i).length := List.length_map ..
          rw [pr_len hacc2, e]
          have h1 := List.length_take_le' i other
          omega
        refine ⟨acc2, by rw [upd_ne Dt]; exact hD2, by rw [sizeLine_eq]; omega, ?_⟩
        have fD4 : upd F3 t (.tup [x, .int (-1)]) D2 = none := by rw [upd_ne Dt]; exact fD2
        have sm : Same F3 (upd F3 t (.tup [x, .int (-1)])) := same_upd (X3.ffree nt)
        refine ⟨upd F3 t (.tup [x, .int (-1)]), acc2 ++ [.ref t], (X3.lay nt).put (.inl HD2) fD4, upd_same, fD4, by rw [upd_ne DD, upd_ne ct]; exact hD3, by rw [upd_ne ct]; exact fD3, pr_mono (fun _ _ z => kW.mono sm z) hacc3, ?_⟩
        have eo : anti (other.take (i + 1)) = anti (other.take i) ++ [(r, -1)] := by rw [List.take_add_one, hri]; exact List.map_append ..
        rw [eo]
        exact pr_snoc (pr_mono (fun _ _ z => kW.mono sm z) hacc2) ⟨t, x, rfl, upd_same, kRow.mono (X3.ff.trans sm) hr2⟩
      · rintro H3 ⟨F3, acc2, X3, hD2, fD2, hD3, fD3, hacc3, hacc2⟩
        rw [pr_len hpb, List.take_length] at hacc2
        have l1 : acc.length = out.length := by rw [pr_len hacc3, once_len]
        have l2 : acc2.length = other.length := by rw [pr_len hacc2]; exact List.length_map ..
        refine ⟨_, rfl, _, rfl, D, D2, acc, acc2, rfl, rfl, hD3, hD2, by rw [sizeLine_eq]; omega, fun p np => ?_⟩
        have X4 := X3.lay (o := .lst (acc ++ acc2)) np
        refine ⟨upd F3 p (.lst (acc ++ acc2)), .ref p, once out ++ anti other, 1, rfl, X4.fh, kL_new (X3.ffree np) (pr_append hacc3 hacc2), wok_append (wok_once (valid_canon fw.can)) (wok_anti val2), ?_, by decide, RetL.step X4 q fun o t => told_without fw t⟩
        have e : (anti other).length = other.length := List.length_map ..
        rw [List.length_append, once_len, e]
        omega
end
end Rw
namespace Rw
open PySem L2
theorem eqv_row (r s : Row) : PyData.eqv (dRow r) (dRow s) = decide (r = s) := by
  obtain ⟨a, b, c⟩ := r
  obtain ⟨a', b', c'⟩ := s
  unfold dRow
  simp only [PyData.eqv, PyData.eqvAll, Bool.and_true]
  by_cases e1 : a = a' <;> by_cases e2 : b = b' <;> by_cases e3 : c = c' <;> simp [e1, e2, e3]
theorem eqvAll_rows : ∀ xs ys : List Row, PyData.eqvAll (xs.map dRow) (ys.map dRow) = decide (xs = ys)
  | [], [] => rfl
  | [], _ :: _ => by simp [PyData.eqvAll]
  | _ :: _, [] => by simp [PyData.eqvAll]
  | x :: xs, y :: ys => by
    rw [List.map_cons, List.map_cons, PyData.eqvAll, eqv_row, eqvAll_rows xs ys]
    by_cases e1 : x = y <;> by_cases e2 : xs = ys <;> simp [e1, e2]
theorem eqv_rows (xs ys : List Row) : PyData.eqv (dL dRow xs) (dL dRow ys) = decide (xs = ys) := by
  unfold dL
  rw [PyData.eqv]
  exact eqvAll_rows xs ys
theorem canLay_rows : ∀ xs : List Row, PyData.canLayAll0 (xs.map dRow) = true
  | [] => rfl
  | x :: xs => by
    rw [List.map_cons, PyData.canLayAll0, canLay_rows xs]
    simp [dRow, PyData.canLay0, PyData.canLayAll0]
theorem depth_rows : ∀ xs : List Row, PyData.depthAll (xs.map dRow) ≤ 1
  | [] => by simp [PyData.depthAll]
  | x :: xs => by
    rw [List.map_cons, PyData.depthAll]
    have := depth_rows xs
    have h : (dRow x).depth ≤ 1 := by simp [dRow, PyData.depth, PyData.depthAll]
    omega
theorem shaped_rows (xs : List Row) : SeqAt.shaped (dL dRow xs) = true := by
  unfold SeqAt.shaped dL
  rw [PyData.canLay0, canLay_rows, PyData.depth]
  have := depth_rows xs
  simp
  omega
end Rw
namespace Rw
open PySem L2
theorem rows_valid {rs : List Row} (h : ∀ r ∈ rs, RowOk r) : Valid rs := fun r hr => (h r hr).2.2.2.1
def spPlain : Sp := fun vs H Q _ => ∃ (F : Hp) (v : V) (rs : List Row), vs = [v] ∧ Same F H ∧ (kL kRow).is F v rs ∧ RowsOk rs ∧ RetL M0 F H kRow (Fewest rs) Q
/-- of two sets: which points are told -/
structure Of2 (one other : List Row) (φ : Prop → Prop → Prop) (out : List Row) : Prop where
  can : Canon out
  mem : ∀ p, mem out p ↔ φ (mem one p) (mem other p)
  len : out.length ≤ one.length + other.length
def sp2 (φ : Prop → Prop → Prop) : Sp := fun vs H Q _ => ∃ (F : Hp) (v u : V) (one other : List Row), vs = [v, u] ∧ Same F H ∧ (kL kRow).is F v one ∧ (kL kRow).is F u other ∧ RowsOk one ∧ RowsOk other ∧ RetL M0 F H kRow (Of2 one other φ) Q
abbrev fOr : Prop → Prop → Prop := fun a b => a ∨ b
abbrev fAnd : Prop → Prop → Prop := fun a b => a ∧ b
abbrev fLess : Prop → Prop → Prop := fun a b => a ∧ ¬ b
def spByMany : Sp := fun vs H Q _ => ∃ (F : Hp) (v : V) (sets : List (List Row)) (least : Int), vs = [v, .int least] ∧ Same F H ∧ (kL (kL kRow)).is F v sets ∧ (∀ rs ∈ sets, RowsOk rs) ∧ sets.length ≤ 100 ∧ 1 ≤ least ∧ least ≤ sets.length ∧ RetL M0 F H kRow (Held sets least) Q
def fore (rs : List Row) : List Row := rs.map fun r => (r.1, 1, r.2.2)
def spGaps : Sp := fun vs H Q _ => ∃ (F : Hp) (v : V) (rs : List Row), vs = [v] ∧ Same F H ∧ (kL kRow).is F v rs ∧ RowsOk rs ∧ RetL M0 F H kRow (Without (fore rs) rs) Q
def spWithin : Sp := fun vs H Q _ => ∃ (F : Hp) (v u : V) (one other : List Row), vs = [v, u] ∧ Same F H ∧ (kL kRow).is F v one ∧ (kL kRow).is F u other ∧ RowsOk one ∧ RowsOk other ∧
  ∀ (b : Bool) (F' H' : Hp), Ext M0 F H F' H' → (b = true ↔ ∀ p, mem one p → mem other p) → Q (.bl b) H'
/-- up to where there is no gap -/
structure Whole (rs : List Row) (h z : Int) : Prop where
  nn : 0 ≤ z
  all : ∀ n, 1 ≤ n → n ≤ z → mem rs (h, n)
  stop : ¬ mem rs (h, z + 1)
def spWholeTo : Sp := fun vs H Q _ => ∃ (F : Hp) (v : V) (rs : List Row) (h : Int), vs = [v, .int h] ∧ Same F H ∧ (kL kRow).is F v rs ∧ RowsOk rs ∧ 0 ≤ h ∧ h ≤ 7 ∧ ∀ (z : Int) (F' H' : Hp), Ext M0 F H F' H' → Whole rs h z → Q (.int z) H'
theorem ext_of_same {F H H' : Hp} (s : Same F H) (t : Same H H') : Ext M0 F H F H' :=
  ⟨Same.refl F, s.trans t, fun b o h _ => t b o h, fun b h e => h (t.free e), fun _ _ => rfl⟩
section
variable {P : Program} {w : World} {K : PySem.W.Frag} {mg : Str → Option Value} {base : Heap}
abbrev CalCheck (P : Program) (w : World) (K : PySem.W.Frag) (mg : Str → Option Value) (base : Heap) := Cal P w K mg base 5 "check_rows" ["rows"] spCheckRows
theorem ok_plain {f : Addr} {fd : FuncData} (F0 : Fun K "plain" "plain" s_plain f fd) (CC : CalCheck P w K mg base) (CF : Cal P w K mg base 3 "fewest" ["rows"] spFewest) : FnOk P w K mg base CX0 6 f fd ["rows"] spPlain := by
  obtain ⟨f1, fd1, G1, g1, kp1, b1⟩ := CC
  obtain ⟨f2, fd2, G2, g2, kp2, b2⟩ := CF
  refine F0.ok sc_plain (fun vs H Q E h => ?_) (fun cdv A outer s H vs Q E hr h => ?_)
  · obtain ⟨F, v, rs, rfl, _⟩ := h
    rfl
  · obtain ⟨F, v, rs, rfl, fh, hv, hok, q⟩ := h
    have hr2 : Room 3 _ := hr.mono (by decide)
    refine ⟨_, pss_cons (ps_expr (pe_call G1 hr (by rfl) g1 kp1 b1 .nil pass0 (pa_cons (pv 0) pa_nil))) (pss_one (ps_ret (pe_call G2 hr2 (by rfl) g2 kp2 b2 .nil pass0 (pa_cons (pv 0) pa_nil)))), ?_⟩
    refine ⟨_, rfl, v, rs, rfl, (kL kRow).mono fh hv, hok, fun H1 s1 => ?_⟩
    have X := ext_of_same fh s1
    have hl := hok.1
    exact ⟨_, rfl, F, v, rs, rfl, X.fh, hv, rows_valid hok.2, by omega, RetL.step X q fun _ h => h⟩
theorem two_sets {F' : Hp} {v u : V} {one other : List Row} (h1 : (kL kRow).is F' v one) (h2 : (kL kRow).is F' u other) : Paired ((kL kRow).is F') [v, u] [one, other] := .cons h1 (.cons h2 .nil)
theorem ok_joined {f : Addr} {fd : FuncData} (F0 : Fun K "joined" "joined" s_joined f fd) (CC : CalCheck P w K mg base) (CH : Cal P w K mg base 4 "held_by_many" ["sets", "least"] spHeld) : FnOk P w K mg base CX0 6 f fd ["one", "other"] (sp2 fOr) := by
  obtain ⟨f1, fd1, G1, g1, kp1, b1⟩ := CC
  obtain ⟨f2, fd2, G2, g2, kp2, b2⟩ := CH
  refine F0.ok sc_joined (fun vs H Q E h => ?_) (fun cdv A outer s H vs Q E hr h => ?_)
  · obtain ⟨F, v, u, one, other, rfl, _⟩ := h
    rfl
  · obtain ⟨F, v, u, one, other, rfl, fh, hv, hu, ok1, ok2, q⟩ := h
    have hr2 : Room 4 _ := hr.mono (by decide)
    refine ⟨_, pss_cons (ps_expr (pe_call G1 hr (by rfl) g1 kp1 b1 .nil pass0 (pa_cons (pv 0) pa_nil))) (pss_cons (ps_expr (pe_call G1 hr (by rfl) g1 kp1 b1 .nil pass0 (pa_cons (pv 1) pa_nil)))
      (pss_one (ps_ret (pe_call G2 hr2 (by rfl) g2 kp2 b2 .nil pass0 (pa_cons (pe_lst (pa_cons (pv 0) (pa_cons (pv 1) pa_nil))) (pa_cons pe_int pa_nil)))))), ?_⟩
    refine ⟨_, rfl, v, one, rfl, (kL kRow).mono fh hv, ok1, fun H1 s1 => ?_⟩
    refine ⟨_, rfl, u, other, rfl, (kL kRow).mono (fh.trans s1) hu, ok2, fun H2 s2 => ?_⟩
    have X := ext_of_same fh (s1.trans s2)
    refine ⟨_, rfl, _, rfl, (by show 2 ≤ sizeLine; decide), fun p np => ?_⟩
    have X2 := X.lay (o := .lst [v, u]) np
    have l1 := ok1.1
    have l2 := ok2.1
    refine ⟨_, .ref p, [one, other], 1, rfl, X2.fh, kL_new (k := kL kRow) (X.ffree np) (two_sets hv hu), fun rs h => ?_, ?_, by decide, RetL.step X2 q fun out t => ⟨t.can, fun p => ?_, t.len⟩⟩
    · rcases List.mem_cons.mp h with e | h
      · rw [e]; exact rows_valid ok1.2
      · rw [List.mem_singleton.mp h]; exact rows_valid ok2.2
    · show one.length + (other.length + 0) ≤ _; omega
    · rw [t.mem p]
      show 1 ≤ ind (mem one p) + (ind (mem other p) + 0) ↔ mem one p ∨ mem other p
      rcases ind_or (mem one p) with ⟨a, ea⟩ | ⟨a, ea⟩ <;> rcases ind_or (mem other p) with ⟨b, eb⟩ | ⟨b, eb⟩ <;> rw [ea, eb] <;> simp [a, b]
theorem ok_common {f : Addr} {fd : FuncData} (F0 : Fun K "common" "common" s_common f fd) (CC : CalCheck P w K mg base) (CH : Cal P w K mg base 4 "held_by_many" ["sets", "least"] spHeld) : FnOk P w K mg base CX0 6 f fd ["one", "other"] (sp2 fAnd) := by
  obtain ⟨f1, fd1, G1, g1, kp1, b1⟩ := CC
  obtain ⟨f2, fd2, G2, g2, kp2, b2⟩ := CH
  refine F0.ok sc_common (fun vs H Q E h => ?_) (fun cdv A outer s H vs Q E hr h => ?_)
  · obtain ⟨F, v, u, one, other, rfl, _⟩ := h
    rfl
  · obtain ⟨F, v, u, one, other, rfl, fh, hv, hu, ok1, ok2, q⟩ := h
    have hr2 : Room 4 _ := hr.mono (by decide)
    refine ⟨_, pss_cons (ps_expr (pe_call G1 hr (by rfl) g1 kp1 b1 .nil pass0 (pa_cons (pv 0) pa_nil))) (pss_cons (ps_expr (pe_call G1 hr (by rfl) g1 kp1 b1 .nil pass0 (pa_cons (pv 1) pa_nil)))
      (pss_one (ps_ret (pe_call G2 hr2 (by rfl) g2 kp2 b2 .nil pass0 (pa_cons (pe_lst (pa_cons (pv 0) (pa_cons (pv 1) pa_nil))) (pa_cons pe_int pa_nil)))))), ?_⟩
    refine ⟨_, rfl, v, one, rfl, (kL kRow).mono fh hv, ok1, fun H1 s1 => ?_⟩
    refine ⟨_, rfl, u, other, rfl, (kL kRow).mono (fh.trans s1) hu, ok2, fun H2 s2 => ?_⟩
    have X := ext_of_same fh (s1.trans s2)
    refine ⟨_, rfl, _, rfl, (by show 2 ≤ sizeLine; decide), fun p np => ?_⟩
    have X2 := X.lay (o := .lst [v, u]) np
    have l1 := ok1.1
    have l2 := ok2.1
    refine ⟨_, .ref p, [one, other], 2, rfl, X2.fh, kL_new (k := kL kRow) (X.ffree np) (two_sets hv hu), fun rs h => ?_, ?_, by decide, RetL.step X2 q fun out t => ⟨t.can, fun p => ?_, t.len⟩⟩
    · rcases List.mem_cons.mp h with e | h
      · rw [e]; exact rows_valid ok1.2
      · rw [List.mem_singleton.mp h]; exact rows_valid ok2.2
    · show one.length + (other.length + 0) ≤ _; omega
    · rw [t.mem p]
      show 2 ≤ ind (mem one p) + (ind (mem other p) + 0) ↔ mem one p ∧ mem other p
      rcases ind_or (mem one p) with ⟨a, ea⟩ | ⟨a, ea⟩ <;> rcases ind_or (mem other p) with ⟨b, eb⟩ | ⟨b, eb⟩ <;> rw [ea, eb] <;> simp [a, b]
theorem ok_less {f : Addr} {fd : FuncData} (F0 : Fun K "less" "less" s_less f fd) (CC : CalCheck P w K mg base) (CW : Cal P w K mg base 4 "without" ["one", "other"] spWithout) : FnOk P w K mg base CX0 6 f fd ["one", "other"] (sp2 fLess) := by
  obtain ⟨f1, fd1, G1, g1, kp1, b1⟩ := CC
  obtain ⟨f2, fd2, G2, g2, kp2, b2⟩ := CW
  refine F0.ok sc_less (fun vs H Q E h => ?_) (fun cdv A outer s H vs Q E hr h => ?_)
  · obtain ⟨F, v, u, one, other, rfl, _⟩ := h
    rfl
  · obtain ⟨F, v, u, one, other, rfl, fh, hv, hu, ok1, ok2, q⟩ := h
    have hr2 : Room 4 _ := hr.mono (by decide)
    refine ⟨_, pss_cons (ps_expr (pe_call G1 hr (by rfl) g1 kp1 b1 .nil pass0 (pa_cons (pv 0) pa_nil))) (pss_cons (ps_expr (pe_call G1 hr (by rfl) g1 kp1 b1 .nil pass0 (pa_cons (pv 1) pa_nil)))
      (pss_one (ps_ret (pe_call G2 hr2 (by rfl) g2 kp2 b2 .nil pass0 (pa_cons (pv 0) (pa_cons (pv 1) pa_nil)))))), ?_⟩
    refine ⟨_, rfl, v, one, rfl, (kL kRow).mono fh hv, ok1, fun H1 s1 => ?_⟩
    refine ⟨_, rfl, u, other, rfl, (kL kRow).mono (fh.trans s1) hu, ok2, fun H2 s2 => ?_⟩
    have X := ext_of_same fh (s1.trans s2)
    have l1 := ok1.1
    have l2 := ok2.1
    exact ⟨_, rfl, _, rfl, F, v, u, one, other, rfl, X.fh, hv, hu, rows_valid ok1.2, rows_valid ok2.2, by omega, by omega, RetL.step X q fun out t => ⟨t.can, t.mem, t.len⟩⟩
theorem ok_within {f : Addr} {fd : FuncData} (F0 : Fun K "within" "within" s_within f fd) (CC : CalCheck P w K mg base) (CW : Cal P w K mg base 4 "without" ["one", "other"] spWithout) : FnOk P w K mg base CX0 6 f fd ["one", "other"] spWithin := by
  obtain ⟨f1, fd1, G1, g1, kp1, b1⟩ := CC
  obtain ⟨f2, fd2, G2, g2, kp2, b2⟩ := CW
  refine F0.ok sc_within (fun vs H Q E h => ?_) (fun cdv A outer s H vs Q E hr h => ?_)
  · obtain ⟨F, v, u, one, other, rfl, _⟩ := h
    rfl
  · obtain ⟨F, v, u, one, other, rfl, fh, hv, hu, ok1, ok2, q⟩ := h
    have hr2 : Room 4 _ := hr.mono (by decide)
    refine ⟨_, pss_cons (ps_expr (pe_call G1 hr (by rfl) g1 kp1 b1 .nil pass0 (pa_cons (pv 0) pa_nil))) (pss_cons (ps_expr (pe_call G1 hr (by rfl) g1 kp1 b1 .nil pass0 (pa_cons (pv 1) pa_nil)))
      (pss_one (ps_ret (pe_cmpR (op_eqD hr.units) (pe_call G2 hr2 (by rfl) g2 kp2 b2 .nil pass0 (pa_cons (pv 0) (pa_cons (pv 1) pa_nil))) (pe_lst pa_nil) (nomark _))))), ?_⟩
    refine ⟨_, rfl, v, one, rfl, (kL kRow).mono fh hv, ok1, fun H1 s1 => ?_⟩
    refine ⟨_, rfl, u, other, rfl, (kL kRow).mono (fh.trans s1) hu, ok2, fun H2 s2 => ?_⟩
    have X := ext_of_same fh (s1.trans s2)
    have l1 := ok1.1
    have l2 := ok2.1
    refine ⟨_, rfl, _, rfl, F, v, u, one, other, rfl, X.fh, hv, hu, rows_valid ok1.2, rows_valid ok2.2, by omega, by omega, fun F3 H3 a xs out X3 na fa ha hout t => ?_⟩
    refine ⟨Nat.zero_le _, fun p np => ?_⟩
    have X4 := X3.frz na fa ha
    have s4 : Same (upd F3 a (.lst xs)) (upd H3 p (.lst [])) := X4.fh.trans (same_upd np)
    refine ⟨dL dRow out, dL dRow [], (enc_L enc_row).dp s4 (kL_new fa hout), (enc_L enc_row).dp (k := kL kRow) (Same.refl _) ⟨p, [], rfl, upd_same, .nil⟩, shaped_rows _, shaped_rows _, ?_⟩
    rw [eqv_rows]
    refine q _ F3 _ (X.trans (X3.tmp np)) ?_
    rw [decide_eq_true_eq]
    constructor
    · intro e p hp
      exact Classical.byContradiction fun z => by
        have := (t.mem p).mpr ⟨hp, z⟩
        rw [e] at this
        exact mem_nil this
    · intro h
      cases out with
      | nil => rfl
      | cons r rest =>
        have m := t.can.first List.mem_cons_self
        have := (t.mem _).mp m
        exact absurd (h _ this.1) this.2
end
end Rw
namespace Rw
open PySem L2
theorem total_le {n : Nat} : ∀ {sets : List (List Row)}, (∀ rs ∈ sets, rs.length ≤ n) → total sets ≤ n * sets.length
  | [], _ => Nat.zero_le _
  | rs :: sets, h => by
    have h1 := h rs List.mem_cons_self
    have h2 := total_le (sets := sets) fun x hx => h x (List.mem_cons_of_mem _ hx)
    show rs.length + total sets ≤ n * (sets.length + 1)
    rw [Nat.mul_add]; omega
section
variable {P : Program} {w : World} {K : PySem.W.Frag} {mg : Str → Option Value} {base : Heap}
theorem ok_by_many {f : Addr} {fd : FuncData} (F0 : Fun K "by_many" "by_many" s_by_many f fd) (T : TxA mg) (CC : CalCheck P w K mg base) (CH : Cal P w K mg base 4 "held_by_many" ["sets", "least"] spHeld) : FnOk P w K mg base CX0 6 f fd ["sets", "least"] spByMany := by
  obtain ⟨f1, fd1, G1, g1, kp1, b1⟩ := CC
  obtain ⟨f2, fd2, G2, g2, kp2, b2⟩ := CH
  refine F0.ok sc_by_many (fun vs H Q E h => ?_) (fun cdv A outer s H vs Q E hr h => ?_)
  · obtain ⟨F, v, sets, least, rfl, _⟩ := h
    rfl
  · obtain ⟨F, v, sets, least, rfl, fh, ⟨a, xs, rfl, ha, hp⟩, hok, hl, h1, h2, q⟩ := h
    have hr2 : Room 4 _ := hr.mono (by decide)
    refine ⟨_, pss_cons (ps_for PassesOwn.never rfl (pi_list (pv 0)) (pg_name (i := 2) sc_by_many.nd rfl (.inl rfl)) (pss_one (ps_expr (pe_call G1 hr (by rfl) g1 kp1 b1 .nil pass0 (pa_cons (pv 2) pa_nil)))))
      (pss_cons (ps_if (pt_not (pt_chain op_le op_le pe_int (pv 1) (pe_callB call_len (by rfl) T.len PySem.boot_len (pa_cons (pv 0) pa_nil)))) (pss_one ps_never) pss_nil)
      (pss_one (ps_ret (pe_call G2 hr2 (by rfl) g2 kp2 b2 .nil pass0 (pa_cons (pv 0) (pa_cons (pv 1) pa_nil)))))), ?_⟩
    refine ⟨_, rfl, a, rfl, ⟨xs, SqL.of (fh _ _ ha)⟩, for_list (K := K) (a := a) (xs := xs) (fun i σ H' => ∃ y, σ = [some (.ref a), some (.int least), y] ∧ Same H H') ⟨none, rfl, Same.refl _⟩ (fun i σ H' _ ⟨_, _, s1⟩ => SqL.of (s1 _ _ (fh _ _ ha))) ?_ ?_⟩
    · rintro i x σ H1 hi ⟨y, rfl, s1⟩
      obtain ⟨rs, hri, hrs⟩ := pr_get hp hi
      refine ⟨_, rfl, x, rs, rfl, (kL kRow).mono (fh.trans s1) hrs, hok rs (List.mem_of_getElem? hri), fun H2 s2 => ?_⟩
      exact ⟨_, rfl, s1.trans s2⟩
    · rintro σ H1 ⟨y, rfl, s1⟩
      have X := ext_of_same fh s1
      have el : (xs.length : Int) = sets.length := by rw [pr_len hp]
      refine ⟨_, rfl, _, _, rfl, rfl, _, rfl, ?_⟩
      rw [decide_eq_true h1]
      refine iteT ⟨_, rfl, _, xs.length, rfl, .inl ⟨_, SqL.of (s1 _ _ (fh _ _ ha)), rfl⟩, _, _, rfl, rfl, _, rfl, ?_⟩
      rw [decide_eq_true (show least ≤ (xs.length : Int) by omega)]
      refine iteF ⟨_, rfl, _, rfl, F, .ref a, sets, least, rfl, X.fh, ⟨a, xs, rfl, ha, hp⟩, fun rs h => rows_valid (hok rs h).2, ?_, by omega, RetL.step X q fun _ h => h⟩
      have := total_le (n := 200) (sets := sets) fun rs h => (hok rs h).1
      have : 200 * sets.length ≤ 200 * 100 := Nat.mul_le_mul_left _ hl
      omega
theorem ok_gaps {f : Addr} {fd : FuncData} (F0 : Fun K "gaps" "gaps" s_gaps f fd) (CC : CalCheck P w K mg base) (CW : Cal P w K mg base 4 "without" ["one", "other"] spWithout) : FnOk P w K mg base CX0 6 f fd ["rows"] spGaps := by
  obtain ⟨f1, fd1, G1, g1, kp1, b1⟩ := CC
  obtain ⟨f2, fd2, G2, g2, kp2, b2⟩ := CW
  refine F0.ok sc_gaps (fun vs H Q E h => ?_) (fun cdv A outer s H vs Q E hr h => ?_)
  · obtain ⟨F, v, rs, rfl, _⟩ := h
    rfl
  · obtain ⟨F, v, rs, rfl, fh, ⟨a, xs, rfl, ha, hp⟩, hok, q⟩ := h
    have hr2 : Room 4 _ := hr.mono (by decide)
    refine ⟨_, pss_cons (ps_expr (pe_call G1 hr (by rfl) g1 kp1 b1 .nil pass0 (pa_cons (pv 0) pa_nil)))
      (pss_one (ps_ret (pe_call G2 hr2 (by rfl) g2 kp2 b2 .nil pass0 (pa_cons (pe_lc (own := [("house", 1), ("_", 2), ("last", 3)]) (g := gTup K 3 (gCons (gName 1) (gCons (gName 2) (gCons (gName 3) gNil)))) (tt := tYes) (by rfl) sc_gaps.nd (pi_list (pv 0))
        (blkOk_by (own := [("house", 1), ("_", 2), ("last", 3)]) (N := ["rows", "house", "_", "last"]) (sc := defScope s_gaps) (by decide +kernel))
        (fun _ _ _ _ _ => pg_tup (by rfl) (pgs_cons (pg_name (i := 1) sc_gaps.nd rfl (Or.inl rfl)) (pgs_cons (pg_name (i := 2) sc_gaps.nd rfl (Or.inl rfl)) (pgs_cons (pg_name (i := 3) sc_gaps.nd rfl (Or.inl rfl)) pgs_nil)))) (fun _ _ _ _ _ => pts_nil)
        (fun _ _ _ _ _ => pe_tup (pa_cons (pv 1) (pa_cons pe_int (pa_cons (pv 3) pa_nil))))) (pa_cons (pv 0) pa_nil))))), ?_⟩
    refine ⟨_, rfl, .ref a, rs, rfl, (kL kRow).mono fh ⟨a, xs, rfl, ha, hp⟩, hok, fun H1 s1 => ?_⟩
    have X1 := ext_of_same fh s1
    refine ⟨_, rfl, a, rfl, ⟨_, SqL.of (X1.fh _ _ ha)⟩, fun D nD => ?_⟩
    have HD : H D = none := X1.free nD
    refine it_by (walk_list (K := K) (a := a) (xs := xs)) (fun i H' => ∃ F' acc, Ext M0 F H F' H' ∧ H' D = some (.lst acc) ∧ F' D = none ∧ Paired (kRow.is F') acc (fore (rs.take i)))
      ⟨F, [], X1.tmp nD, upd_same, X1.ffree nD, .nil⟩ (fun i H' _ ⟨_, _, z, _⟩ => SqL.of (z.fh _ _ (z.ff _ _ ha))) ?_ ?_
    · rintro i x H2 _ hi ⟨F', acc, X2, hD, fD, hacc⟩ ⟨rfl, hx⟩
      obtain ⟨r, hri, tr, rfl, htr⟩ := pr_get hp hx
      refine ⟨tr, _, rfl, SqT.of (X2.fh _ _ (X2.ff _ _ htr)), rfl, _, _, rfl, _, _, rfl, _, _, rfl, rfl, rfl, _, rfl, _, rfl, (by show 3 ≤ sizeLine; decide), fun t nt => ?_⟩
      have Dt : D ≠ t := ne_of_none hD nt
      have la : acc.length ≤ 200 := by
        have e : (fore (rs.take i)).length = (rs.take i).length := List.length_map ..
        rw [pr_len hacc, e]
        have h1 := List.length_take_le' i rs
        have := hok.1
        omega
      refine ⟨acc, by rw [upd_ne Dt]; exact hD, by rw [sizeLine_eq]; omega, ?_⟩
      have fD2 : upd F' t (.tup [.int r.1, .int 1, .int r.2.2]) D = none := by rw [upd_ne Dt]; exact fD
      have sm : Same F' (upd F' t (.tup [.int r.1, .int 1, .int r.2.2])) := same_upd (X2.ffree nt)
      refine ⟨upd F' t (.tup [.int r.1, .int 1, .int r.2.2]), acc ++ [.ref t], (X2.lay nt).put (.inl HD) fD2, upd_same, fD2, ?_⟩
      have eo : fore (rs.take (i + 1)) = fore (rs.take i) ++ [(r.1, 1, r.2.2)] := by rw [List.take_add_one, hri]; exact List.map_append ..
      rw [eo]
      exact pr_snoc (pr_mono (fun _ _ z => kRow.mono sm z) hacc) ⟨t, rfl, upd_same⟩
    · rintro H2 ⟨F', acc, X2, hD, fD, hacc⟩
      rw [pr_len hp, List.take_length] at hacc
      have X3 := X2.frz HD fD hD
      have e : (fore rs).length = rs.length := List.length_map ..
      have hl := hok.1
      refine ⟨_, rfl, upd F' D (.lst acc), .ref D, .ref a, fore rs, rs, rfl, X3.fh, kL_new fD hacc, (kL kRow).mono X3.ff ⟨a, xs, rfl, ha, hp⟩, fun r hr => ?_, rows_valid hok.2, by omega, by omega, RetL.step X3 q fun _ h => h⟩
      obtain ⟨r', hr', rfl⟩ := List.mem_map.mp hr
      obtain ⟨_, _, h3, h4, _⟩ := hok.2 r' hr'
      show (1 : Int) ≤ r'.2.2
      omega
def spWholeIn : Sp := fun vs H Q _ => ∃ (F : Hp) (v : V) (rs : List Row) (h : Int), vs = [v, .int h] ∧ Same F H ∧ (kL kRow).is F v rs ∧ Valid rs ∧ (∀ r ∈ rs, 1 ≤ r.2.1) ∧ rs.length ≤ 100000 ∧ ∀ (z : Int) (F' H' : Hp), Ext M0 F H F' H' → Whole rs h z → Q (.int z) H'
theorem ok_whole_in {f : Addr} {fd : FuncData} (F0 : Fun K "whole_in" "whole_in" s_whole_in f fd) (CF : Cal P w K mg base 3 "fewest" ["rows"] spFewest) :
    FnOk P w K mg base CX0 4 f fd ["rows", "house"] spWholeIn := by
  obtain ⟨f3, fd3, G3, g3, kp3, b3⟩ := CF
  refine F0.ok sc_whole_in (fun vs H Q E h => ?_) (fun cdv A outer s H vs Q E hr h => ?_)
  · obtain ⟨F, v, rs, h, rfl, _⟩ := h
    rfl
  · obtain ⟨F, v, rs, h, rfl, fh, hv, hva, h1, hl, q⟩ := h
    refine ⟨_, pss_cons (ps_for PassesOwn.never rfl (pi_list (pe_call G3 hr (by rfl) g3 kp3 b3 .nil pass0 (pa_cons (pv 0) pa_nil)))
          (pg_tup rfl (pgs_cons (pg_name (i := 2) sc_whole_in.nd rfl (.inl rfl)) (pgs_cons (pg_name (i := 3) sc_whole_in.nd rfl (.inl rfl)) (pgs_cons (pg_name (i := 4) sc_whole_in.nd rfl (.inl rfl)) pgs_nil))))
          (pss_one (ps_if (PW.pt (pw_and (pt_cmpR op_eq (pv 2) (pv 1) (nomark _)) (pw_and1 (pt_cmpR op_eq (pv 3) pe_int (nomark _))))) (pss_one (ps_ret (pv 4))) pss_nil)))
      (pss_one (ps_ret pe_int)), ?_⟩
    have X1 : Ext M0 F H F H := Ext.refl fh
    refine ⟨_, rfl, F, v, rs, rfl, X1.fh, hv, hva, hl, fun F2 H2 a xs out X2 na fa ha hout fw => ?_⟩
    have X := X1.trans X2
    refine ⟨a, rfl, ⟨xs, SqL.of ha⟩, for_list (K := K) (a := a) (xs := xs) (fun i σ H' => ∃ x y z, σ = [some v, some (.int h), x, y, z] ∧ H' = H2 ∧ ∀ r ∈ out.take i, ¬ (r.1 = h ∧ r.2.1 = 1)) ⟨none, none, none, rfl, rfl, fun r hr => absurd hr (by simp)⟩ (fun i σ H' _ ⟨_, _, _, _, e, _⟩ => by rw [e]; exact SqL.of ha) ?_ ?_⟩
    · rintro i x σ H3 hi ⟨y2, y3, y4, rfl, rfl, hno⟩
      obtain ⟨r, hri, tr, rfl, htr⟩ := pr_get hout hi
      have hrm : r ∈ out := List.mem_of_getElem? hri
      refine ⟨tr, _, rfl, SqT.of (X2.fh _ _ htr), rfl, _, _, rfl, _, _, rfl, _, _, rfl, rfl, ?_⟩
      have step : ¬ (r.1 = h ∧ r.2.1 = 1) → ∀ s ∈ out.take (i + 1), ¬ (s.1 = h ∧ s.2.1 = 1) := fun n s hs => by
        rw [List.take_add_one, hri] at hs
        rcases List.mem_append.mp hs with hs | hs
        · exact hno s hs
        · rw [List.mem_singleton.mp hs]; exact n
      refine ⟨_, rfl, _, rfl, rfl, _, rfl, ?_⟩
      by_cases e1 : r.1 = h
      · rw [decide_eq_true (show V.int r.1 = V.int h by rw [e1])]
        refine iteT ⟨_, rfl, rfl, _, rfl, ?_⟩
        by_cases e2 : r.2.1 = 1
        · rw [decide_eq_true (show V.int r.2.1 = V.int 1 by rw [e2])]
          have o := fw.can.ok r hrm
          refine iteT ⟨_, rfl, q r.2.2 F2 _ X ⟨by omega, fun n z1 z2 => (fw.mem _).mp ⟨r, hrm, e1, by rw [e2]; exact z1, z2⟩, fun m => ?_⟩⟩
          have := fw.can.gap hrm
          unfold endP at this
          rw [e1] at this
          exact this ((fw.mem _).mpr m)
        · rw [decide_eq_false (show ¬ V.int r.2.1 = V.int 1 from fun z => e2 (V.int.inj z))]
          exact iteF ⟨_, _, _, rfl, rfl, step fun z => e2 z.2⟩
      · rw [decide_eq_false (show ¬ V.int r.1 = V.int h from fun z => e1 (V.int.inj z))]
        exact iteF (iteF ⟨_, _, _, rfl, rfl, step fun z => e1 z.1⟩)
    · rintro σ H3 ⟨y2, y3, y4, rfl, rfl, hno⟩
      rw [pr_len hout, List.take_length] at hno
      refine q 0 F2 _ X ⟨Int.le_refl _, fun n z1 z2 => by omega, fun m => ?_⟩
      obtain ⟨r, hrm, i1, i2, i3⟩ := (fw.mem _).mpr m
      simp only at i1 i2 i3
      obtain ⟨r', hr', j1, j2, j3⟩ := (fw.mem _).mp (fw.can.first hrm)
      have b := h1 r' hr'
      simp only at j1 j2 j3
      exact hno r hrm ⟨i1, by omega⟩
theorem ok_whole_to {f : Addr} {fd : FuncData} (F0 : Fun K "whole_to" "whole_to" s_whole_to f fd) (CC : CalCheck P w K mg base) (CH : Cal P w K mg base 3 "check_house" ["house"] spCheckHouse) (CW : Cal P w K mg base 4 "whole_in" ["rows", "house"] spWholeIn) :
    FnOk P w K mg base CX0 6 f fd ["rows", "house"] spWholeTo := by
  obtain ⟨f1, fd1, G1, g1, kp1, b1⟩ := CC
  obtain ⟨f2, fd2, G2, g2, kp2, b2⟩ := CH
  obtain ⟨f3, fd3, G3, g3, kp3, b3⟩ := CW
  refine F0.ok sc_whole_to (fun vs H Q E h => ?_) (fun cdv A outer s H vs Q E hr h => ?_)
  · obtain ⟨F, v, rs, h, rfl, _⟩ := h
    rfl
  · obtain ⟨F, v, rs, h, rfl, fh, hv, hok, h0, h7, q⟩ := h
    have hr3 : Room 3 _ := hr.mono (by decide)
    have hr4 : Room 4 _ := hr.mono (by decide)
    refine ⟨_, pss_cons (ps_expr (pe_call G1 hr (by rfl) g1 kp1 b1 .nil pass0 (pa_cons (pv 0) pa_nil))) (pss_cons (ps_expr (pe_call G2 hr3 (by rfl) g2 kp2 b2 .nil pass0 (pa_cons (pv 1) pa_nil)))
      (pss_one (ps_ret (pe_call G3 hr4 (by rfl) g3 kp3 b3 .nil pass0 (pa_cons (pv 0) (pa_cons (pv 1) pa_nil)))))), ?_⟩
    refine ⟨_, rfl, v, rs, rfl, (kL kRow).mono fh hv, hok, fun H1 s1 => ?_⟩
    have X1 := ext_of_same fh s1
    have hl := hok.1
    refine ⟨_, rfl, h, rfl, h0, h7, ?_⟩
    exact ⟨_, rfl, _, rfl, F, v, rs, h, rfl, X1.fh, hv, rows_valid hok.2, fun r hr => (hok.2 r hr).2.2.1, by omega, fun z F' H' X2 wh => q z F' H' (X1.trans X2) wh⟩
end
end Rw
namespace Gx
open PySem PySem.Spec PyProof.Rows L2
open Sem (wp)
/-! ### a generator expression whose target is of any form: one turn told as a whole -/
section
variable {prog : Program} {w : World} {A : Around}
/-- what one turn does: the target is stored in the generator's own frame, the element is reckoned -/
def TurnOk (prog : Program) (w : World) (ce : Env) (tg elt : Expr) (fp wr : List Addr) (P F : Nat → Value → Prop) (h0 : Heap) : Prop :=
  ∀ (B : Around) (E' : Value → Shared → Prop) (i : Nat) (v : Value) (s : Shared) (m : Str → Option Value), B.handled = none → P i v → s.heap.Ns ce.locals m →
    (∀ b, b ∈ fp → b ∉ wr → ∀ o, h0.get? b = some o → s.heap.get? b = some o) →
    wpAny (model prog w) B (assign tg ce v) (fun _ t => ∃ h1 k1 m1, t = { s with heap := h1, toks := k1 } ∧ (∀ b o, b ≠ ce.locals → s.heap.get? b = some o → h1.get? b = some o) ∧ h1.Ns ce.locals m1 ∧
      ∀ E2 : Value → Shared → Prop, wpAny (model prog w) B (eval elt ce) (fun y u => F i y ∧ Keeps { s with heap := h1, toks := k1 } u) E2 { s with heap := h1, toks := k1 }) E' s
abbrev yes : Nat → Bool := fun _ => true
theorem passing_yes {n i : Nat} (h : i < n) : (passing yes n i).length = (passing yes n (i + 1)).length + 1 := by
  rw [PySem.passing_true h rfl, List.length_cons]
theorem gx_loop {elt tg iter : Expr} {scope : Scope} {pos : Pos} {I : Addr} {fp wr : List Addr} {n : Nat} {P F : Nat → Value → Prop} {St : Nat → Heap → Prop} {ce : Env} {h0 : Heap}
    (hh : A.handled = none) (W : ∀ B : Around, B.handled = none → Walks prog w B I fp wr n P St)
    (go : ∀ (B : Around) (i : Nat) (v : Value) (s : Shared) (Q : Unit → Shared → Prop) (E' : Value → Shared → Prop), St i s.heap → Q () s → wpAny (model prog w) B (letOwnedTupleGo tg (.ref I) v) Q E' s)
    (hco : ce.scope.isCoroutine = false) (hC : ce.locals ∉ fp) (T : TurnOk prog w ce tg elt fp wr P F h0) :
    ∀ (k i : Nat) (s0 s : Shared) (m : Str → Option Value), n = i + k → St i s.heap → s.heap.Ns ce.locals m → GenSince ce.locals wr s0 s → (∀ b, b ∈ fp → b ∉ wr → ∀ o, h0.get? b = some o → s.heap.get? b = some o) →
      Seg (model prog w) A (fun j a r b => r = .ok .next ∧ (j = 0 ∧ GenSince ce.locals wr a b)) (genProto ce.locals fp wr yes n F) (passing yes n i).length s0
        (.compLoop (.GeneratorExp elt [⟨tg, iter, [], 0⟩] scope pos) 0 (.ref I) .none ce) ((model prog w).den (.compLoop (.GeneratorExp elt [⟨tg, iter, [], 0⟩] scope pos) 0 (.ref I) .none ce)) [] s := by
  have hB : (A.over (.compLoop (.GeneratorExp elt [⟨tg, iter, [], 0⟩] scope pos) 0 (.ref I) .none ce) []).handled = none := hh
  have hCw : ce.locals ∉ wr := fun z => hC ((W A hh).sub _ z)
  intro k
  induction k with
  | zero =>
    intro i s0 s m hk hst hn since keep
    obtain rfl : n = i := by omega
    show Seg _ A _ _ _ s0 _ ((compTurn (.GeneratorExp elt [⟨tg, iter, [], 0⟩] scope pos) 0 (.ref I) .none ce).onRaise (leaving ce)) [] s
    rw [compTurn_gen, Sem.onRaise_eq_wrap]
    refine seg_bind_wrap (wpAny_standAt (seg_bind_wrap ((W _ hB).done s _ _ hst fun h1 t1 k1 => ?_)))
    exact seg_end (.ok .next) ⟨rfl, by rw [passing_end]; rfl, since.step fun b o _ q e => k1 b o q e⟩
  | succ k ih =>
    intro i s0 s m hk hst hn since keep
    have hi : i < n := by omega
    show Seg _ A _ _ _ s0 _ ((compTurn (.GeneratorExp elt [⟨tg, iter, [], 0⟩] scope pos) 0 (.ref I) .none ce).onRaise (leaving ce)) [] s
    rw [compTurn_gen, Sem.onRaise_eq_wrap]
    refine seg_bind_wrap (wpAny_standAt (seg_bind_wrap ((W _ hB).item i s _ _ hi hst fun v h1 t1 hv st1 k1 => ?_)))
    refine seg_bind_wrap (go _ (i + 1) v _ _ _ st1 ?_)
    have n1 : h1.Ns ce.locals m := hn.at' fun o e => k1 _ o hCw e
    have keep1 : ∀ b, b ∈ fp → b ∉ wr → ∀ o, h0.get? b = some o → h1.get? b = some o := fun b q r o e => k1 b o r (keep b q r o e)
    refine seg_bind_wrap (wpAny_mono (T _ _ i v _ m hB hv n1 keep1) (fun _ t ht => ?_) fun _ _ e => e)
    obtain ⟨h2, t2, m2, rfl, k2, n2, ev⟩ := ht
    have st2 : St (i + 1) h2 := (W A hh).frame _ _ _ st1 fun b hb o e => k2 b o (fun z => hC (z ▸ hb)) e
    have keep2 : ∀ b, b ∈ fp → b ∉ wr → ∀ o, h0.get? b = some o → h2.get? b = some o := fun b q r o e => k2 b o (fun z => hC (z ▸ q)) (keep1 b q r o e)
    have since2 : GenSince ce.locals wr s0 { s with heap := h2, toks := t2 } := since.step fun b o z r e => k2 b o z (k1 b o r e)
    refine seg_bind_wrap ?_
    simp only [List.forIn_nil]
    refine wpAny_pure ?_
    simp only [if_true]
    rw [passing_yes hi]
    have hy : ∀ x, yieldOut ce x = yieldValue x := fun x => by simp only [yieldOut, hco, Bool.false_eq_true, if_false]
    simp only [hy]
    rw [Sem.bind_eq_wrap', Sem.bind_eq_wrap', Sem.wrap_wrap, Sem.wrap_wrap]
    refine seg_wrap (wpAny_mono (ev _) (fun y u hu => ?_) fun _ _ e => e)
    obtain ⟨hF, h3, t3, rfl, k3⟩ := hu
    refine seg_at (seg_yield rfl rfl rfl ⟨⟨i, passing_here hi rfl, hF⟩, since2.step fun b o _ _ e => k3 b o e, fun s4 al => ?_⟩)
    refine seg_again rfl (ih (i + 1) s4 s4 m2 (by omega) ((W A hh).frame _ _ _ st2 fun b hb o e => al b (List.mem_cons_of_mem _ hb) o (k3 b o e)) ((n2.keeps k3).at' fun o e => al _ List.mem_cons_self o e) (GenSince.refl _ _ _)
      fun b q r o e => al b (List.mem_cons_of_mem _ q) o (k3 b o (keep2 b q r o e)))
theorem gx_start {elt tg iter : Expr} {scope : Scope} {pos : Pos} {I : Addr} {fp wr : List Addr} {n : Nat} {P F : Nat → Value → Prop} {St : Nat → Heap → Prop} {ce : Env} {h0 : Heap}
    (hh : A.handled = none) (W : ∀ B : Around, B.handled = none → Walks prog w B I fp wr n P St)
    (go : ∀ (B : Around) (i : Nat) (v : Value) (s : Shared) (Q : Unit → Shared → Prop) (E' : Value → Shared → Prop), St i s.heap → Q () s → wpAny (model prog w) B (letOwnedTupleGo tg (.ref I) v) Q E' s)
    (hco : ce.scope.isCoroutine = false) (hC : ce.locals ∉ fp) (T : TurnOk prog w ce tg elt fp wr P F h0) (s0 s : Shared) (m : Str → Option Value) (hst : St 0 s.heap) (hn : s.heap.Ns ce.locals m)
    (since : GenSince ce.locals wr s0 s) (keep : ∀ b, b ∈ fp → b ∉ wr → ∀ o, h0.get? b = some o → s.heap.get? b = some o) :
    Seg (model prog w) A (fun j a r b => r = .ok .next ∧ (j = 0 ∧ GenSince ce.locals wr a b)) (genProto ce.locals fp wr yes n F) (passing yes n 0).length s0
      (.compStart (.GeneratorExp elt [⟨tg, iter, [], 0⟩] scope pos) 0 (.ref I) .none ce) ((model prog w).den (.compStart (.GeneratorExp elt [⟨tg, iter, [], 0⟩] scope pos) 0 (.ref I) .none ce)) [] s := by
  have hB : (A.over (.compStart (.GeneratorExp elt [⟨tg, iter, [], 0⟩] scope pos) 0 (.ref I) .none ce) []).handled = none := hh
  have lp := gx_loop (elt := elt) (iter := iter) (scope := scope) (pos := pos) hh W go hco hC T n 0 s0 s m (by omega) hst hn since keep
  show Seg _ A _ _ _ s0 _ ((compStart (.GeneratorExp elt [⟨tg, iter, [], 0⟩] scope pos) 0 (.ref I) .none ce).onRaise (leaving ce)) [] s
  unfold compStart
  rw [Sem.onRaise_eq_wrap]
  show Seg _ A _ _ _ s0 _ ((ask >>= _).wrap _ _ _ _) [] s
  refine seg_bind_wrap (wpAny_askSetting ?_)
  split
  · exact seg_again rfl lp
  · refine seg_bind_wrap (wpAny_rule ?_)
    show Seg _ A _ _ _ s0 _ ((standAt iter.pos >>= _).wrap _ _ _ _) [] s
    exact seg_bind_wrap (wpAny_standAt (seg_bind_wrap ((W _ hB).self 0 s _ _ hst (seg_again rfl lp))))
end
end Gx
set_option maxHeartbeats 1000000
namespace Gx
open PySem PySem.Spec PyProof.Rows L2 GxR
section
variable {prog : Program} {w : World} {A : Around} {E : Value → Shared → Prop} {s : Shared}
/-- what must be so when the generator is made: its source, its turns, what follows -/
structure Src (prog : Program) (w : World) (A : Around) (env : Env) (scope : Scope) (cl : List (Str × Addr)) (tg elt : Expr) (code : Value) (bi : Addr) (it : Value) (Q : Value → Shared → Prop) (s : Shared) : Prop where
  ex : ∃ (I : Addr) (fp wr : List Addr) (n : Nat) (P F : Nat → Value → Prop) (St : Nat → Heap → Prop), it = .ref I ∧ (∀ B : Around, B.handled = none → Walks prog w B I fp wr n P St) ∧
    (∀ (B : Around) (i : Nat) (v : Value) (t : Shared) (Q' : Unit → Shared → Prop) (E' : Value → Shared → Prop), St i t.heap → Q' () t → wpAny (model prog w) B (letOwnedTupleGo tg (.ref I) v) Q' E' t) ∧
    St 0 s.heap ∧ (∀ b ∈ fp, b < s.heap.objs.size) ∧ s.heap.NoLimit ∧ cStatics ∉ wr ∧
    (∀ h0 : Heap, (∀ b o, s.heap.get? b = some o → h0.get? b = some o) → TurnOk prog w (genEnv scope cl s.heap.objs.size code bi env) tg elt (List.range s.heap.objs.size) wr P F h0) ∧
    ∀ (a : Addr) (h5 : Heap) (tk : Nat) (gs : GenState), gs.bare = true → s.heap.objs.size < a → h5.objs.size = a + 1 → (∀ b o, s.heap.get? b = some o → h5.get? b = some o) →
      WalksS prog w A.in4 a (a :: s.heap.objs.size :: List.range s.heap.objs.size) (s.heap.objs.size :: wr) (GenOnlyQ s.gens.size) (passing yes n 0).length (fun j y => ∃ i, (passing yes n 0)[j]? = some i ∧ F i y)
        (GenAt prog w A.in4 a s.gens.size s.heap.objs.size (List.range s.heap.objs.size) wr yes n F) →
      GenAt prog w A.in4 a s.gens.size s.heap.objs.size (List.range s.heap.objs.size) wr yes n F 0 { s with gens := s.gens.push gs, toks := tk, heap := h5 } → Q (.ref a) { s with gens := s.gens.push gs, toks := tk, heap := h5 }
theorem gx_eval {env : Env} {elt tg iter : Expr} {scope : Scope} {cl : List (Str × Addr)} {pos : Pos} {Q : Value → Shared → Prop} (hh : A.handled = none) (hco : scope.isCoroutine = false) (hclos : closureFor scope env = pure cl)
    (hcell : ∀ y ∈ scope.names, y.2 ≠ .cell) (hd : scope.names.lookup (".0" : Str) = some NameKind.local) (hkind : scope.kind = .function) (hroom : A.depth < recursionLimit)
    (h : wpAny (model prog w) A (eval iter env) (fun xv s1 => wpAny (model prog w) A (pyIter xv) (fun it s2 => s2.heap.NoLimit ∧ wpAny (model prog w) A (genexprCode env pos (env.qual ++ "<genexpr>") scope) (fun code s3 =>
      wpAny (model prog w) A (builtinsFor env.globals env.builtins) (fun bi s4 => Src prog w A env scope cl tg elt code bi it Q s4) E s3) E s2) E s1) E s) (hs : ∀ x, genFold iter env x = pure x) :
    wpAny (model prog w) A (eval (.GeneratorExp elt [⟨tg, iter, [], 0⟩] scope pos) env) Q E s := by
  refine wpAny_GeneratorExp_make hco hclos hcell hd hkind hroom (wpAny_mono h (fun xv s1 q1 => wpAny_mono q1 (fun it s2 q2 => ⟨q2.1, wpAny_mono q2.2 (fun code s3 q3 => wpAny_mono q3 (fun bi s4 q4 => ?_) fun _ _ z => z) fun _ _ z => z⟩) fun _ _ z => z) fun _ _ z => z) hs
  obtain ⟨I, fp, wr, n, P, F, St, rfl, W, go, st0, below, lim, ncs, T, fin⟩ := q4.ex
  have hlt : cStatics < s4.heap.objs.size := let ⟨_, z, _⟩ := lim; z.lt
  intro h1 n1 sb
  have sz : h1.objs.size = s4.heap.objs.size + 1 := by rw [sb.1, Heap.size_push]
  have k1 : ∀ b o, s4.heap.get? b = some o → h1.get? b = some o := fun b o e => sb.extBut b o (Nat.ne_of_lt (Heap.lt_size e)) (Heap.get?_push_of_some _ e)
  have sub : ∀ b ∈ wr, b ∈ List.range s4.heap.objs.size := fun b hb => List.mem_range.mpr (below b ((W A hh).sub b hb))
  have ne1 : h1.objs.size ≠ s4.heap.objs.size := by rw [sz]; exact Nat.succ_ne_self _
  have nm1 : h1.objs.size ∉ List.range s4.heap.objs.size := fun z => by
    have := List.mem_range.mp z
    omega
  have k5 : ∀ b o, s4.heap.get? b = some o → (h1.push { cls := .type "generator", data := .fields #[.int s4.gens.size 0, .str "<genexpr>" (s4.toks + 1), .str (env.qual ++ "<genexpr>") (s4.toks + 1 + 1)] }).get? b = some o := fun b o e => Heap.get?_push_of_some _ (k1 b o e)
  have W4 : ∀ B : Around, B.handled = none → Walks prog w B I (List.range s4.heap.objs.size) wr n P St := fun B hB => (W B hB).mono_fp fun b hb => List.mem_range.mpr (below b hb)
  refine fin _ _ _ _ rfl (by omega) (by rw [Heap.size_push]) k5 (WalksS.genexpQ (A := A.in4) hh _ _ _ _ wr yes n F ne1 nm1 sub hroom (List.mem_range.mpr hlt) (Nat.ne_of_lt hlt) ncs) ?_
  refine ⟨⟨_, _, _, Heap.get?_push_size _ rfl, rfl, rfl, rfl⟩, lim.keeps k5, _, Array.getElem?_push_size .., fun s6 al => ⟨rfl, ?_⟩⟩
  exact gx_start (A := A.in4.in1) hh W4 go hco (fun z => Nat.lt_irrefl _ (List.mem_range.mp z)) (T _ k5) s6 s6 _ ((W4 A hh).frame _ _ _ st0 fun b hb o e => al b (List.mem_cons_of_mem _ hb) o (k5 b o e)) ((n1.push _).at' fun o e => al _ List.mem_cons_self o e) (GenSince.refl _ _ _)
    fun b q _ o e => al b (List.mem_cons_of_mem _ q) o e
end
end Gx
set_option maxHeartbeats 2000000
namespace Gx
open PySem PySem.Spec PyProof.Rows L2 GxR Rw
/-- the generator's own scope: three names, the walked thing at «.0», captured names that the def has -/
structure Sc3 (env : Env) (scope : Scope) (x y z : Str) : Prop where
  kind : scope.kind = .function
  co : scope.isCoroutine = false
  cell : ∀ q ∈ scope.names, q.2 ≠ .cell
  dot : scope.names.lookup (".0" : Str) = some NameKind.local
  lx : scope.names.lookup x = some .local
  ly : scope.names.lookup y = some .local
  lz : scope.names.lookup z = some .local
  free : ∀ q ∈ scope.names, q.2 = .free → ∃ c, env.cells.lookup q.1 = some c
/-- the element, of a row whose three ints the three names hold -/
def EltR (prog : Program) (w : World) (scope : Scope) (x y z : Str) (elt : Expr) (f : Rw.Row → Int) : Prop :=
  ∀ (ce : Env) (B : Around) (E' : Value → Shared → Prop) (r : Rw.Row) (t1 t2 t3 : Tok) (s : Shared) (m : Str → Option Value), ce.scope = scope → s.heap.Ns ce.locals m → m x = some (.int r.1 t1) → m y = some (.int r.2.1 t2) → m z = some (.int r.2.2 t3) →
    wpAny (model prog w) B (eval elt ce) (fun v u => (∃ t, v = .int (f r) t) ∧ Keeps s u) E' s
section
variable {X : Cx} {pins : List (Addr × Obj)} {σ : L2.St} {H : Hp} {s : Shared}
def ReadyR (X : Cx) (pins : List (Addr × Obj)) (σ : L2.St) (H1 : Hp) (P : Addr) (rows : List Rw.Row) (f : Rw.Row → Int) (g : Addr) (s5 : Shared) : Prop :=
  ∃ (fp wr : List Addr) (G : Array GenState → Array GenState → Prop) (F : Nat → Value → Prop) (St : Nat → Shared → Prop), WalksS X.prog X.w X.A.in1 g fp wr G rows.length F St ∧ St 0 s5 ∧ (∀ b ∈ fp, b < s5.heap.objs.size) ∧
    (∀ j v, F j v → ∃ r t, rows[j]? = some r ∧ v = .int (f r) t) ∧ ∀ s', Moved wr G s5 s' → ∃ H2, Tabbed P H1 H2 ∧ Inv X pins σ H2 s'
theorem passing_all (n : Nat) : passing yes n 0 = List.range n := by
  unfold passing
  simp
theorem turn3 {prog : Program} {w : World} {ce : Env} {scope : Scope} {x y z : Str} {p1 p2 p3 pt : Pos} {kt : Nat} {elt : Expr} {f : Rw.Row → Int} {fp wr : List Addr} {its : List Value} {rows : List Rw.Row} {h0 : Heap}
    (hk : ce.scope.kind = .function) (hs : ce.scope = scope) (lx : scope.names.lookup x = some .local) (ly : scope.names.lookup y = some .local) (lz : scope.names.lookup z = some .local) (nxy : x ≠ y) (nxz : x ≠ z) (nyz : y ≠ z)
    (hel : EltR prog w scope x y z elt f)
    (hv : ∀ (i : Nat) (v : Value), its[i]? = some v → ∃ (r : Rw.Row) (t : Addr) (t1 t2 t3 : Tok), rows[i]? = some r ∧ v = .ref t ∧ t ∈ fp ∧ t ∉ wr ∧ IsTup h0 t #[.int r.1 t1, .int r.2.1 t2, .int r.2.2 t3]) :
    TurnOk prog w ce (.Tuple [.Name x p1, .Name y p2, .Name z p3] kt pt) elt fp wr (fun i v => its[i]? = some v) (fun i v => ∃ r t, rows[i]? = some r ∧ v = .int (f r) t) h0 := by
  intro B E' i v s m hB hiv hn keep
  obtain ⟨r, t, t1, t2, t3, hr, rfl, tf, tw, o, ho, hc, n, hd⟩ := hv i v hiv
  have ht : IsTup s.heap t #[.int r.1 t1, .int r.2.1 t2, .int r.2.2 t3] := ⟨o, keep t tf tw o ho, hc, n, hd⟩
  have hp : (ce.scope.kind == .class || (ce.scope.kind == .module && ce.locals != ce.globals)) = false := by rw [hk]; rfl
  have kx : ce.kindOf x = some .local := by show ce.scope.names.lookup x = some .local; rw [hs]; exact lx
  have ky : ce.kindOf y = some .local := by show ce.scope.names.lookup y = some .local; rw [hs]; exact ly
  have kz : ce.kindOf z = some .local := by show ce.scope.names.lookup z = some .local; rw [hs]; exact lz
  have hl : ce.locals < s.heap.objs.size := hn.lt
  refine assign_Tuple_tuple hB ht rfl rfl fun h1 x1 => ?_
  show wpAny (model prog w) B (assignInOrder [assign (.Name x p1) ce, assign (.Name y p2) ce, assign (.Name z p3) ce] [.int r.1 t1, .int r.2.1 t2, .int r.2.2 t3]) _ _ _
  have n1 : h1.Ns ce.locals m := hn.at' fun o e => x1 _ o (Nat.ne_of_lt hl) e
  refine assignInOrder_cons (wpAny_assign_Name (wpAny_storeName_local kx n1 (fun h2 n2 b2 => ?_) hp))
  refine assignInOrder_cons (wpAny_assign_Name (wpAny_storeName_local ky n2 (fun h3 n3 b3 => ?_) hp))
  refine assignInOrder_cons (wpAny_assign_Name (wpAny_storeName_local kz n3 (fun h4 n4 b4 => ?_) hp))
  refine assignInOrder_nil ⟨h4, _, _, rfl, fun b o nb e => ?_, n4, fun E2 => ?_⟩
  · exact b4.extBut b o nb (b3.extBut b o nb (b2.extBut b o nb (x1 b o (Nat.ne_of_lt (Heap.lt_size e)) e)))
  · refine wpAny_mono (hel ce B E2 r t1 t2 t3 _ _ hs n4 ?_ ?_ ?_) (fun u s5 q => ⟨?_, q.2⟩) fun _ _ e => e
    · simp only [if_neg nxz, if_neg nxy, if_pos]
    · simp only [if_neg nyz, if_pos]
    · simp only [if_pos]
    · obtain ⟨tk, e⟩ := q.1
      exact ⟨r, tk, hr, e⟩
end
end Gx
set_option maxHeartbeats 2000000
namespace Gx
open PySem PySem.Spec PyProof.Rows L2 GxR Rw
section
variable {X : Cx} {pins : List (Addr × Obj)} {σ : L2.St} {H : Hp} {s : Shared}
theorem row_at {rows : List Rw.Row} {xs : List V} {its : List Value} {H1 : Hp} {s1 : Shared} (I : Inv X pins σ H1 s1) (hp : Paired (kRow.is H1) xs rows) (rv : Vals xs its) {i : Nat} {v : Value} (h : its[i]? = some v) :
    ∃ (r : Rw.Row) (t : Addr) (t1 t2 t3 : Tok), rows[i]? = some r ∧ v = .ref t ∧ t < s1.heap.objs.size ∧ IsTup s1.heap t #[.int r.1 t1, .int r.2.1 t2, .int r.2.2 t3] := by
  have hl := rv.length
  have hi : i < its.length := by
    rcases Nat.lt_or_ge i its.length with c | c
    · exact c
    · rw [List.getElem?_eq_none c] at h; cases h
  have hx : xs[i]? = some xs[i] := List.getElem?_eq_getElem (by omega)
  obtain ⟨r, hr, t, e, ht⟩ := pr_get hp hx
  obtain ⟨u, hu, ru⟩ := rv.get hx
  rw [h] at hu
  cases hu
  rw [e] at ru
  have ev : v = Value.ref t := ru
  obtain ⟨_, its2, r2, tp⟩ := I.hok _ _ ht
  cases r2 with
  | cons a1 r2 => cases r2 with
    | cons a2 r2 => cases r2 with
      | cons a3 r2 =>
        cases r2
        obtain ⟨t1, rfl⟩ := a1
        obtain ⟨t2, rfl⟩ := a2
        obtain ⟨t3, rfl⟩ := a3
        exact ⟨r, t, t1, t2, t3, hr, ev, tp.lt, tp⟩
theorem gen_rows {c P : Addr} {elt iter : Expr} {x y z : Str} {p1 p2 p3 pt gpos : Pos} {kt : Nat} {scope : Scope} {f : Rw.Row → Int} {te : TE} {k : Nat} {Q' : Value → Shared → Prop} {R : List Rw.Row → Hp → Prop}
    (hr : Room k X.A) (TB : TabB X.base X.mg c P) (hcode : X.env.code = .ref c) (S : Sc3 X.env scope x y z) (nxy : x ≠ y) (nxz : x ≠ z) (nyz : y ≠ z) (hi : PE X iter te) (hel : EltR X.prog X.w scope x y z elt f)
    (hs : ∀ v, genFold iter X.env v = pure v) (I : Inv X pins σ H s) (h : te σ H fun v H1 => ∃ a xs rows, v = .ref a ∧ H1 a = some (.lst xs) ∧ Paired (kRow.is H1) xs rows ∧ TabG H1 P ∧ R rows H1)
    (hQ : ∀ rows H1 g s5, R rows H1 → ReadyR X pins σ H1 P rows f g s5 → Q' (.ref g) s5) :
    wpAny (model X.prog X.w) X.A (eval (.GeneratorExp elt [⟨.Tuple [.Name x p1, .Name y p2, .Name z p3] kt pt, iter, [], 0⟩] scope gpos) X.env) Q' X.xe s := by
  refine gx_eval hr.hd S.co (closure_ok S.free) S.cell S.dot S.kind (by have := hr.dp; omega) ?_ hs
  refine thn (hi.run pins s σ H _ I h) fun xv s1 ⟨v, H1, I1, r1, q1⟩ => ?_
  obtain ⟨a, xs, rows, rfl, ha, hp, ⟨ps, hP, ht⟩, q1⟩ := q1
  cases r1
  obtain ⟨its, rv, pl, hz⟩ := I1.list (SqL.of ha)
  refine iter_any pl.isList fun s2 e2 st hne => ?_
  subst e2
  have hPs : s1.heap.get? P = some { cls := .none, data := .fields ps } := I1.hok P _ hP
  have hPlt : P < s1.heap.objs.size := Heap.lt_size hPs
  have haP : a ≠ P := ne_of ha hP (by intro q; cases q)
  generalize hit : ({ cls := .type "list_iterator", data := .fields #[.ref a, .int 0 0] } : Obj) = ob at st ⊢
  have hP2 : (s1.heap.push ob).get? P = some { cls := .none, data := .fields ps } := Heap.get?_push_of_some _ hPs
  have cd : PySem.W.CodeHd (s1.heap.push ob) c P := TB.code.keeps fun b u e => Heap.get?_push_of_some _ (I1.bk b u e)
  have lim2 : (s1.heap.push ob).NoLimit := I1.nolimit.push ob
  have sz2 : (s1.heap.push ob).objs.size = s1.heap.objs.size + 1 := Heap.size_push ..
  have lenI : its.length = rows.length := by rw [← rv.length, pr_len hp]
  have cont : ∀ (code : Value) (h3 : Heap) (tk : Nat) (ps' : Array Value), Heap.ExtBut P (s1.heap.push ob) h3 → (s1.heap.push ob).objs.size ≤ h3.objs.size → h3.get? P = some { cls := .none, data := .fields ps' } → (∃ more, ps' = ps ++ more) → TriplesOk ps'.toList →
      wpAny (model X.prog X.w) X.A (builtinsFor X.env.globals X.env.builtins) (fun bi s4 => Src X.prog X.w X.A X.env scope (cloFrom X.env.cells scope.names []) (.Tuple [.Name x p1, .Name y p2, .Name z p3] kt pt) elt code bi (.ref s1.heap.objs.size) Q' s4) X.xe { s1 with heap := h3, toks := tk } := by
    intro code h3 tk ps' hx hsz hP3 hmore ht3
    obtain ⟨bm, obm, e1, e2, e3, e4, e5, e6, e7, e8⟩ := TB.bm
    have hcP : cStatics ≠ P := fun e => by
      obtain ⟨_, hns, _⟩ := I1.nolimit
      obtain ⟨o', es, ep, ho, hd, _⟩ := hns
      rw [e, hPs] at ho
      cases ho
      cases hd
    have hcl : cStatics < s1.heap.objs.size := let ⟨_, hns, _⟩ := I1.nolimit; hns.lt
    have keep3 : ∀ b u, b ≠ P → s1.heap.get? b = some u → h3.get? b = some u := fun b u hb e => hx b u hb (Heap.get?_push_of_some _ e)
    refine wpAny_builtinsFor (m := X.mg) (by rw [I1.ok.glob]; exact ((I1.mod.glob.keeps I1.bk).push ob).extBut hx TB.gP) e1 e2 (keep3 _ _ e4 (I1.bk _ _ e5)) e6 e7 e8 ?_
    have WL := fun (B : Around) (hB : B.handled = none) => Walks.list (prog := X.prog) (w := X.w) (A := B) hB s1.heap.objs.size a hne its.toArray
    have hL : its.toArray.size = rows.length := by rw [List.size_toArray, lenI]
    refine ⟨s1.heap.objs.size, _, _, its.toArray.size, _, (fun i v => ∃ r t, rows[i]? = some r ∧ v = .int (f r) t), _, rfl, WL, ?_, ?_, ?_, lim2.extBut hx hcP, ?_, ?_, ?_⟩
    · intro B i v t Q1 E1 hst hq
      obtain ⟨oi, e, cc, dd⟩ := hst.1
      exact go_of e cc dd (by decide) hq
    · refine (WL X.A hr.hd).frame _ _ _ st fun b hb u e => hx b u (fun q => ?_) e
      rcases List.mem_cons.mp hb with z2 | z2
      · exact Nat.ne_of_lt hPlt (q.symm.trans z2)
      · rcases List.mem_cons.mp z2 with z3 | z3
        · exact haP (z3.symm.trans q)
        · cases z3
    · intro b hb
      rcases List.mem_cons.mp hb with q | q
      · rw [q]
        show s1.heap.objs.size < h3.objs.size
        omega
      · rcases List.mem_cons.mp q with q | q
        · rw [q]
          have h13 : s1.heap.objs.size < h3.objs.size := by omega
          exact Nat.lt_trans (Heap.lt_size pl.isList.choose_spec.1) h13
        · cases q
    · intro q
      rcases List.mem_cons.mp q with q | q
      · exact Nat.ne_of_lt hcl q
      · cases q
    · intro href hhref
      have hsc : (genEnv scope (cloFrom X.env.cells scope.names []) h3.objs.size code builtinsNs X.env).scope = scope := rfl
      have tk3 := turn3 (p1 := p1) (p2 := p2) (p3 := p3) (pt := pt) (kt := kt) (ce := genEnv scope (cloFrom X.env.cells scope.names []) h3.objs.size code builtinsNs X.env) (scope := scope) (h0 := href) (fp := List.range h3.objs.size) (wr := [s1.heap.objs.size]) (rows := rows) S.kind hsc S.lx S.ly S.lz nxy nxz nyz hel (its := its) fun i v hiv => ?_
      · exact fun B E' i v s m hB hv => tk3 B E' i v s m hB (by simpa using hv)
      obtain ⟨r, t, t1, t2, t3, q1, q2, q3, q4⟩ := row_at I1 hp rv hiv
      have tP : t ≠ P := fun e => by
        obtain ⟨o, ho, hc, _⟩ := q4
        rw [e, hPs] at ho
        cases ho
        cases hc
      refine ⟨r, t, t1, t2, t3, q1, q2, List.mem_range.mpr (Nat.lt_trans q3 (show s1.heap.objs.size < h3.objs.size by omega)), fun q => ?_, ?_⟩
      · rcases List.mem_cons.mp q with q | q
        · exact Nat.ne_of_lt q3 q
        · cases q
      · obtain ⟨o, ho, r⟩ := q4
        exact ⟨o, hhref _ _ (keep3 _ _ tP ho), r⟩
    · intro g h5 tk5 gs hgb hag hsz5 hk5 W5 hat
      simp only [passing_all, List.length_range] at W5
      rw [hL] at W5 hat
      refine hQ rows H1 g _ q1 ⟨_, _, _, _, _, W5.in4_1, hat, ?_, ?_, fun s' hm => ?_⟩
      · intro b hb
        show b < h5.objs.size
        rw [hsz5]
        rcases List.mem_cons.mp hb with q | q
        · rw [q]; exact Nat.lt_succ_self _
        · rcases List.mem_cons.mp q with q | q
          · rw [q]
            exact Nat.lt_succ_of_lt hag
          · exact Nat.lt_succ_of_lt (Nat.lt_trans (List.mem_range.mp q) hag)
      · intro j v hj
        obtain ⟨i, hij, r, t, hr', ev⟩ := hj
        obtain ⟨hj', ej⟩ := List.getElem?_eq_some_iff.mp hij
        rw [List.getElem_range] at ej
        subst ej
        exact ⟨r, t, hr', ev⟩
      · obtain ⟨more, em⟩ := hmore
        have nwr : ∀ b u, s1.heap.get? b = some u → b ∉ h3.objs.size :: [s1.heap.objs.size] := fun b u e hb => by
          have hl := Heap.lt_size e
          rcases List.mem_cons.mp hb with q | q
          · rw [q] at hl
            have h9 : (h3.objs.size : Nat) < s1.heap.objs.size := hl
            omega
          · rcases List.mem_cons.mp q with q | q
            · rw [q] at hl
              exact Nat.lt_irrefl _ hl
            · cases q
        have J := inv_tab (more := more) (h' := s'.heap) (g' := s'.gens) (d' := s'.drawn) (t' := s'.toks) I1 hP (fun b u hb e => hm.heap b u (nwr b u e) (hk5 b u (keep3 b u hb e)))
          (by rw [← em]; exact hm.heap P _ (nwr P _ hPs) (hk5 P _ hP3)) (AllBare.movedS (I1.bare.push hgb) hm)
        rw [sh_eta s1 s' hm.os] at J
        exact ⟨upd H1 P (.tbl (ps ++ more)), ⟨⟨ps ++ more, upd_same, by rw [← em]; exact ht3⟩, fun b hb => upd_ne hb⟩, J⟩
  refine ⟨lim2, ?_⟩
  cases hf : codeAmong gpos ps.toList with
  | none =>
    refine wpAny_genexprCodeX hcode (cd.code hP2 ht) (cd.tab hP2) hf fun c' h' tk hx hge hlt hco' _ htab' _ => ?_
    obtain ⟨o1, vs, f1, tf, fl, tg, inF, tx, tt, op, _, _, _, _, _, _, _, _, _, htr, _⟩ := hco'
    exact cont _ h' tk _ hx (Nat.le_trans hge (Nat.le_of_lt hlt)) htab'.2 ⟨_, rfl⟩ htr
  | some cv =>
    refine wpAny_genexprCode_hit hcode (cd.code hP2 ht) hf ?_
    exact cont cv (s1.heap.push ob) s1.toks ps (Heap.ExtBut.refl _ _) (Nat.le_refl _) hP2 ⟨#[], by simp⟩ ht
end
end Gx
set_option maxHeartbeats 2000000
namespace Gx
open PySem PySem.Spec PyProof.Rows L2 GxR Rw
def sumBy (f : Rw.Row → Int) : List Rw.Row → Int
  | [] => 0
  | r :: rs => f r + sumBy f rs
theorem sumBy_append (f : Rw.Row → Int) : ∀ xs ys : List Rw.Row, sumBy f (xs ++ ys) = sumBy f xs + sumBy f ys
  | [], ys => by simp [sumBy]
  | x :: xs, ys => by
    show f x + sumBy f (xs ++ ys) = f x + sumBy f xs + sumBy f ys
    rw [sumBy_append f xs ys]; omega
def valAt (f : Rw.Row → Int) (rows : List Rw.Row) (i : Nat) : Int := match rows[i]? with
  | some r => f r
  | none => 0
theorem preSum_rows (f : Rw.Row → Int) (rows : List Rw.Row) : ∀ n, n ≤ rows.length → preSum (valAt f rows) n = sumBy f (rows.take n)
  | 0, _ => rfl
  | n + 1, h => by
    have ih := preSum_rows f rows n (Nat.le_of_lt h)
    have hn : n < rows.length := h
    have e : rows.take (n + 1) = rows.take n ++ [rows[n]] := by rw [List.take_add_one, List.getElem?_eq_getElem hn]; rfl
    have ev : valAt f rows n = f rows[n] := by unfold valAt; rw [List.getElem?_eq_getElem hn]
    rw [e, sumBy_append, ← ih]
    show preSum (valAt f rows) n + valAt f rows n = _ + (f rows[n] + 0)
    rw [ev]; omega
def tSumR (P : Addr) (f : Rw.Row → Int) (te : TE) : TE := fun σ H Q => te σ H fun v H1 => ∃ a xs rows, v = .ref a ∧ H1 a = some (.lst xs) ∧ Paired (kRow.is H1) xs rows ∧ TabG H1 P ∧ ∀ H2, Tabbed P H1 H2 → Q (.int (sumBy f rows)) H2
theorem pe_sumR {X : Cx} {c P : Addr} {elt iter : Expr} {x y z : Str} {p1 p2 p3 pt gpos p pos : Pos} {kt : Nat} {scope : Scope} {f : Rw.Row → Int} {te : TE} {k : Nat}
    (hr : Room k X.A) (hg : Gl X "sum") (hm : X.mg "sum" = none) (TB : TabB X.base X.mg c P) (hcode : X.env.code = .ref c) (S : Sc3 X.env scope x y z) (nxy : x ≠ y) (nxz : x ≠ z) (nyz : y ≠ z) (hi : PE X iter te) (hel : EltR X.prog X.w scope x y z elt f)
    (hs : ∀ v, genFold iter X.env v = pure v) (hb : bootBuiltins "sum" = some (.builtin "sum"))
    (he : starEach [.GeneratorExp elt [⟨.Tuple [.Name x p1, .Name y p2, .Name z p3] kt pt, iter, [], 0⟩] scope gpos] X.env = (false, eval (.GeneratorExp elt [⟨.Tuple [.Name x p1, .Name y p2, .Name z p3] kt pt, iter, [], 0⟩] scope gpos) X.env) :: starEach [] X.env := by rfl) :
    PE X (.Call (.Name "sum" p) [.GeneratorExp elt [⟨.Tuple [.Name x p1, .Name y p2, .Name z p3] kt pt, iter, [], 0⟩] scope gpos] [] pos) (tSumR P f te) := by
  refine ⟨fun pins s σ H Q I h => ?_⟩
  refine wpAny_Call_Name_kw (ld_blt I hg hm hb ?_)
  refine PyProof.Rows.callWith_builtin1 ?_ he (by rfl)
  rw [he]
  show wpAny _ _ (spliced ((false, eval (.GeneratorExp elt [⟨.Tuple [.Name x p1, .Name y p2, .Name z p3] kt pt, iter, [], 0⟩] scope gpos) X.env) :: backTo pos (starEach [] X.env))) _ _ s
  refine Calls.spliced_cons (gen_rows (R := fun rows H1 => ∀ H2, Tabbed P H1 H2 → Q (.int (sumBy f rows)) H2) hr TB hcode S nxy nxz nyz hi hel hs I h fun rows H1 g s5 hR hG => ?_)
  obtain ⟨fp, wr, G, F, St, W, hst, hfp, hval, hI⟩ := hG
  refine Calls.spliced_nil ?_
  refine call_sum_walkAnyS (W.self 0 _ _ _ hst ⟨g, fp, wr, G, _, F, St, valAt f rows, rfl, W, hst, hfp, fun j v hj => ?_, fun s' t' hmv => ?_⟩)
  · obtain ⟨r, t, hr', e⟩ := hval j v hj
    exact ⟨t, by rw [e]; unfold valAt; rw [hr']⟩
  · obtain ⟨H2, hT, J⟩ := hI s' hmv
    refine ⟨.int (sumBy f rows), H2, J, ⟨t', ?_⟩, hR H2 hT⟩
    rw [preSum_rows f rows rows.length (Nat.le_refl _), List.take_length]
end Gx
namespace Rw
open PySem L2
open GxR (TabB TabG Tabbed)
def width (r : Row) : Int := r.2.2 - r.2.1 + 1
/-- a def whose code object stands at c -/
structure FunC (K : PySem.W.Frag) (x qual : Str) (st : Stmt) (f c : Addr) (fd : FuncData) : Prop where
  ex : ∃ (oc : Value) (od : Option Addr) (kV doc pm : Value) (an : Option Addr) (ct : Value) (osl : Array (Option Value)),
    fd = PySem.W.fnOf x qual (defArgs st) (defBody st) (defScope st) .none kV doc pm an (.ref c) ct ∧ K.lookup f = some ⟨oc, od, .func fd, osl⟩ ∧ PySem.W.codeIn K (.ref c) qual = true
section
variable {P : Program} {w : World} {K : PySem.W.Frag} {mg : Str → Option Value} {base : Heap}
theorem FunC.ok {x qual : Str} {st : Stmt} {f c : Addr} {fd : FuncData} {N ps : List Str} {k : Nat} {sp : Sp} (F : FunC K x qual st f c fd) (S : FnScope N ps (defScope st)) (len : ∀ vs H Q E, sp vs H Q E → vs.length = ps.length)
    (walk : ∀ (A : Around) (outer : List Env) (s : Shared) (H : Hp) (vs : List V) (Q : VK) (E : XK), Room k (A.deeper (PyProof.Rows.envOfC qual (defScope st) s.heap.objs.size f (.ref c))) → sp vs H Q E →
      ∃ t, PSs (cxOf CX0 P w K mg base N qual (defScope st) f (.ref c) A outer s H E).nox (defBody st) t ∧ t { nx := fun _ H' => Q .non H', rt := Q } (start N vs) H) : FnOk P w K mg base CX0 (k + 1) f fd ps sp := by
  obtain ⟨oc, od, kV, doc, pm, an, ct, osl, rfl, lk, hcd⟩ := F.ex
  refine fn_of lk hcd S len fun A outer s H vs Q E hr h => ?_
  obtain ⟨t, p, q⟩ := walk A outer s H vs Q E hr h
  exact ⟨t, p.nox, q⟩
theorem elt_width {prog : Program} {scope : Scope} {x y z : Str} {p1 p2 p3 p4 p5 : Pos} {j : Nat} (hk : scope.kind = .function) (ly : scope.names.lookup y = some .local) (lz : scope.names.lookup z = some .local)
    (dy : (y == ("__debug__" : Str)) = false := by decide) (dz : (z == ("__debug__" : Str)) = false := by decide) :
    Gx.EltR prog w scope x y z (.BinOp (.BinOp (.Name z p1) .Sub (.Name y p2) p3) .Add (.Constant (.int 1) j p4) p5) width := by
  intro ce B E' r t1 t2 t3 s m hs hn hx hy hz
  have kf : ce.scope.kind = .function := by rw [hs]; exact hk
  have ky : ce.kindOf y = some .local := by show ce.scope.names.lookup y = some .local; rw [hs]; exact ly
  have kz : ce.kindOf z = some .local := by show ce.scope.names.lookup z = some .local; rw [hs]; exact lz
  refine wpAny_BinOp (wpAny_BinOp (wpAny_Name (wpAny_loadName_local kf kz hn hz ?_) dz))
  refine wpAny_Name (wpAny_loadName_local kf ky hn hy ?_) dy
  refine PyProof.Rows.sub_int ?_
  refine wpAny_Constant_int ?_
  refine PyProof.Rows.add_int ⟨⟨_, rfl⟩, s.heap, _, rfl, fun _ _ e => e⟩
def spAmount (Pt' : Addr) : Sp := fun vs H Q _ => ∃ (F : Hp) (v : V) (rs : List Row), vs = [v] ∧ Same F H ∧ (kL kRow).is F v rs ∧ RowsOk rs ∧ TabG H Pt' ∧ F Pt' = none ∧
  ∀ (out : List Row) (F' H' : Hp), Fewest rs out → Ext (· = Pt') F H F' H' → TabG H' Pt' → Q (.int (Gx.sumBy width out)) H'
theorem ok_amount {f c Pc : Addr} {fd : FuncData} (F0 : FunC K "amount" "amount" s_amount f c fd) (TB : TabB base mg c Pc) (hsum : mg "sum" = none) (CC : CalCheck P w K mg base) (CF : Cal P w K mg base 3 "fewest" ["rows"] spFewest) :
    FnOk P w K mg base CX0 6 f fd ["rows"] (spAmount Pc) := by
  obtain ⟨f1, fd1, G1, g1, kp1, b1⟩ := CC
  obtain ⟨f2, fd2, G2, g2, kp2, b2⟩ := CF
  refine F0.ok sc_amount (fun vs H Q E h => ?_) (fun A outer s H vs Q E hr h => ?_)
  · obtain ⟨F, v, rs, rfl, _⟩ := h
    rfl
  · obtain ⟨F, v, rs, rfl, fh, hv, hok, ht, fP, q⟩ := h
    have hr2 : Room 3 _ := hr.mono (by decide)
    refine ⟨_, pss_cons (ps_expr (pe_call G1 hr (by rfl) g1 kp1 b1 .nil pass0 (pa_cons (pv 0) pa_nil)))
      (pss_one (ps_ret (Gx.pe_sumR (f := width) hr (by rfl) hsum TB rfl ⟨rfl, rfl, by decide +kernel, rfl, rfl, rfl, rfl, fun q hq e => absurd e ((show ∀ q ∈ _, q.2 ≠ NameKind.free by decide +kernel) q hq)⟩ (by decide) (by decide) (by decide)
        (pe_call G2 hr2 (by rfl) g2 kp2 b2 .nil pass0 (pa_cons (pv 0) pa_nil)) (elt_width rfl rfl rfl) (fun _ => rfl) (by decide +kernel)))), ?_⟩
    refine ⟨_, rfl, v, rs, rfl, (kL kRow).mono fh hv, hok, fun H1 s1 => ?_⟩
    have X1 := ext_of_same fh s1
    have hl := hok.1
    refine ⟨_, rfl, F, v, rs, rfl, X1.fh, hv, rows_valid hok.2, by omega, fun F2 H2 a xs out X2 na fa ha hout fw => ?_⟩
    have X := X1.trans X2
    obtain ⟨pp, hp, htr⟩ := ht
    have hp2 : H2 Pc = some (.tbl pp) := X.same _ _ hp
    have fP2 : F2 Pc = none := by rw [X.new Pc (by rw [hp]; simp)]; exact fP
    refine ⟨a, xs, out, rfl, ha, pr_mono (fun _ _ z => kRow.mono X2.fh z) hout, ⟨pp, hp2, htr⟩, fun H3 t3 => ?_⟩
    obtain ⟨tg, same⟩ := t3
    have e3 : ∃ o, H3 = upd H2 Pc o := by
      obtain ⟨p3, hp3, _⟩ := tg
      exact ⟨.tbl p3, funext fun b => by
        by_cases hb : b = Pc
        · rw [hb, upd_same, hp3]
        · rw [upd_ne hb, same b hb]⟩
    obtain ⟨o, rfl⟩ := e3
    exact q out F2 _ fw (X.up.put (.inr rfl) fP2) tg
end
end Rw
namespace Rw
open PySem L2
/-! ### how many points -/
def sumTo (g : Int → Int) : Nat → Int
  | 0 => g 0
  | n + 1 => sumTo g n + g ((n : Int) + 1)
theorem sumTo_add (g h : Int → Int) : ∀ n, sumTo (fun x => g x + h x) n = sumTo g n + sumTo h n
  | 0 => rfl
  | n + 1 => by
    show sumTo (fun x => g x + h x) n + (g _ + h _) = _
    rw [sumTo_add g h n]
    show _ = (sumTo g n + g _) + (sumTo h n + h _)
    omega
theorem sumTo_congr {g h : Int → Int} (n : Nat) (e : ∀ x, g x = h x) : sumTo g n = sumTo h n := by
  have : g = h := funext e
  rw [this]
theorem sumTo_zero {g : Int → Int} : ∀ n : Nat, (∀ x : Int, x ≤ n → g x = 0) → sumTo g n = 0
  | 0, h => h 0 (Int.le_refl _)
  | n + 1, h => by
    show sumTo g n + g _ = 0
    rw [sumTo_zero n fun x hx => h x (by omega), h ((n : Int) + 1) (by omega)]
    rfl
theorem sumTo_seg (a b : Int) (ha : 0 ≤ a) (hab : a ≤ b) : ∀ n : Nat, sumTo (fun x => ind (a ≤ x ∧ x ≤ b)) n = if (n : Int) < a then 0 else if (n : Int) ≤ b then n - a + 1 else b - a + 1
  | 0 => by
    show ind (a ≤ 0 ∧ 0 ≤ b) = _
    rcases ind_or (a ≤ 0 ∧ 0 ≤ b) with ⟨u, e⟩ | ⟨u, e⟩ <;> rw [e]
    · rw [if_neg (by omega), if_pos (by omega)]; omega
    · rw [if_pos (by omega)]
  | n + 1 => by
    show sumTo _ n + ind (a ≤ (n : Int) + 1 ∧ (n : Int) + 1 ≤ b) = _
    rw [sumTo_seg a b ha hab n]
    have e1 : ((n + 1 : Nat) : Int) = (n : Int) + 1 := by omega
    rw [e1]
    rcases ind_or (a ≤ (n : Int) + 1 ∧ (n : Int) + 1 ≤ b) with ⟨u, e⟩ | ⟨u, e⟩ <;> rw [e] <;> split <;> split <;> (try split) <;> (try split) <;> omega
def box (N : Nat) (g : Pt → Int) : Int := sumTo (fun h => sumTo (fun n => g (h, n)) N) 7
theorem box_add (N : Nat) (g h : Pt → Int) : box N (fun p => g p + h p) = box N g + box N h := by
  unfold box
  rw [← sumTo_add]
  exact sumTo_congr 7 fun x => sumTo_add _ _ N
theorem box_congr (N : Nat) {g h : Pt → Int} (e : ∀ p, g p = h p) : box N g = box N h := by
  have : g = h := funext e
  rw [this]
theorem sumTo_one {c : Int} {k : Nat} {v : Int} (h0 : 0 ≤ c) (h1 : c ≤ k) : sumTo (fun x => if x = c then v else 0) k = v := by
  induction k with
  | zero =>
    show (if (0 : Int) = c then v else 0) = v
    rw [if_pos (by omega)]
  | succ n ih =>
    show sumTo _ n + (if (n : Int) + 1 = c then v else 0) = v
    by_cases e : (n : Int) + 1 = c
    · rw [if_pos e, sumTo_zero n fun x hx => if_neg (by omega)]; omega
    · rw [if_neg e, ih (by omega)]; omega
theorem box_row {N : Nat} {r : Row} (h0 : 0 ≤ r.1) (h7 : r.1 ≤ 7) (a1 : 0 ≤ r.2.1) (ab : r.2.1 ≤ r.2.2) (bN : r.2.2 ≤ N) : box N (fun p => ind (inRow r p)) = width r := by
  have e : ∀ h : Int, sumTo (fun n => ind (inRow r (h, n))) N = if h = r.1 then width r else 0 := fun h => by
    by_cases e : h = r.1
    · rw [if_pos e]
      have : sumTo (fun n => ind (inRow r (h, n))) N = sumTo (fun x => ind (r.2.1 ≤ x ∧ x ≤ r.2.2)) N := sumTo_congr N fun x => by
        rcases ind_or (r.2.1 ≤ x ∧ x ≤ r.2.2) with ⟨u, eu⟩ | ⟨u, eu⟩ <;> rw [eu]
        · exact ind_pos ⟨e.symm, u⟩
        · exact ind_neg fun z => u z.2
      rw [this, sumTo_seg _ _ a1 ab]
      unfold width
      rw [if_neg (by omega)]
      split <;> omega
    · rw [if_neg e]
      exact sumTo_zero N fun x _ => ind_neg fun z => e z.1.symm
  unfold box
  rw [sumTo_congr 7 e]
  exact sumTo_one h0 h7
theorem box_zero (N : Nat) : box N (fun _ => 0) = 0 := by
  unfold box
  exact sumTo_zero 7 fun _ _ => sumTo_zero N fun _ _ => rfl
theorem box_cover {N : Nat} : ∀ {rs : List Row}, (∀ r ∈ rs, 0 ≤ r.1 ∧ r.1 ≤ 7 ∧ 0 ≤ r.2.1 ∧ r.2.1 ≤ r.2.2 ∧ r.2.2 ≤ N) → box N (cover (once rs)) = Gx.sumBy width rs
  | [], _ => box_zero N
  | r :: rs, h => by
    obtain ⟨a, b, c, d, e⟩ := h r List.mem_cons_self
    have ih := box_cover (rs := rs) fun s hs => h s (List.mem_cons_of_mem _ hs)
    have e1 : box N (cover (once (r :: rs))) = box N (fun p => ind (inRow r p) + cover (once rs) p) := box_congr N fun p => by
      show 1 * ind (inRow r p) + cover (once rs) p = _
      omega
    rw [e1, box_add, ih, box_row a b c d e]
    rfl
/-- how many points rows hold -/
def amt (rs : List Row) : Int := box LIM.toNat (fun p => ind (mem rs p))
theorem lim_nat : ((LIM.toNat : Nat) : Int) = LIM := by
  unfold LIM
  omega
theorem amt_told {rs out : List Row} (h : ∀ r ∈ rs, RowOk r) (t : Fewest rs out) : Gx.sumBy width out = amt rs := by
  have ok := canon_ok t.can fun p m => rows_box h ((t.mem p).mp m)
  rw [← box_cover (N := LIM.toNat) fun r hr => by
    obtain ⟨a, b, c, d, e⟩ := ok r hr
    rw [lim_nat]
    exact ⟨a, b, by omega, d, e⟩]
  unfold amt
  refine box_congr _ fun p => ?_
  rw [cover_canon t.can]
  rcases ind_or (mem rs p) with ⟨u, eu⟩ | ⟨u, eu⟩ <;> rw [eu]
  · exact ind_pos ((t.mem p).mpr u)
  · exact ind_neg fun z => u ((t.mem p).mp z)
theorem amt_sum {a b c d : List Row} (h : ∀ p, ind (mem a p) + ind (mem b p) = ind (mem c p) + ind (mem d p)) : amt a + amt b = amt c + amt d := by
  unfold amt
  rw [← box_add, ← box_add]
  exact box_congr _ h
end Rw
namespace Rw
open PySem L2
/-! ### the law's dice -/
def dice (s : Addr) (i m r : Int) : HO := .lst [.ref s, .int i, .int m, .int r]
structure Good (i m r : Int) : Prop where
  i0 : 0 ≤ i
  m0 : 0 ≤ m
  m1 : m < 2147483647
  r0 : 0 ≤ r
def spDice (K : PySem.W.Frag) : Sp := fun vs H Q _ => ∃ (s : Addr) (ns : List Int), vs = [.ref s] ∧ SqL K H s (ns.map V.int) ∧ ∀ (d : Addr) (m : Int), H d = none → Good 0 m 0 → Q (.ref d) (upd H d (dice s 0 m 0))
/-- the dice at d over the script at s -/
structure DiceAt (K : PySem.W.Frag) (F H : Hp) (d s : Addr) (ns : List Int) : Prop where
  fh : Same F H
  fd : F d = none
  sc : SqL K F s (ns.map V.int)
  ex : ∃ i m r : Int, H d = some (dice s i m r) ∧ Good i m r
/-- what a draw may do -/
def RetN (K : PySem.W.Frag) (F H : Hp) (d s : Addr) (ns : List Int) (many : Int) (Q : VK) : Prop := ∀ (z : Int) (H' : Hp), 0 ≤ z → z < many → Ext (· = d) F H F H' → DiceAt K F H' d s ns → Q (.int z) H'
def spNext (K : PySem.W.Frag) : Sp := fun vs H Q _ => ∃ (F : Hp) (d s : Addr) (ns : List Int) (many : Int), vs = [.ref d, .int many] ∧ DiceAt K F H d s ns ∧ 1 ≤ many ∧ many < 2 ^ 64 ∧ RetN K F H d s ns many Q
structure TxL (mg : Str → Option Value) : Prop where
  int : mg "int" = none
  len : mg "len" = none
  range : mg "range" = none
  min : mg "min" = none
theorem atI_int {ns : List Int} {i : Int} (h0 : 0 ≤ i) (h1 : i < ns.length) : ∃ c, atI (ns.map V.int) i = some (.int c) := by
  obtain ⟨j, rfl⟩ : ∃ j : Nat, i = (j : Int) := ⟨i.toNat, by omega⟩
  have hl : j < ns.length := by omega
  exact ⟨ns[j], atI_nat (by rw [List.getElem?_map, List.getElem?_eq_getElem hl]; rfl)⟩
theorem DiceAt.put {K : PySem.W.Frag} {F H : Hp} {d s : Addr} {ns : List Int} (D : DiceAt K F H d s ns) {i m r : Int} (g : Good i m r) : Ext (· = d) F H F (upd H d (dice s i m r)) ∧ DiceAt K F (upd H d (dice s i m r)) d s ns :=
  ⟨(Ext.refl D.fh).put (.inr rfl) D.fd, ⟨same_put D.fh D.fd, D.fd, D.sc, ⟨i, m, r, upd_same, g⟩⟩⟩
section
variable {P : Program} {w : World} {K : PySem.W.Frag} {mg : Str → Option Value} {base : Heap}
theorem ok_law_dice {f : Addr} {fd : FuncData} (F0 : Fun K "_law_dice" "_law_dice" s_law_dice f fd) (T : TxL mg) : FnOk P w K mg base CX0 1 f fd ["_law_script"] (spDice K) := by
  refine F0.ok sc_law_dice (fun vs H Q E h => ?_) (fun cdv A outer s H vs Q E hr h => ?_)
  · obtain ⟨s, ns, rfl, _⟩ := h
    rfl
  · obtain ⟨s, ns, rfl, hs, q⟩ := h
    refine ⟨_, pss_cons (ps_set (i := 1) sc_law_dice.nd rfl (.inl rfl) pe_int)
      (pss_cons (ps_for PassesOwn.never rfl (pi_list (pv 0)) (pg_name (i := 2) sc_law_dice.nd rfl (.inl rfl))
        (pss_one (ps_set (i := 1) sc_law_dice.nd rfl (.inl rfl) (pe_op op_mod (pe_op op_add (pe_op op_add (pe_op op_mul (pv 1) pe_int) (pe_op op_mul (pe_op op_mod (pv 2) pe_int) pe_int)) pe_int) pe_int))))
      (pss_one (ps_ret (pe_lst (pa_cons (pv 0) (pa_cons pe_int (pa_cons (pe_op op_mul (pv 1) (pe_callTy call_int1 (by rfl) T.int (by decide +kernel) (pa_cons (pe_cmpR op_gt (pe_callB call_len (by rfl) T.len PySem.boot_len (pa_cons (pv 0) pa_nil)) pe_int (nomark _)) pa_nil))) (pa_cons pe_int pa_nil)))))))), ?_⟩
    refine ⟨_, rfl, s, rfl, ⟨_, hs⟩, for_list (K := K) (a := s) (xs := ns.map V.int) (fun i σ H' => ∃ (m : Int) (y : Option V), σ = [some (.ref s), some (.int m), y] ∧ 0 ≤ m ∧ m < 2147483647 ∧ H' = H) ⟨0, none, rfl, by decide, by decide, rfl⟩ (fun i σ H' _ ⟨_, _, _, _, _, e⟩ => e ▸ hs) ?_ ?_⟩
    · rintro i x σ H' hi ⟨m, y, rfl, h0, h1, rfl⟩
      obtain ⟨c, hc, rfl⟩ : ∃ c, ns[i]? = some c ∧ x = .int c := by
        rw [List.getElem?_map] at hi
        cases e : ns[i]? with
        | none => rw [e] at hi; cases hi
        | some c => rw [e] at hi; exact ⟨c, rfl, (Option.some.inj hi).symm⟩
      have p1 : (0 : Int) < 2147483647 := by decide
      refine ⟨_, rfl, _, _, rfl, rfl, .inl ⟨by omega, by omega⟩, _, rfl, _, _, rfl, rfl, p1, _, _, rfl, rfl, .inr ⟨by decide, by decide⟩, _, _, rfl, rfl, _, _, rfl, rfl, _, _, rfl, rfl, p1, ?_⟩
      exact ⟨_, _, rfl, Int.emod_nonneg _ (by decide), Int.emod_lt_of_pos _ p1, rfl⟩
    · rintro σ H' ⟨m, y, rfl, h0, h1, rfl⟩
      refine ⟨_, rfl, _, rfl, _, rfl, _, _, rfl, .inl ⟨_, hs, rfl⟩, _, _, rfl, rfl, .inr ⟨_, rfl, _, _, rfl, rfl, .inl ⟨by omega, by omega⟩, ?_⟩⟩
      refine ⟨by show 4 ≤ sizeLine; decide, fun d nd => ?_⟩
      refine q d _ nd ⟨Int.le_refl _, ?_, ?_, Int.le_refl _⟩
      · split <;> omega
      · split <;> omega
theorem ok_law_next {f : Addr} {fd : FuncData} (F0 : Fun K "_law_next" "_law_next" s_law_next f fd) (T : TxL mg) : FnOk P w K mg base CX0 1 f fd ["_law_dice_here", "_law_many"] (spNext K) := by
  refine F0.ok sc_law_next (fun vs H Q E h => ?_) (fun cdv A outer s H vs Q E hr h => ?_)
  · obtain ⟨F, d, s, ns, many, rfl, _⟩ := h
    rfl
  · obtain ⟨F, d, s, ns, many, rfl, D, m1, m2, q⟩ := h
    obtain ⟨i, m, r, hd, g⟩ := D.ex
    have hdv : many.natAbs < 2 ^ 64 := by omega
    refine ⟨_, pss_cons (ps_if (pt_cmpR op_gt (pe_ix ix_list (pv 0) pe_int (fun _ _ => rfl)) pe_int (nomark _))
        (pss_cons (ps_set (i := 2) sc_law_next.nd rfl (.inl rfl) (pe_op op_mod (pe_ix ix_list (pv 0) pe_int (fun _ _ => rfl)) (pv 1)))
        (pss_cons (ps_asg (pe_op op_fdivW (pe_ix ix_list (pv 0) pe_int (fun _ _ => rfl)) (pv 1)) (pg_sub (pv 0) pe_int set_list))
        (pss_one (ps_ret (pv 2))))) pss_nil)
      (pss_cons (ps_asg (pe_op op_add (pe_ix ix_list (pv 0) pe_int (fun _ _ => rfl)) pe_int) (pg_sub (pv 0) pe_int set_list))
      (pss_cons (ps_if (pt_cmpR op_le (pe_ix ix_list (pv 0) pe_int (fun _ _ => rfl)) (pe_callB call_len (by rfl) T.len PySem.boot_len (pa_cons (pe_ix ix_list (pv 0) pe_int (fun _ _ => rfl)) pa_nil)) (nomark _))
        (pss_cons (ps_set (i := 3) sc_law_next.nd rfl (.inl rfl) (pe_ix ix_list (pe_ix ix_list (pv 0) pe_int (fun _ _ => rfl)) (pe_op op_sub (pe_ix ix_list (pv 0) pe_int (fun _ _ => rfl)) pe_int) (fun _ _ => rfl)))
        (pss_cons (ps_asg (pe_ifExp (pt_cmpR op_ge (pv 3) (pe_op op_pow pe_int pe_int) (nomark _)) (pe_op op_fdivW (pv 3) (pv 1)) pe_int) (pg_sub (pv 0) pe_int set_list))
        (pss_one (ps_ret (pe_op op_mod (pv 3) (pv 1)))))) pss_nil)
      (pss_cons (ps_asg (pe_op op_mod (pe_op op_mul (pe_ix ix_list (pv 0) pe_int (fun _ _ => rfl)) pe_int) pe_int) (pg_sub (pv 0) pe_int set_list))
      (pss_one (ps_ret (pe_op op_mod (pe_op op_fdiv (pe_ix ix_list (pv 0) pe_int (fun _ _ => rfl)) pe_int) (pv 1))))))), ?_⟩
    have p1 : (0 : Int) < 2147483647 := by decide
    have pm : 0 < many := by omega
    refine ⟨_, rfl, d, _, 3, .int r, rfl, rfl, SqL.of hd, rfl, _, _, rfl, rfl, _, rfl, ite2 (fun c => ?_) (fun c => ?_)⟩
    · -- some digits are left
      refine ⟨_, rfl, d, _, 3, .int r, rfl, rfl, SqL.of hd, rfl, _, rfl, _, _, rfl, rfl, pm, ?_⟩
      refine ⟨_, rfl, d, _, 3, .int r, rfl, rfl, SqL.of hd, rfl, _, rfl, _, _, rfl, rfl, wide_div pm hdv (by decide) (by decide), ?_⟩
      refine ⟨_, rfl, d, _, 3, 3, rfl, rfl, hd, rfl, ?_⟩
      have g' : Good i m (r / many) := ⟨g.i0, g.m0, g.m1, Int.ediv_nonneg g.r0 (by omega)⟩
      exact ⟨_, rfl, q _ _ (Int.emod_nonneg _ (by omega)) (Int.emod_lt_of_pos _ pm) (D.put g').1 (D.put g').2⟩
    · refine ⟨_, rfl, d, _, 1, .int i, rfl, rfl, SqL.of hd, rfl, _, _, rfl, rfl, ?_⟩
      refine ⟨_, rfl, d, _, 1, 1, rfl, rfl, hd, rfl, ?_⟩
      have g1 : Good (i + 1) m r := ⟨by have := g.i0; omega, g.m0, g.m1, g.r0⟩
      have D1 := (D.put g1).2
      have X1 := (D.put g1).1
      have hs1 : SqL K (upd H d (dice s (i + 1) m r)) s (ns.map V.int) := D1.fh.seq D.sc
      have go2 : ∀ {i' m' r' z : Int}, Good i' m' r' → 0 ≤ z → z < many → Q (.int z) (upd (upd H d (dice s (i + 1) m r)) d (dice s i' m' r')) := fun g' h0 h1 =>
        q _ _ h0 h1 (X1.trans (D1.put g').1) (D1.put g').2
      refine ⟨_, rfl, d, _, 1, .int (i + 1), rfl, rfl, SqL.of upd_same, rfl, _, rfl, d, _, 0, .ref s, rfl, rfl, SqL.of upd_same, rfl, _, _, rfl, .inl ⟨_, hs1, rfl⟩, _, _, rfl, rfl, _, rfl, ite2 (fun c2 => ?_) (fun c2 => ?_)⟩
      · have c2 := of_decide_eq_true c2
        rw [List.length_map] at c2
        obtain ⟨cell, hc⟩ := atI_int (ns := ns) (i := i + 1 - 1) (by have := g.i0; omega) (by omega)
        refine ⟨_, rfl, d, _, 0, .ref s, rfl, rfl, SqL.of upd_same, rfl, _, rfl, d, _, 1, .int (i + 1), rfl, rfl, SqL.of upd_same, rfl, _, _, rfl, rfl, s, _, _, .int cell, rfl, rfl, hs1, hc, ?_⟩
        refine ⟨_, rfl, _, _, rfl, rfl, ⟨by decide, by decide, by decide⟩, _, _, rfl, rfl, _, rfl, ite2 (fun c3 => ?_) (fun c3 => ?_)⟩
        · have c3 := of_decide_eq_true c3
          have cp : 0 ≤ cell := by
            have e : (10 : Int) ^ (18 : Int).toNat = 1000000000000000000 := by decide
            rw [e] at c3
            omega
          refine ⟨_, rfl, _, rfl, _, _, rfl, rfl, wide_div pm hdv (by decide) (by decide), _, rfl, d, _, 3, 3, rfl, rfl, upd_same, rfl, ?_⟩
          refine ⟨_, rfl, _, rfl, _, _, rfl, rfl, pm, ?_⟩
          exact go2 ⟨g1.i0, g1.m0, g1.m1, Int.ediv_nonneg cp (by omega)⟩ (Int.emod_nonneg _ (by omega)) (Int.emod_lt_of_pos _ pm)
        · refine ⟨_, rfl, d, _, 3, 3, rfl, rfl, upd_same, rfl, ?_⟩
          refine ⟨_, rfl, _, rfl, _, _, rfl, rfl, pm, ?_⟩
          exact go2 ⟨g1.i0, g1.m0, g1.m1, Int.le_refl _⟩ (Int.emod_nonneg _ (by omega)) (Int.emod_lt_of_pos _ pm)
      · have gm0 := g.m0
        have gm1 := g.m1
        refine ⟨_, rfl, d, _, 2, .int m, rfl, rfl, SqL.of upd_same, rfl, _, _, rfl, rfl, .inl ⟨by omega, by omega⟩, _, _, rfl, rfl, p1, _, rfl, d, _, 2, 2, rfl, rfl, upd_same, rfl, ?_⟩
        have g2 : Good (i + 1) (m * 48271 % 2147483647) r := ⟨g1.i0, Int.emod_nonneg _ (by decide), Int.emod_lt_of_pos _ p1, g1.r0⟩
        refine ⟨_, rfl, d, _, 2, .int (m * 48271 % 2147483647), rfl, rfl, SqL.of upd_same, rfl, _, _, rfl, rfl, ⟨by decide, by decide⟩, _, rfl, _, _, rfl, rfl, pm, ?_⟩
        exact go2 g2 (Int.emod_nonneg _ (by omega)) (Int.emod_lt_of_pos _ pm)
end
end Rw
namespace Rw
open PySem L2
/-- a drawn row -/
def Drawn (houses far : Int) (r : Row) : Prop := 0 ≤ r.1 ∧ r.1 < houses ∧ 1 ≤ r.2.1 ∧ r.2.1 ≤ r.2.2 ∧ r.2.2 ≤ far
def spRows (K : PySem.W.Frag) : Sp := fun vs H Q _ => ∃ (F : Hp) (d s : Addr) (ns : List Int) (houses far most : Int), vs = [.ref d, .int houses, .int far, .int most] ∧ DiceAt K F H d s ns ∧ 1 ≤ houses ∧ houses ≤ 8 ∧ 1 ≤ far ∧ far ≤ LIM ∧ 0 ≤ most ∧ most ≤ 1000 ∧
  ∀ (F' H' : Hp) (a : Addr) (xs : List V) (rows : List Row), Ext (· = d) F H F' H' → DiceAt K F' H' d s ns → H a = none → F' a = none → H' a = some (.lst xs) → Paired (kRow.is F') xs rows → (rows.length : Int) ≤ most → (∀ r ∈ rows, Drawn houses far r) → Q (.ref a) H'
theorem DiceAt.step {K : PySem.W.Frag} {F H F' H' : Hp} {d s : Addr} {ns : List Int} (D : DiceAt K F H d s ns) (X : Ext M0 F H F' H') : DiceAt K F' H' d s ns := by
  obtain ⟨i, m, r, hd, g⟩ := D.ex
  exact ⟨X.fh, by rw [X.new d (by rw [hd]; simp)]; exact D.fd, X.ff.seq D.sc, ⟨i, m, r, X.same _ _ hd, g⟩⟩
theorem DiceAt.ne {K : PySem.W.Frag} {F H : Hp} {d s p : Addr} {ns : List Int} (D : DiceAt K F H d s ns) (h : H p = none) : d ≠ p := by
  obtain ⟨i, m, r, hd, g⟩ := D.ex
  exact ne_of_none hd h
theorem DiceAt.lay {K : PySem.W.Frag} {F H : Hp} {d s p : Addr} {ns : List Int} {o : HO} (D : DiceAt K F H d s ns) (h : H p = none) : DiceAt K (upd F p o) (upd H p o) d s ns :=
  D.step ((Ext.refl D.fh).lay h)
theorem DiceAt.tmp {K : PySem.W.Frag} {F H : Hp} {d s p : Addr} {ns : List Int} {o : HO} (D : DiceAt K F H d s ns) (h : H p = none) : DiceAt K F (upd H p o) d s ns :=
  D.step ((Ext.refl D.fh).tmp h)
theorem DiceAt.set {K : PySem.W.Frag} {F H : Hp} {d s p : Addr} {ns : List Int} {o : HO} (D : DiceAt K F H d s ns) (h : d ≠ p) (f : F p = none) : DiceAt K F (upd H p o) d s ns := by
  obtain ⟨i, m, r, hd, g⟩ := D.ex
  exact ⟨same_put D.fh f, D.fd, D.sc, ⟨i, m, r, by rw [upd_ne h]; exact hd, g⟩⟩
section
variable {P : Program} {w : World} {K : PySem.W.Frag} {mg : Str → Option Value} {base : Heap}
theorem ok_law_rows {f : Addr} {fd : FuncData} (F0 : Fun K "_law_rows" "_law_rows" s_law_rows f fd) (T : TxL mg) (CN : Cal P w K mg base 1 "_law_next" ["_law_dice_here", "_law_many"] (spNext K)) : FnOk P w K mg base CX0 2 f fd ["_law_d", "_law_houses", "_law_far", "_law_most"] (spRows K) := by
  obtain ⟨f1, fd1, G1, g1, kp1, b1⟩ := CN
  refine F0.ok sc_law_rows (fun vs H Q E h => ?_) (fun cdv A outer s0 H vs Q E hr h => ?_)
  · obtain ⟨F, d, s, ns, houses, far, most, rfl, _⟩ := h
    rfl
  · obtain ⟨F, d, s, ns, houses, far, most, rfl, D0, h1, h8, f1', fL, m0, m1, q⟩ := h
    have eL : LIM = 1000000000000 := rfl
    refine ⟨_, pss_cons (ps_set (i := 4) sc_law_rows.nd rfl (.inl rfl) (pe_lst pa_nil))
      (pss_cons (ps_for PassesOwn.never rfl (pi_range1 (by rfl) T.range (pa_cons (pe_call G1 hr (by rfl) g1 kp1 b1 .nil pass0 (pa_cons (pv 0) (pa_cons (pe_op op_add (pv 3) pe_int) pa_nil))) pa_nil)) (pg_name (i := 5) sc_law_rows.nd rfl (.inl rfl))
        (pss_cons (ps_set (i := 6) sc_law_rows.nd rfl (.inl rfl) (pe_op op_add pe_int (pe_call G1 hr (by rfl) g1 kp1 b1 .nil pass0 (pa_cons (pv 0) (pa_cons (pv 2) pa_nil)))))
        (pss_cons (ps_set (i := 7) sc_law_rows.nd rfl (.inl rfl) (pe_ix ix_list (pe_lst (pa_cons pe_int (pa_cons (pe_call G1 hr (by rfl) g1 kp1 b1 .nil pass0 (pa_cons (pv 0) (pa_cons pe_int pa_nil))) (pa_cons (pe_call G1 hr (by rfl) g1 kp1 b1 .nil pass0 (pa_cons (pv 0) (pa_cons (pv 2) pa_nil))) pa_nil))))
            (pe_call G1 hr (by rfl) g1 kp1 b1 .nil pass0 (pa_cons (pv 0) (pa_cons pe_int pa_nil))) (fun _ _ => rfl)))
        (pss_one (ps_expr (pe_bm PySem.F.plainAttrs_list PySem.F.slot_list_append PySem.F.type_list_append mt_append (pv 4) (pa_cons (pe_tup (pa_cons (pe_call G1 hr (by rfl) g1 kp1 b1 .nil pass0 (pa_cons (pv 0) (pa_cons (pv 1) pa_nil))) (pa_cons (pv 6)
            (pa_cons (pe_callB (call_min2 (by rfl)) (by rfl) T.min (by decide +kernel) (pa_cons (pv 2) (pa_cons (pe_op op_add (pv 6) (pv 7)) pa_nil))) pa_nil)))) pa_nil)))))))
      (pss_one (ps_ret (pv 4)))), ?_⟩
    refine ⟨Nat.zero_le _, fun o no => ?_⟩
    have Fo : F o = none := D0.fh.free no
    have dO : d ≠ o := D0.ne no
    have X0 : Ext (· = d) F H F (upd H o (.lst [])) := (Ext.refl D0.fh).tmp no
    have ho0 : upd H o (.lst []) o = some (.lst []) := upd_same
    have D1 : DiceAt K F (upd H o (.lst [])) d s ns := D0.tmp no
    revert X0 ho0 D1
    generalize upd H o (.lst []) = H1
    intro X0 ho0 D1
    refine ⟨_, rfl, _, rfl, _, _, rfl, rfl, F, d, s, ns, most + 1, rfl, D1, by omega, by omega, fun z H2 z0 z1 X1 D2 => ?_⟩
    have ho2 : H2 o = some (.lst []) := X1.hh _ _ ho0 fun e => dO e.symm
    have X2 := X0.trans X1
    refine ⟨z, rfl, by omega, by omega, for_range (lo := 0) (n := z.toNat) (fun i σ H' => ∃ F' acc rows y5 y6 y7, σ = [some (.ref d), some (.int houses), some (.int far), some (.int most), some (.ref o), y5, y6, y7] ∧ Ext (· = d) F H F' H' ∧ DiceAt K F' H' d s ns ∧ H' o = some (.lst acc) ∧ F' o = none ∧ Paired (kRow.is F') acc rows ∧ rows.length = i ∧ ∀ r ∈ rows, Drawn houses far r)
      ⟨F, [], [], none, none, none, rfl, X2, D2, ho2, Fo, .nil, rfl, fun r h => absurd h (by simp)⟩ ?_ ?_⟩
    · rintro i σ H3 hi ⟨F', acc, rows, y5, y6, y7, rfl, X3, D3, ho3, fo3, hpr, hlen, hdr⟩
      -- first = 1 + next(d, far)
      refine ⟨_, rfl, _, rfl, F', d, s, ns, far, rfl, D3, f1', by omega, fun a H4 a0 a1 Y4 D4 => ?_⟩
      refine ⟨_, _, rfl, rfl, ?_⟩
      -- wide
      refine ⟨_, rfl, F', d, s, ns, 3, rfl, D4, by decide, by decide, fun b H5 b0 b1 Y5 D5 => ?_⟩
      refine ⟨_, rfl, _, rfl, F', d, s, ns, far, rfl, D5, f1', by omega, fun c H6 c0 c1 Y6 D6 => ?_⟩
      refine ⟨by show 3 ≤ sizeLine; decide, fun p np => ?_⟩
      have D6' : DiceAt K F' (upd H6 p (.lst [.int 0, .int b, .int c])) d s ns := D6.tmp np
      have dp : d ≠ p := D6.ne np
      refine ⟨_, rfl, F', d, s, ns, 3, rfl, D6', by decide, by decide, fun e H7 e0 e1 Y7 D7 => ?_⟩
      have hp7 : H7 p = some (.lst [.int 0, .int b, .int c]) := Y7.hh _ _ upd_same fun z => dp z.symm
      obtain ⟨wd, w0, hw⟩ : ∃ wd : Int, 0 ≤ wd ∧ atI [V.int 0, V.int b, V.int c] e = some (.int wd) := by
        rcases (show e = 0 ∨ e = 1 ∨ e = 2 by omega) with z | z | z
        · exact ⟨0, Int.le_refl _, by rw [z]; rfl⟩
        · exact ⟨b, b0, by rw [z]; rfl⟩
        · exact ⟨c, c0, by rw [z]; rfl⟩
      have Y : Ext (· = d) F' H3 F' H7 := ((Y4.trans Y5).trans Y6 |>.tmp np).trans Y7
      have ho7 : H7 o = some (.lst acc) := Y.hh _ _ ho3 fun z => dO z.symm
      refine ⟨p, _, e, _, rfl, rfl, SqL.of hp7, hw, ?_⟩
      -- append
      refine ⟨_, rfl, .inl ⟨rfl, _, SqL.of ho7⟩, _, rfl, _, rfl, F', d, s, ns, houses, rfl, D7, h1, by omega, fun h H8 hh0 hh1 Y8 D8 => ?_⟩
      have ho8 : H8 o = some (.lst acc) := Y8.hh _ _ ho7 fun z => dO z.symm
      refine ⟨_, rfl, _, rfl, _, rfl, _, rfl, _, _, rfl, rfl, _, _, rfl, by show 3 ≤ sizeLine; decide, fun t nt => ?_⟩
      have ot : o ≠ t := ne_of_none ho8 nt
      have la : acc.length = i := by rw [pr_len hpr]; exact hlen
      refine ⟨o, acc, _, rfl, rfl, by rw [upd_ne ot]; exact ho8, by rw [sizeLine_eq]; omega, ?_⟩
      have XT := (X3.trans Y).trans Y8
      have fo9 : upd F' t (.tup [.int h, .int (1 + a), .int (if 1 + a + wd < far then 1 + a + wd else far)]) o = none := by rw [upd_ne ot]; exact fo3
      have sm : Same F' (upd F' t (.tup [.int h, .int (1 + a), .int (if 1 + a + wd < far then 1 + a + wd else far)])) := same_upd (XT.ffree nt)
      refine ⟨upd F' t (.tup [.int h, .int (1 + a), .int (if 1 + a + wd < far then 1 + a + wd else far)]), acc ++ [.ref t], rows ++ [(h, 1 + a, if 1 + a + wd < far then 1 + a + wd else far)], _, _, _, rfl,
        (XT.lay nt).put (.inl no) fo9, (D8.lay nt).set dO fo9, upd_same, fo9, pr_snoc (pr_mono (fun _ _ z => kRow.mono sm z) hpr) ⟨t, rfl, upd_same⟩, by rw [List.length_append, hlen]; rfl, fun r hr => ?_⟩
      rcases List.mem_append.mp hr with hr | hr
      · exact hdr r hr
      · rw [List.mem_singleton.mp hr]
        refine ⟨hh0, hh1, ?_, ?_, ?_⟩
        · show 1 ≤ 1 + a; omega
        · show 1 + a ≤ if 1 + a + wd < far then 1 + a + wd else far
          split <;> omega
        · show (if 1 + a + wd < far then 1 + a + wd else far) ≤ far
          split <;> omega
    · rintro σ H3 ⟨F', acc, rows, y5, y6, y7, rfl, X3, D3, ho3, fo3, hpr, hlen, hdr⟩
      exact ⟨_, rfl, q F' H3 o acc rows X3 D3 no fo3 ho3 hpr (by omega) hdr⟩
end
end Rw
namespace Rw
open PySem L2
open GxR (TabB TabG Tabbed)
/-! ### the law's own state: what never changes, the table of amount's code -/
structure WS (Pc : Addr) (F H : Hp) : Prop where
  same : Same F H
  tab : TabG H Pc
  fP : F Pc = none
section
variable {Pc : Addr} {F H F' H' : Hp}
theorem WS.step (S : WS Pc F H) (X : Ext M0 F H F' H') : WS Pc F' H' := by
  obtain ⟨pp, hp, ht⟩ := S.tab
  exact ⟨X.fh, ⟨pp, X.same _ _ hp, ht⟩, by rw [X.new Pc (by rw [hp]; simp)]; exact S.fP⟩
theorem WS.grow (S : WS Pc F H) (X : Ext (· = Pc) F H F' H') (t : TabG H' Pc) : WS Pc F' H' := by
  obtain ⟨pp, hp, ht⟩ := S.tab
  exact ⟨X.fh, t, by rw [X.new Pc (by rw [hp]; simp)]; exact S.fP⟩
theorem WS.ext (S : WS Pc F H) : Ext M0 F H F H := Ext.refl S.same
theorem retL_use {α : Type} {k : Kd α} {φ : List α → Prop} {Q : VK} (S : WS Pc F H) (h : ∀ (F' H' : Hp) (a : Addr) (out : List α), WS Pc F' H' → Same F F' → (kL k).is F' (.ref a) out → φ out → Q (.ref a) H') : RetL M0 F H k φ Q := fun F' H' a vs xs X na fa ha hp hx =>
  h _ H' a xs (S.step (X.frz na fa ha)) (X.frz na fa ha).ff (kL_new fa hp) hx
theorem eq_use {K : PySem.W.Frag} {x y : V} {xs ys : List Row} {Q : VK} (S : WS Pc F H) (hx : (kL kRow).is F x xs) (hy : (kL kRow).is F y ys) (h : Q (.bl (decide (xs = ys))) H) : rEqD K x y H Q :=
  ⟨dL dRow xs, dL dRow ys, (enc_L enc_row).dp S.same hx, (enc_L enc_row).dp S.same hy, shaped_rows _, shaped_rows _, by rw [eqv_rows]; exact h⟩
theorem ne_use {K : PySem.W.Frag} {x y : V} {xs ys : List Row} {Q : VK} (S : WS Pc F H) (hx : (kL kRow).is F x xs) (hy : (kL kRow).is F y ys) (h : Q (.bl (!decide (xs = ys))) H) : rNeD K x y H Q :=
  ⟨dL dRow xs, dL dRow ys, (enc_L enc_row).dp S.same hx, (enc_L enc_row).dp S.same hy, shaped_rows _, shaped_rows _, by rw [eqv_rows]; exact h⟩
end
theorem nil_of {out : List Row} (c : Canon out) (h : ∀ p, ¬ mem out p) : out = [] := by
  cases out with
  | nil => rfl
  | cons r rest => exact absurd (c.first List.mem_cons_self) (h _)
theorem of2_ok {one other out : List Row} {φ : Prop → Prop → Prop} (t : Of2 one other φ out) (hφ : ∀ a b, φ a b → a ∨ b) (h1 : RowsOk one) (h2 : RowsOk other) (hl : one.length + other.length ≤ 200) : RowsOk out :=
  ⟨Nat.le_trans t.len hl, canon_ok t.can fun p m => ((hφ _ _ ((t.mem p).mp m)).elim (rows_box h1.2) (rows_box h2.2))⟩
theorem mem_fore {rs : List Row} {p : Pt} : mem (fore rs) p ↔ ∃ r ∈ rs, r.1 = p.1 ∧ 1 ≤ p.2 ∧ p.2 ≤ r.2.2 := by
  constructor
  · rintro ⟨r, hr, i1, i2, i3⟩
    obtain ⟨s, hs, rfl⟩ := List.mem_map.mp hr
    exact ⟨s, hs, i1, i2, i3⟩
  · rintro ⟨r, hr, i1, i2, i3⟩
    exact ⟨_, List.mem_map.mpr ⟨r, hr, rfl⟩, i1, i2, i3⟩
theorem gaps_ok {rs out : List Row} (t : Without (fore rs) rs out) (h : RowsOk rs) (hl : rs.length ≤ 100) : RowsOk out := by
  have e : (fore rs).length = rs.length := List.length_map ..
  refine ⟨by have := t.len; omega, canon_ok t.can fun p m => ?_⟩
  obtain ⟨r, hr, i1, i2, i3⟩ := mem_fore.mp ((t.mem p).mp m).1
  obtain ⟨a, b, c, d, e⟩ := h.2 r hr
  unfold InBox
  omega
/-- what is whole ahead of the last ones -/
theorem filled {one lack j : List Row} (h1 : RowsOk one) (t : Without (fore one) one lack) (u : Of2 one lack fOr j) (p : Pt) : mem j p ↔ ∃ r ∈ one, r.1 = p.1 ∧ 1 ≤ p.2 ∧ p.2 ≤ r.2.2 := by
  rw [u.mem p]
  show mem one p ∨ mem lack p ↔ _
  rw [t.mem p, ← mem_fore]
  constructor
  · rintro (⟨r, hr, i1, i2, i3⟩ | h)
    · refine mem_fore.mpr ⟨r, hr, i1, ?_, i3⟩
      have := (h1.2 r hr).2.2.1
      omega
    · exact h.1
  · intro h
    by_cases m : mem one p
    · exact .inl m
    · exact .inr ⟨h, m⟩
end Rw
namespace Rw
open PySem L2
open GxR (TabB TabG Tabbed)
def spEnds (Pc : Addr) : Sp := fun vs H Q _ => ∃ (F : Hp) (v : V) (one : List Row), vs = [v] ∧ WS Pc F H ∧ (kL kRow).is F v one ∧ RowsOk one ∧ one.length ≤ 40 ∧ ∀ H', Q (.bl true) H'
theorem nil_lay {Pc p : Addr} {F H : Hp} (S : WS Pc F H) (np : H p = none) : WS Pc (upd F p (.lst [])) (upd H p (.lst [])) ∧ Same F (upd F p (.lst [])) ∧ (kL kRow).is (upd F p (.lst [])) (.ref p) [] :=
  ⟨S.step (S.ext.lay np), same_upd (S.ext.ffree np), p, [], rfl, upd_same, .nil⟩
structure TxE (mg : Str → Option Value) : Prop where
  range : mg "range" = none
  max : mg "max" = none
section
variable {P : Program} {w : World} {K : PySem.W.Frag} {mg : Str → Option Value} {base : Heap}
theorem ok_law_ends {f Pc : Addr} {fd : FuncData} (F0 : Fun K "_law_ends" "_law_ends" s_law_ends f fd) (T : TxE mg) (CG : Cal P w K mg base 6 "gaps" ["rows"] spGaps) (CC : Cal P w K mg base 6 "common" ["one", "other"] (sp2 fAnd)) (CJ : Cal P w K mg base 6 "joined" ["one", "other"] (sp2 fOr))
    (CH : Cal P w K mg base 6 "whole_to" ["rows", "house"] spWholeTo) (CW : Cal P w K mg base 6 "within" ["one", "other"] spWithin) : FnOk P w K mg base CX0 7 f fd ["_law_one"] (spEnds Pc) := by
  obtain ⟨f1, fd1, G1, g1, kp1, b1⟩ := CG
  obtain ⟨f2, fd2, G2, g2, kp2, b2⟩ := CC
  obtain ⟨f3, fd3, G3, g3, kp3, b3⟩ := CJ
  obtain ⟨f4, fd4, G4, g4, kp4, b4⟩ := CH
  obtain ⟨f5, fd5, G5, g5, kp5, b5⟩ := CW
  refine F0.ok sc_law_ends (fun vs H Q E h => ?_) (fun cdv A outer s H vs Q E hr h => ?_)
  · obtain ⟨F, v, one, rfl, _⟩ := h
    rfl
  · obtain ⟨F, v, one, rfl, S0, hv, ok1, l40, q⟩ := h
    have hr6 : Room 6 _ := hr
    refine ⟨_, pss_cons (ps_set (i := 1) sc_law_ends.nd rfl (.inl rfl) (pe_call G1 hr6 (by rfl) g1 kp1 b1 .nil pass0 (pa_cons (pv 0) pa_nil)))
      (pss_cons (ps_if (PW.pt (pw_or (pt_cmpR (op_neD hr.units) (pe_call G2 hr6 (by rfl) g2 kp2 b2 .nil pass0 (pa_cons (pv 1) (pa_cons (pv 0) pa_nil))) (pe_lst pa_nil) (nomark _))
          (pw_or1 (pt_cmpR (op_neD hr.units) (pe_call G1 hr6 (by rfl) g1 kp1 b1 .nil pass0 (pa_cons (pe_call G3 hr6 (by rfl) g3 kp3 b3 .nil pass0 (pa_cons (pv 0) (pa_cons (pv 1) pa_nil))) pa_nil)) (pe_lst pa_nil) (nomark _))))) (pss_one (ps_ret pe_bl)) pss_nil)
      (pss_cons (ps_for PassesOwn.never rfl (pi_range1 (by rfl) T.range (pa_cons pe_int pa_nil)) (pg_name (i := 2) sc_law_ends.nd rfl (.inr rfl))
        (pss_cons (ps_set (i := 3) sc_law_ends.nd rfl (.inl rfl) (pe_call G4 hr6 (by rfl) g4 kp4 b4 .nil pass0 (pa_cons (pe_call G3 hr6 (by rfl) g3 kp3 b3 .nil pass0 (pa_cons (pv 0) (pa_cons (pv 1) pa_nil))) (pa_cons (pv 2) pa_nil))))
        (pss_cons (ps_if (pt_cmpR op_ne (pv 3) (pe_callB (cr_max (by rfl)) (by rfl) T.max (by decide +kernel) (pa_cons (pe_op op_cat (pe_lst (pa_cons pe_int pa_nil))
            (pe_lc (own := [("_law_row", 4)]) (g := gName 4) (tt := tTest (tOp rEq (tOp (rIxT K) (tVar 4) (tC (.int 0))) (tVar 2))) (te := tOp (rIxT K) (tVar 4) (tC (.int 2))) (by rfl) sc_law_ends.nd (pi_list (pv 0))
              (blkOk_by (own := [("_law_row", 4)]) (N := ["_law_one", "_law_lacking", "_law_house", "_law_last", "_law_row"]) (sc := defScope s_law_ends) (by decide +kernel)) (fun _ _ _ _ _ => pg_name (i := 4) sc_law_ends.nd rfl (Or.inl rfl))
              (fun _ _ _ _ _ => pts_one (pt_cmpR op_eq (pe_ix ix_tup (pv 4) pe_int (fun _ _ => rfl)) (pv 2) (nomark _))) (fun _ _ _ _ _ => pe_ix ix_tup (pv 4) pe_int (fun _ _ => rfl)))) pa_nil)) (nomark _)) (pss_one (ps_ret pe_bl)) pss_nil)
        (pss_one (ps_if (PW.pt (pw_and (pt_cmpR op_gt (pe_call G4 hr6 (by rfl) g4 kp4 b4 .nil pass0 (pa_cons (pv 0) (pa_cons (pv 2) pa_nil))) pe_int (nomark _))
            (pw_and1 (pt_not (pt_val (pe_call G5 hr6 (by rfl) g5 kp5 b5 .nil pass0 (pa_cons (pe_lst (pa_cons (pe_tup (pa_cons (pv 2) (pa_cons pe_int (pa_cons (pe_call G4 hr6 (by rfl) g4 kp4 b4 .nil pass0 (pa_cons (pv 0) (pa_cons (pv 2) pa_nil))) pa_nil)))) pa_nil)) (pa_cons (pv 0) pa_nil)))))))) (pss_one (ps_ret pe_bl)) pss_nil)))))
      (pss_one (ps_ret pe_bl)))), ?_⟩
    -- lacking = gaps(one)
    refine ⟨_, rfl, F, v, one, rfl, S0.same, hv, ok1, retL_use S0 fun F1 H1 a1 lack S1 m1 k1 t1 => ?_⟩
    have okL : RowsOk lack := gaps_ok t1 ok1 (by omega)
    have ll : lack.length ≤ 80 := by
      have e : (fore one).length = one.length := List.length_map ..
      have := t1.len
      omega
    have hv1 := (kL kRow).mono m1 hv
    -- common(lacking, one) != []
    refine ⟨_, rfl, _, rfl, F1, .ref a1, v, lack, one, rfl, S1.same, k1, hv1, okL, ok1, retL_use S1 fun F2 H2 a2 c S2 m2 k2 t2 => ?_⟩
    refine ⟨Nat.zero_le _, fun p np => ?_⟩
    obtain ⟨S3, m3, k3⟩ := nil_lay S2 np
    have c0 : c = [] := nil_of t2.can fun p m => by
      have z := (t2.mem p).mp m
      exact ((t1.mem p).mp z.1).2 z.2
    refine ne_use S3 ((kL kRow).mono m3 k2) k3 ⟨_, rfl, iteNS c0 ?_⟩
    -- gaps(joined(one, lacking)) != []
    have hv3 := (kL kRow).mono (m2.trans m3) hv1
    have k13 := (kL kRow).mono (m2.trans m3) k1
    refine ⟨_, rfl, _, rfl, _, v, .ref a1, one, lack, rfl, S3.same, hv3, k13, ok1, okL, retL_use S3 fun F4 H4 a4 j S4 m4 k4 t4 => ?_⟩
    have okJ : RowsOk j := of2_ok t4 (fun a b h => h) ok1 okL (by omega)
    have lj : j.length ≤ 120 := by have := t4.len; omega
    refine ⟨F4, .ref a4, j, rfl, S4.same, k4, okJ, retL_use S4 fun F5 H5 a5 g S5 m5 k5 t5 => ?_⟩
    refine ⟨Nat.zero_le _, fun p' np' => ?_⟩
    obtain ⟨S6, m6, k6⟩ := nil_lay S5 np'
    have g0 : g = [] := nil_of t5.can fun p m => by
      obtain ⟨z1, z2⟩ := (t5.mem p).mp m
      obtain ⟨r, hr, i1, i2, i3⟩ := mem_fore.mp z1
      have o := okJ.2 r hr
      obtain ⟨r', hr', j1, j2, j3⟩ := (filled ok1 t1 t4 (r.1, r.2.2)).mp ⟨r, hr, rfl, o.2.2.2.1, Int.le_refl _⟩
      simp only at j1 j2 j3
      exact z2 ((filled ok1 t1 t4 p).mpr ⟨r', hr', by omega, i2, by omega⟩)
    refine ne_use S6 ((kL kRow).mono m6 k5) k6 ⟨_, rfl, iteNS g0 ?_⟩
    have mA : Same F1 (upd F5 p' (.lst [])) := (((m2.trans m3).trans m4).trans m5).trans m6
    have hv6 := (kL kRow).mono mA hv1
    have k16 := (kL kRow).mono mA k1
    revert S6 hv6 k16
    generalize upd F5 p' (.lst []) = FA
    generalize upd H5 p' (.lst []) = HA
    intro S6 hv6 k16
    -- the houses
    refine ⟨8, rfl, by decide, by decide, for_range (lo := 0) (n := (8 : Int).toNat) (fun i σ H' => ∃ F' y2 y3, σ = [some v, some (.ref a1), y2, y3, none] ∧ WS Pc F' H' ∧ (kL kRow).is F' v one ∧ (kL kRow).is F' (.ref a1) lack) ⟨FA, none, none, rfl, S6, hv6, k16⟩ ?_ ?_⟩
    · rintro i σ HB hi ⟨FB, y2, y3, rfl, SB, hvB, kB⟩
      have hi8 : i < 8 := hi
      have h0 : (0 : Int) ≤ 0 + (i : Int) := by omega
      have h7 : 0 + (i : Int) ≤ 7 := by omega
      generalize hh : 0 + (i : Int) = hs at h0 h7
      -- last = whole_to(joined(one, lacking), house)
      refine ⟨_, rfl, _, rfl, _, v, .ref a1, one, lack, rfl, SB.same, hvB, kB, ok1, okL, retL_use SB fun FC HC aC jC SC mC kC tC => ?_⟩
      have okJ' : RowsOk jC := of2_ok tC (fun a b h => h) ok1 okL (by omega)
      refine ⟨_, rfl, FC, .ref aC, jC, hs, rfl, SC.same, kC, okJ', h0, h7, fun z FD HD XD hz => ?_⟩
      have SD := SC.step XD
      have hvD := (kL kRow).mono (mC.trans XD.ff) hvB
      have kD := (kL kRow).mono (mC.trans XD.ff) kB
      -- the greatest last number of the house's rows
      refine ⟨_, rfl, by show 1 ≤ sizeLine; decide, fun p1 np1 => ?_⟩
      obtain ⟨av, xs, ev, hav, hpv⟩ := id hvD
      have XE := SD.ext.tmp (o := .lst [.int 0]) np1
      have h1E : upd HD p1 (.lst [.int 0]) p1 = some (.lst [.int 0]) := upd_same
      revert XE h1E
      generalize upd HD p1 (.lst [V.int 0]) = HE
      intro XE h1E
      refine ⟨_, rfl, av, ev, ⟨xs, SqL.of (XE.fh _ _ hav)⟩, fun D nD => ?_⟩
      have HDn : HD D = none := XE.free nD
      have p1D : p1 ≠ D := ne_of_none h1E nD
      refine it_by (walk_list (K := K) (a := av) (xs := xs)) (fun j H' => ∃ vals : List Int, Ext M0 FD HD FD H' ∧ H' D = some (.lst (vals.map V.int)) ∧ FD D = none ∧ H' p1 = some (.lst [.int 0]) ∧ vals.length ≤ j ∧ (∀ k ∈ vals, ∃ r ∈ one, r.1 = hs ∧ k = r.2.2) ∧ ∀ r ∈ one.take j, r.1 = hs → r.2.2 ∈ vals)
        ⟨[], XE.tmp nD, upd_same, XE.ffree nD, by rw [upd_ne p1D]; exact h1E, Nat.le_refl _, fun k h => absurd h (by simp), fun r h => absurd h (by simp)⟩ (fun j H' _ ⟨_, X, _⟩ => SqL.of (X.fh _ _ hav)) ?_ ?_
      · rintro j x HF _ hj ⟨vals, XF, hDF, fDF, h1F, lv, va, vb⟩ ⟨rfl, hx⟩
        obtain ⟨r, hrj, tr, rfl, htr⟩ := pr_get hpv hx
        have htF := XF.fh _ _ htr
        have hlx : j < 40 := by
          have := pr_len hpv
          omega
        have eT : one.take (j + 1) = one.take j ++ [r] := by rw [List.take_add_one, hrj]; rfl
        refine ⟨rfl, _, rfl, tr, _, 0, _, rfl, rfl, SqT.of htF, rfl, _, rfl, rfl, _, rfl, ?_⟩
        by_cases e : r.1 = hs
        · rw [decide_eq_true (show V.int r.1 = V.int hs by rw [e])]
          refine ⟨_, rfl, tr, _, 2, .int r.2.2, rfl, rfl, SqT.of htF, rfl, vals.map V.int, hDF, by rw [List.length_map, sizeLine_eq]; omega, vals ++ [r.2.2], XF.put (.inl HDn) fDF, ?_, fDF, by rw [upd_ne p1D]; exact h1F, by rw [List.length_append]; simp; omega, fun k hk => ?_, fun s hs' es => ?_⟩
          · rw [List.map_append]; exact upd_same
          · rcases List.mem_append.mp hk with hk | hk
            · exact va k hk
            · rw [List.mem_singleton.mp hk]; exact ⟨r, List.mem_of_getElem? hrj, e, rfl⟩
          · rw [eT] at hs'
            rcases List.mem_append.mp hs' with hs' | hs'
            · exact List.mem_append_left _ (vb s hs' es)
            · rw [List.mem_singleton.mp hs']; simp
        · rw [decide_eq_false (show ¬ V.int r.1 = V.int hs from fun z => e (V.int.inj z))]
          refine ⟨vals, XF, hDF, fDF, h1F, by omega, va, fun s hs' es => ?_⟩
          rw [eT] at hs'
          rcases List.mem_append.mp hs' with hs' | hs'
          · exact vb s hs' es
          · rw [List.mem_singleton.mp hs'] at es; exact absurd es e
      · rintro HF ⟨vals, XF, hDF, fDF, h1F, lv, va, vb⟩
        rw [pr_len hpv, List.take_length] at vb
        have lv40 : vals.length ≤ 40 := by have := pr_len hpv; omega
        refine ⟨p1, D, _, _, rfl, rfl, h1F, hDF, by rw [List.length_map, sizeLine_eq]; simp; omega, fun p3 np3 => ?_⟩
        refine ⟨p3, 0 :: vals, rfl, SqL.of upd_same, by simp, fun m hm hle => ?_⟩
        have ez : z = m := by
          have a1 : z ≤ m := by
            rcases (show z = 0 ∨ 1 ≤ z by have := hz.nn; omega) with c | c
            · have := hle 0 List.mem_cons_self; omega
            · obtain ⟨r, hr, i1, i2, i3⟩ := (filled ok1 t1 tC _).mp (hz.all z c (Int.le_refl _))
              have := hle r.2.2 (List.mem_cons_of_mem _ (vb r hr i1))
              simp only at i3
              omega
          have a2 : m ≤ z := by
            rcases List.mem_cons.mp hm with c | c
            · have := hz.nn; omega
            · obtain ⟨r, hr, er, ek⟩ := va m c
              have n := hz.stop
              have : ¬ z + 1 ≤ r.2.2 := fun q => n ((filled ok1 t1 tC _).mpr ⟨r, hr, er, by have := hz.nn; simp only; omega, q⟩)
              omega
          omega
        refine ⟨rfl, _, rfl, iteNS (by rw [ez]) ?_⟩
        have SG : WS Pc FD (upd HF p3 (.lst ([V.int 0] ++ vals.map V.int))) := SD.step (XF.tmp np3)
        revert SG
        generalize upd HF p3 (.lst ([V.int 0] ++ vals.map V.int)) = HG
        intro SG
        -- whole_to(one, house) > 0
        refine ⟨_, rfl, _, rfl, FD, v, one, hs, rfl, SG.same, hvD, ok1, h0, h7, fun z1 F7 H7 X7 hz1 => ?_⟩
        have S7 := SG.step X7
        have hv7 := (kL kRow).mono X7.ff hvD
        have k7 := (kL kRow).mono X7.ff kD
        refine ⟨_, _, rfl, rfl, _, rfl, ite2 (fun c1 => ?_) (fun c1 => ?_)⟩
        · have c1 := of_decide_eq_true c1
          refine ⟨_, rfl, _, rfl, _, rfl, F7, v, one, hs, rfl, S7.same, hv7, ok1, h0, h7, fun z2 F8 H8 X8 hz2 => ?_⟩
          have S8 := S7.step X8
          have hv8 := (kL kRow).mono X8.ff hv7
          have k8 := (kL kRow).mono X8.ff k7
          have z2p : 0 < z2 := by
            rcases (show z2 = 0 ∨ 0 < z2 by have := hz2.nn; omega) with c | c
            · exfalso
              have n := hz2.stop
              rw [c] at n
              exact n (hz1.all 1 (Int.le_refl _) (by omega))
            · exact c
          refine ⟨by show 3 ≤ sizeLine; decide, fun t nt => ⟨by show 1 ≤ sizeLine; decide, fun p4 np4 => ?_⟩⟩
          have X9 := (S8.ext.lay (o := .tup [.int hs, .int 1, .int z2]) nt).lay (o := .lst [.ref t]) np4
          have S9 := S8.step X9
          have tp : t ≠ p4 := by
            intro e
            rw [e, upd_same] at np4
            cases np4
          have kw : (kL kRow).is (upd (upd F8 t (.tup [.int hs, .int 1, .int z2])) p4 (.lst [.ref t])) (.ref p4) [(hs, 1, z2)] :=
            ⟨p4, [.ref t], rfl, upd_same, .cons ⟨t, rfl, by rw [upd_ne tp]; exact upd_same⟩ .nil⟩
          have okw : RowsOk [(hs, 1, z2)] := by
            refine ⟨by simp, fun r hr => ?_⟩
            rw [List.mem_singleton.mp hr]
            have b := rows_box ok1.2 (hz2.all z2 (by omega) (Int.le_refl _))
            unfold InBox at b
            simp only at b
            exact ⟨h0, h7, Int.le_refl _, by show 1 ≤ z2; omega, b.2.2.2⟩
          refine ⟨_, rfl, _, .ref p4, v, [(hs, 1, z2)], one, rfl, S9.same, kw, (kL kRow).mono X9.ff hv8, okw, ok1, fun b FX HX XX hb => ?_⟩
          have bt : b = true := hb.mpr fun p m => by
            obtain ⟨r, hr, i1, i2, i3⟩ := m
            rw [List.mem_singleton.mp hr] at i1 i2 i3
            have := hz2.all p.2 i2 i3
            simp only at i1
            rw [i1] at this
            exact this
          rw [bt]
          exact ⟨true, rfl, iteF ⟨FX, _, _, rfl, S9.step XX, (kL kRow).mono (X9.ff.trans XX.ff) hv8, (kL kRow).mono (X9.ff.trans XX.ff) k8⟩⟩
        · exact iteF ⟨F7, _, _, rfl, S7, hv7, k7⟩
    · rintro σ HB ⟨FB, y2, y3, rfl, SB, hvB, kB⟩
      exact q _
end
end Rw
namespace Rw
open PySem L2
open GxR (TabB TabG Tabbed)
section
variable {Pc : Addr} {F H : Hp} {Q : VK} {v u : V} {one other : List Row}
theorem c2_use {φ : Prop → Prop → Prop} (S : WS Pc F H) (hv : (kL kRow).is F v one) (hu : (kL kRow).is F u other) (ok1 : RowsOk one) (ok2 : RowsOk other)
    (h : ∀ (F' H' : Hp) (a : Addr) (out : List Row), WS Pc F' H' → Same F F' → (kL kRow).is F' (.ref a) out → Of2 one other φ out → Q (.ref a) H') : sp2 φ [v, u] H Q E0 :=
  ⟨F, v, u, one, other, rfl, S.same, hv, hu, ok1, ok2, retL_use S h⟩
theorem pl_use (S : WS Pc F H) (hv : (kL kRow).is F v one) (ok1 : RowsOk one)
    (h : ∀ (F' H' : Hp) (a : Addr) (out : List Row), WS Pc F' H' → Same F F' → (kL kRow).is F' (.ref a) out → Fewest one out → Q (.ref a) H') : spPlain [v] H Q E0 :=
  ⟨F, v, one, rfl, S.same, hv, ok1, retL_use S h⟩
theorem am_use (S : WS Pc F H) (hv : (kL kRow).is F v one) (ok1 : RowsOk one) (h : ∀ (F' H' : Hp), WS Pc F' H' → Same F F' → Q (.int (amt one)) H') : spAmount Pc [v] H Q E0 :=
  ⟨F, v, one, rfl, S.same, hv, ok1, S.tab, S.fP, fun out F' H' t X tg => by rw [amt_told ok1.2 t]; exact h F' H' (S.grow X tg) X.ff⟩
theorem wi_use (S : WS Pc F H) (hv : (kL kRow).is F v one) (hu : (kL kRow).is F u other) (ok1 : RowsOk one) (ok2 : RowsOk other)
    (h : ∀ (b : Bool) (F' H' : Hp), WS Pc F' H' → Same F F' → (b = true ↔ ∀ p, mem one p → mem other p) → Q (.bl b) H') : spWithin [v, u] H Q E0 :=
  ⟨F, v, u, one, other, rfl, S.same, hv, hu, ok1, ok2, fun b F' H' X hb => h b F' H' (S.step X) X.ff hb⟩
theorem bm_use {sets : List (List Row)} {least : Int} (S : WS Pc F H) (hv : (kL (kL kRow)).is F v sets) (ok1 : ∀ rs ∈ sets, RowsOk rs) (hl : sets.length ≤ 100) (h1 : 1 ≤ least) (h2 : least ≤ sets.length)
    (h : ∀ (F' H' : Hp) (a : Addr) (out : List Row), WS Pc F' H' → Same F F' → (kL kRow).is F' (.ref a) out → Held sets least out → Q (.ref a) H') : spByMany [v, .int least] H Q E0 :=
  ⟨F, v, sets, least, rfl, S.same, hv, ok1, hl, h1, h2, retL_use S h⟩
end
/-- the five that the law keeps -/
structure K5 (F : Hp) (v1 v2 v3 vb ve : V) (one two three both every : List Row) : Prop where
  a : (kL kRow).is F v1 one
  b : (kL kRow).is F v2 two
  c : (kL kRow).is F v3 three
  i : (kL kRow).is F vb both
  u : (kL kRow).is F ve every
theorem K5.mono {F F' : Hp} {v1 v2 v3 vb ve : V} {one two three both every : List Row} (k : K5 F v1 v2 v3 vb ve one two three both every) (m : Same F F') : K5 F' v1 v2 v3 vb ve one two three both every :=
  ⟨(kL kRow).mono m k.a, (kL kRow).mono m k.b, (kL kRow).mono m k.c, (kL kRow).mono m k.i, (kL kRow).mono m k.u⟩
abbrev isR (F : Hp) (v : V) (rs : List Row) : Prop := (kL kRow).is F v rs
theorem isR.mv {F F' : Hp} {v : V} {rs : List Row} (h : isR F v rs) (m : Same F F') : isR F' v rs := (kL kRow).mono m h
def spLaw (K : PySem.W.Frag) (Pc : Addr) : Sp := fun vs H Q _ => ∃ (s : Addr) (ns : List Int), vs = [.ref s] ∧ SqL K H s (ns.map V.int) ∧ H Pc = some (.tbl #[]) ∧ ∀ H', Q (.bl true) H'
theorem iteS {c A B : Prop} [Decidable c] (hc : c) (h : A) : if decide c = true then A else B := by
  rw [decide_eq_true hc]
  exact iteT h
theorem cnt3 {a b c : List Row} {p : Pt} : cnt [a, b, c] p = ind (mem a p) + (ind (mem b p) + (ind (mem c p) + 0)) := rfl
theorem ind_sum {A B U I : Prop} [Decidable A] [Decidable B] [Decidable U] [Decidable I] (u : U ↔ A ∨ B) (i : I ↔ A ∧ B) : ind A + ind B = ind U + ind I := by
  by_cases a : A <;> by_cases b : B <;> simp [ind, u, i, a, b]
theorem ind_less {A B L I E : Prop} [Decidable A] [Decidable B] [Decidable L] [Decidable I] [Decidable E] (l : L ↔ A ∧ ¬ B) (i : I ↔ A ∧ B) (e : ¬ E) : ind L + ind I = ind A + ind E := by
  by_cases a : A <;> by_cases b : B <;> simp [ind, l, i, a, b, e]
theorem amt_nil : amt [] = 0 := by
  have e : amt [] + amt [] = amt [] + amt [] + 0 := by omega
  have h := amt_sum (a := []) (b := []) (c := []) (d := []) fun p => rfl
  rw [amt, box_congr _ (fun p => ind_neg (mem_nil (p := p)))]
  exact box_zero _
theorem wi_less {one two out : List Row} {b : Bool} (t : Of2 one two fLess out) (h : b = true ↔ ∀ p, mem one p → mem two p) : b = decide (out = []) := by
  rw [Bool.eq_iff_iff, h, decide_eq_true_eq]
  constructor
  · intro k
    exact nil_of t.can fun p m => by
      have z := (t.mem p).mp m
      exact z.2 (k p z.1)
  · rintro rfl p m
    exact Classical.byContradiction fun z => mem_nil ((t.mem p).mpr ⟨m, z⟩)
theorem sets_lay {Pc p : Addr} {F H : Hp} {v1 v2 v3 vb ve : V} {one two three both every : List Row} (S : WS Pc F H) (k : K5 F v1 v2 v3 vb ve one two three both every) (np : H p = none) :
    WS Pc (upd F p (.lst [v1, v2, v3])) (upd H p (.lst [v1, v2, v3])) ∧ Same F (upd F p (.lst [v1, v2, v3])) ∧ (kL (kL kRow)).is (upd F p (.lst [v1, v2, v3])) (.ref p) [one, two, three] := by
  have m := same_upd (o := .lst [v1, v2, v3]) (S.ext.ffree np)
  exact ⟨S.step (S.ext.lay np), m, p, _, rfl, upd_same, .cons ((kL kRow).mono m k.a) (.cons ((kL kRow).mono m k.b) (.cons ((kL kRow).mono m k.c) .nil))⟩
theorem DiceAt.frz {K : PySem.W.Frag} {F H F' H' : Hp} {d s a : Addr} {ns : List Int} {o : HO} (D : DiceAt K F H d s ns) (X : Ext (· = d) F H F' H') (D' : DiceAt K F' H' d s ns) (na : H a = none) (fa : F' a = none) (ha : H' a = some o) : DiceAt K (upd F' a o) H' d s ns := by
  obtain ⟨i, m, r, hd, g⟩ := D'.ex
  have X' := X.frz na fa ha
  exact ⟨X'.fh, by rw [upd_ne (D.ne na)]; exact D'.fd, X'.ff.seq D.sc, i, m, r, hd, g⟩
theorem drawn_ok {rows : List Row} {far : Int} (hl : (rows.length : Int) ≤ 20) (f : far ≤ LIM) (h : ∀ r ∈ rows, Drawn 8 far r) : RowsOk rows :=
  ⟨by omega, fun r hr => by
    obtain ⟨a, b, c, d, e⟩ := h r hr
    exact ⟨a, by omega, c, d, by omega⟩⟩
theorem but_seq {K : PySem.W.Frag} {H : Hp} {s Pc : Addr} {ns : List V} (hP : H Pc = some (.tbl #[])) (h : SqL K H s ns) : SqL K (but H Pc) s ns := by
  rcases h with (h | ⟨o, h⟩) | h
  · exact .inl (.inl (by rw [but_at (fun e => by rw [e, hP] at h; cases h)]; exact h))
  · exact .inl (.inr ⟨o, by rw [but_at (fun e => by rw [e, hP] at h; cases h)]; exact h⟩)
  · exact .inr h
structure Cals (P : Program) (w : World) (K : PySem.W.Frag) (mg : Str → Option Value) (base : Heap) (Pc : Addr) : Prop where
  dice : Cal P w K mg base 1 "_law_dice" ["_law_script"] (spDice K)
  next : Cal P w K mg base 1 "_law_next" ["_law_dice_here", "_law_many"] (spNext K)
  rows : Cal P w K mg base 2 "_law_rows" ["_law_d", "_law_houses", "_law_far", "_law_most"] (spRows K)
  common : Cal P w K mg base 6 "common" ["one", "other"] (sp2 fAnd)
  joined : Cal P w K mg base 6 "joined" ["one", "other"] (sp2 fOr)
  less : Cal P w K mg base 6 "less" ["one", "other"] (sp2 fLess)
  plain : Cal P w K mg base 6 "plain" ["rows"] spPlain
  amount : Cal P w K mg base 6 "amount" ["rows"] (spAmount Pc)
  within : Cal P w K mg base 6 "within" ["one", "other"] spWithin
  by_many : Cal P w K mg base 6 "by_many" ["sets", "least"] spByMany
  ends : Cal P w K mg base 7 "_law_ends" ["_law_one"] (spEnds Pc)
section
variable {P : Program} {w : World} {K : PySem.W.Frag} {mg : Str → Option Value} {base : Heap}
set_option maxHeartbeats 0 in
theorem ok_law {f Pc : Addr} {fd : FuncData} (F0 : Fun K "law" "law" s_law f fd) (C : Cals P w K mg base Pc) : FnOk P w K mg base CX0 8 f fd ["_law_script"] (spLaw K Pc) := by
  obtain ⟨C1, C2, C3, C4, C5, C6, C7, C8, C9, C10, C11⟩ := C
  obtain ⟨fD, fdD, GD, gD, kpD, bD⟩ := C1
  obtain ⟨fN, fdN, GN, gN, kpN, bN⟩ := C2
  obtain ⟨fR, fdR, GR, gR, kpR, bR⟩ := C3
  obtain ⟨fC, fdC, GC, gC, kpC, bC⟩ := C4
  obtain ⟨fJ, fdJ, GJ, gJ, kpJ, bJ⟩ := C5
  obtain ⟨fL, fdL, GL, gL, kpL, bL⟩ := C6
  obtain ⟨fP, fdP, GP, gP, kpP, bP⟩ := C7
  obtain ⟨fA, fdA, GA, gA, kpA, bA⟩ := C8
  obtain ⟨fW, fdW, GW, gW, kpW, bW⟩ := C9
  obtain ⟨fB, fdB, GB, gB, kpB, bB⟩ := C10
  obtain ⟨fE, fdE, GE, gE, kpE, bE⟩ := C11
  refine F0.ok sc_law (fun vs H Q E h => ?_) (fun cdv A outer s0 H vs Q E hr h => ?_)
  · obtain ⟨s, ns, rfl, _⟩ := h
    rfl
  · obtain ⟨s, ns, rfl, hs, hPc, q⟩ := h
    have hr1 : Room 1 _ := hr.mono (by decide)
    have hr2 : Room 2 _ := hr.mono (by decide)
    have hr6 : Room 6 _ := hr.mono (by decide)
    have hr7 : Room 7 _ := hr.mono (by decide)
    have hu := hr.units
    refine ⟨_, pss_cons (ps_set (i := 1) sc_law.nd rfl (.inl rfl) (pe_call GD hr1 (by rfl) gD kpD bD .nil pass0 (pa_cons (pv 0) pa_nil)))
      (pss_cons (ps_set (i := 2) sc_law.nd rfl (.inl rfl) (pe_ix ix_list (pe_lst (pa_cons pe_int (pa_cons (pe_op op_pow pe_int pe_int) (pa_cons (pe_op op_pow pe_int pe_int) pa_nil)))) (pe_call GN hr1 (by rfl) gN kpN bN .nil pass0 (pa_cons (pv 1) (pa_cons pe_int pa_nil))) (fun _ _ => rfl)))
      (pss_cons (ps_par3 (i := 3) (j := 4) (l := 5) (by rfl) sc_law.nd rfl rfl rfl (by decide) (by decide) (by decide) rfl rfl rfl
          (pa_cons (pe_call GR hr2 (by rfl) gR kpR bR .nil pass0 (pa_cons (pv 1) (pa_cons pe_int (pa_cons (pv 2) (pa_cons pe_int pa_nil))))) (pa_cons (pe_call GR hr2 (by rfl) gR kpR bR .nil pass0 (pa_cons (pv 1) (pa_cons pe_int (pa_cons (pv 2) (pa_cons pe_int pa_nil)))))
            (pa_cons (pe_call GR hr2 (by rfl) gR kpR bR .nil pass0 (pa_cons (pv 1) (pa_cons pe_int (pa_cons (pv 2) (pa_cons pe_int pa_nil))))) pa_nil))) rfl)
      (pss_cons (ps_set (i := 6) sc_law.nd rfl (.inl rfl) (pe_call GC hr6 (by rfl) gC kpC bC .nil pass0 (pa_cons (pv 3) (pa_cons (pv 4) pa_nil))))
      (pss_cons (ps_set (i := 7) sc_law.nd rfl (.inl rfl) (pe_call GJ hr6 (by rfl) gJ kpJ bJ .nil pass0 (pa_cons (pv 3) (pa_cons (pv 4) pa_nil))))
      (pss_cons (ps_if (PW.pt (pw_or (pt_cmpR (op_neD hu) (pv 7) (pe_call GJ hr6 (by rfl) gJ kpJ bJ .nil pass0 (pa_cons (pv 4) (pa_cons (pv 3) pa_nil))) (nomark _)) (pw_or (pt_cmpR (op_neD hu) (pv 6) (pe_call GC hr6 (by rfl) gC kpC bC .nil pass0 (pa_cons (pv 4) (pa_cons (pv 3) pa_nil))) (nomark _)) (pw_or (pt_cmpR (op_neD hu) (pe_call GP hr6 (by rfl) gP kpP bP .nil pass0 (pa_cons (pv 7) pa_nil)) (pv 7) (nomark _)) (pw_or1 (pt_cmpR (op_neD hu) (pe_call GP hr6 (by rfl) gP kpP bP .nil pass0 (pa_cons (pv 6) pa_nil)) (pv 6) (nomark _))))))) (pss_one (ps_ret pe_bl)) pss_nil)
      (pss_cons (ps_if (pt_cmpR (op_neD hu) (pe_call GJ hr6 (by rfl) gJ kpJ bJ .nil pass0 (pa_cons (pe_call GJ hr6 (by rfl) gJ kpJ bJ .nil pass0 (pa_cons (pv 3) (pa_cons (pv 4) pa_nil))) (pa_cons (pv 5) pa_nil))) (pe_call GJ hr6 (by rfl) gJ kpJ bJ .nil pass0 (pa_cons (pv 3) (pa_cons (pe_call GJ hr6 (by rfl) gJ kpJ bJ .nil pass0 (pa_cons (pv 4) (pa_cons (pv 5) pa_nil))) pa_nil))) (nomark _)) (pss_one (ps_ret pe_bl)) pss_nil)
      (pss_cons (ps_if (pt_cmpR (op_neD hu) (pe_call GC hr6 (by rfl) gC kpC bC .nil pass0 (pa_cons (pv 3) (pa_cons (pe_call GJ hr6 (by rfl) gJ kpJ bJ .nil pass0 (pa_cons (pv 4) (pa_cons (pv 5) pa_nil))) pa_nil))) (pe_call GJ hr6 (by rfl) gJ kpJ bJ .nil pass0 (pa_cons (pv 6) (pa_cons (pe_call GC hr6 (by rfl) gC kpC bC .nil pass0 (pa_cons (pv 3) (pa_cons (pv 5) pa_nil))) pa_nil))) (nomark _)) (pss_one (ps_ret pe_bl)) pss_nil)
      (pss_cons (ps_if (PW.pt (pw_or (pt_cmpR (op_neD hu) (pe_call GJ hr6 (by rfl) gJ kpJ bJ .nil pass0 (pa_cons (pe_call GL hr6 (by rfl) gL kpL bL .nil pass0 (pa_cons (pv 3) (pa_cons (pv 4) pa_nil))) (pa_cons (pv 6) pa_nil))) (pe_call GP hr6 (by rfl) gP kpP bP .nil pass0 (pa_cons (pv 3) pa_nil)) (nomark _)) (pw_or1 (pt_cmpR (op_neD hu) (pe_call GC hr6 (by rfl) gC kpC bC .nil pass0 (pa_cons (pe_call GL hr6 (by rfl) gL kpL bL .nil pass0 (pa_cons (pv 3) (pa_cons (pv 4) pa_nil))) (pa_cons (pv 4) pa_nil))) (pe_lst pa_nil) (nomark _))))) (pss_one (ps_ret pe_bl)) pss_nil)
      (pss_cons (ps_if (PW.pt (pw_or (pt_cmpR (op_neD hu) (pe_call GL hr6 (by rfl) gL kpL bL .nil pass0 (pa_cons (pv 3) (pa_cons (pe_call GJ hr6 (by rfl) gJ kpJ bJ .nil pass0 (pa_cons (pv 4) (pa_cons (pv 5) pa_nil))) pa_nil))) (pe_call GL hr6 (by rfl) gL kpL bL .nil pass0 (pa_cons (pe_call GL hr6 (by rfl) gL kpL bL .nil pass0 (pa_cons (pv 3) (pa_cons (pv 4) pa_nil))) (pa_cons (pv 5) pa_nil))) (nomark _)) (pw_or1 (pt_cmpR (op_neD hu) (pe_call GL hr6 (by rfl) gL kpL bL .nil pass0 (pa_cons (pv 3) (pa_cons (pe_call GL hr6 (by rfl) gL kpL bL .nil pass0 (pa_cons (pv 3) (pa_cons (pv 4) pa_nil))) pa_nil))) (pv 6) (nomark _))))) (pss_one (ps_ret pe_bl)) pss_nil)
      (pss_cons (ps_if (pt_cmpR op_ne (pe_op op_add (pe_call GA hr6 (by rfl) gA kpA bA .nil pass0 (pa_cons (pv 3) pa_nil)) (pe_call GA hr6 (by rfl) gA kpA bA .nil pass0 (pa_cons (pv 4) pa_nil))) (pe_op op_add (pe_call GA hr6 (by rfl) gA kpA bA .nil pass0 (pa_cons (pv 7) pa_nil)) (pe_call GA hr6 (by rfl) gA kpA bA .nil pass0 (pa_cons (pv 6) pa_nil))) (nomark _)) (pss_one (ps_ret pe_bl)) pss_nil)
      (pss_cons (ps_if (pt_cmpR op_ne (pe_call GA hr6 (by rfl) gA kpA bA .nil pass0 (pa_cons (pe_call GL hr6 (by rfl) gL kpL bL .nil pass0 (pa_cons (pv 3) (pa_cons (pv 4) pa_nil))) pa_nil)) (pe_op op_sub (pe_call GA hr6 (by rfl) gA kpA bA .nil pass0 (pa_cons (pv 3) pa_nil)) (pe_call GA hr6 (by rfl) gA kpA bA .nil pass0 (pa_cons (pv 6) pa_nil))) (nomark _)) (pss_one (ps_ret pe_bl)) pss_nil)
      (pss_cons (ps_if (PW.pt (pw_or (pt_not (pt_val (pe_call GW hr6 (by rfl) gW kpW bW .nil pass0 (pa_cons (pv 6) (pa_cons (pv 3) pa_nil))))) (pw_or (pt_not (pt_val (pe_call GW hr6 (by rfl) gW kpW bW .nil pass0 (pa_cons (pv 3) (pa_cons (pv 7) pa_nil))))) (pw_or1 (pt_cmpR op_ne (pe_call GW hr6 (by rfl) gW kpW bW .nil pass0 (pa_cons (pv 3) (pa_cons (pv 4) pa_nil))) (pe_cmpR (op_eqD hu) (pe_call GL hr6 (by rfl) gL kpL bL .nil pass0 (pa_cons (pv 3) (pa_cons (pv 4) pa_nil))) (pe_lst pa_nil) (nomark _)) (nomark _)))))) (pss_one (ps_ret pe_bl)) pss_nil)
      (pss_cons (ps_set (i := 8) sc_law.nd rfl (.inl rfl) (pe_lst (pa_cons (pv 3) (pa_cons (pv 4) (pa_cons (pv 5) pa_nil)))))
      (pss_cons (ps_if (PW.pt (pw_or (pt_cmpR (op_neD hu) (pe_call GB hr6 (by rfl) gB kpB bB .nil pass0 (pa_cons (pv 8) (pa_cons pe_int pa_nil))) (pe_call GJ hr6 (by rfl) gJ kpJ bJ .nil pass0 (pa_cons (pv 7) (pa_cons (pv 5) pa_nil))) (nomark _)) (pw_or1 (pt_cmpR (op_neD hu) (pe_call GB hr6 (by rfl) gB kpB bB .nil pass0 (pa_cons (pv 8) (pa_cons pe_int pa_nil))) (pe_call GC hr6 (by rfl) gC kpC bC .nil pass0 (pa_cons (pv 6) (pa_cons (pv 5) pa_nil))) (nomark _))))) (pss_one (ps_ret pe_bl)) pss_nil)
      (pss_cons (ps_set (i := 9) sc_law.nd rfl (.inl rfl) (pe_call GJ hr6 (by rfl) gJ kpJ bJ .nil pass0 (pa_cons (pe_call GJ hr6 (by rfl) gJ kpJ bJ .nil pass0 (pa_cons (pv 6) (pa_cons (pe_call GC hr6 (by rfl) gC kpC bC .nil pass0 (pa_cons (pv 3) (pa_cons (pv 5) pa_nil))) pa_nil))) (pa_cons (pe_call GC hr6 (by rfl) gC kpC bC .nil pass0 (pa_cons (pv 4) (pa_cons (pv 5) pa_nil))) pa_nil))))
      (pss_one (ps_ret (pe_and (pe_cmpR (op_eqD hu) (pe_call GB hr6 (by rfl) gB kpB bB .nil pass0 (pa_cons (pv 8) (pa_cons pe_int pa_nil))) (pv 9) (nomark _)) (pe_one (pe_call GE hr7 (by rfl) gE kpE bE .nil pass0 (pa_cons (pv 3) pa_nil))))))))))))))))))))), ?_⟩
    -- the dice
    refine ⟨_, rfl, s, ns, rfl, hs, fun d m nd gd => ?_⟩
    have dP : d ≠ Pc := fun e => by rw [e, hPc] at nd; cases nd
    have fd0 : but H Pc d = none := by rw [but_at dP]; exact nd
    have D0 : DiceAt K (but H Pc) (upd H d (dice s 0 m 0)) d s ns := ⟨same_put but_same fd0, fd0, but_seq hPc hs, 0, m, 0, upd_same, gd⟩
    have hP0 : upd H d (dice s 0 m 0) Pc = some (.tbl #[]) := by rw [upd_ne (Ne.symm dP)]; exact hPc
    have fP0 : but H Pc Pc = none := but_self
    revert D0 hP0 fP0
    generalize upd H d (dice s 0 m 0) = H0
    generalize but H Pc = F0
    intro D0 hP0 fP0
    -- far
    refine ⟨_, _, rfl, rfl, ⟨by decide, by decide, by decide⟩, _, _, rfl, rfl, ⟨by decide, by decide, by decide⟩, by show 3 ≤ sizeLine; decide, fun p np => ?_⟩
    refine ⟨_, rfl, F0, d, s, ns, 3, rfl, D0.tmp np, by decide, by decide, fun e H1 e0 e1 Y1 D1 => ?_⟩
    have pd : ¬ p = d := fun z => (D0.ne np) z.symm
    have hp1 := Y1.hh p _ upd_same pd
    have Pp : Pc ≠ p := ne_of_none hP0 np
    have hP1 : H1 Pc = some (.tbl #[]) := Y1.hh _ _ (by rw [upd_ne Pp]; exact hP0) (Ne.symm dP)
    obtain ⟨far, f1, fL, hw⟩ : ∃ far : Int, 1 ≤ far ∧ far ≤ LIM ∧ atI [V.int 20, V.int (10 ^ (6 : Int).toNat), V.int (10 ^ (12 : Int).toNat)] e = some (.int far) := by
      rcases (show e = 0 ∨ e = 1 ∨ e = 2 by omega) with z | z | z
      · exact ⟨20, by decide, by decide, by rw [z]; rfl⟩
      · exact ⟨10 ^ (6 : Int).toNat, by decide, by decide, by rw [z]; rfl⟩
      · exact ⟨10 ^ (12 : Int).toNat, by decide, by decide, by rw [z]; rfl⟩
    refine ⟨p, _, e, _, rfl, rfl, SqL.of hp1, hw, ?_⟩
    clear pd hp1 Pp hw Y1
    -- the rows
    refine ⟨_, rfl, _, rfl, F0, d, s, ns, 8, far, 20, rfl, D1, by decide, by decide, f1, fL, by decide, by decide, fun F2 H2 a2 x2 one X2 D2 na2 fa2 ha2 hp2 hl2 hd2 => ?_⟩
    have E2 := D1.frz X2 D2 na2 fa2 ha2
    have hP2 : H2 Pc = some (.tbl #[]) := X2.hh _ _ hP1 (Ne.symm dP)
    have fP2 : upd F2 a2 (.lst x2) Pc = none := by rw [(X2.frz na2 fa2 ha2).new Pc (by rw [hP1]; simp)]; exact fP0
    have k2 := kL_new fa2 hp2
    have okA := drawn_ok hl2 fL hd2
    have l1 : one.length ≤ 20 := by omega
    refine ⟨_, rfl, _, rfl, _, d, s, ns, 8, far, 20, rfl, E2, by decide, by decide, f1, fL, by decide, by decide, fun F3 H3 a3 x3 two X3 D3 na3 fa3 ha3 hp3 hl3 hd3 => ?_⟩
    have E3 := E2.frz X3 D3 na3 fa3 ha3
    have hP3 : H3 Pc = some (.tbl #[]) := X3.hh _ _ hP2 (Ne.symm dP)
    have Y3 := X3.frz na3 fa3 ha3
    have fP3 : upd F3 a3 (.lst x3) Pc = none := by rw [Y3.new Pc (by rw [hP2]; simp)]; exact fP2
    have k3 := kL_new fa3 hp3
    have okB := drawn_ok hl3 fL hd3
    have l2 : two.length ≤ 20 := by omega
    refine ⟨_, rfl, _, rfl, _, d, s, ns, 8, far, 20, rfl, E3, by decide, by decide, f1, fL, by decide, by decide, fun F4 H4 a4 x4 three X4 D4 na4 fa4 ha4 hp4 hl4 hd4 => ?_⟩
    have E4 := E3.frz X4 D4 na4 fa4 ha4
    have hP4 : H4 Pc = some (.tbl #[]) := X4.hh _ _ hP3 (Ne.symm dP)
    have Y4 := X4.frz na4 fa4 ha4
    have fP4 : upd F4 a4 (.lst x4) Pc = none := by rw [Y4.new Pc (by rw [hP3]; simp)]; exact fP3
    have k4 := kL_new fa4 hp4
    have okC := drawn_ok hl4 fL hd4
    have l3 : three.length ≤ 20 := by omega
    have SA : WS Pc (upd F4 a4 (.lst x4)) H4 := ⟨E4.fh, ⟨_, hP4, trivial⟩, fP4⟩
    have q2 := (kL kRow).mono (Y3.ff.trans Y4.ff) k2
    have q3 := (kL kRow).mono Y4.ff k3
    revert SA k4 q2 q3
    generalize upd F4 a4 (.lst x4) = FA
    intro k4 SA q2 q3
    refine ⟨_, _, _, rfl, ?_⟩
    -- both, every
    refine ⟨_, rfl, _, rfl, c2_use SA q2 q3 okA okB fun FB HB aB both SB mB kB tI => ?_⟩
    have okI : RowsOk both := of2_ok tI (fun a b h => .inl h.1) okA okB (by omega)
    have lI : both.length ≤ 40 := Nat.le_trans tI.len (by omega)
    refine ⟨_, rfl, _, rfl, c2_use SB ((kL kRow).mono mB q2) ((kL kRow).mono mB q3) okA okB fun FC HC aC every S0 mC kC tU => ?_⟩
    have okU : RowsOk every := of2_ok tU (fun a b h => h) okA okB (by omega)
    have lU : every.length ≤ 40 := Nat.le_trans tU.len (by omega)
    have kk : K5 FC (.ref a2) (.ref a3) (.ref a4) (.ref aB) (.ref aC) one two three both every :=
      ⟨(kL kRow).mono (mB.trans mC) q2, (kL kRow).mono (mB.trans mC) q3, (kL kRow).mono (mB.trans mC) k4, (kL kRow).mono mC kB, kC⟩
    clear q2 q3 k2 k3 k4 kB kC
    refine ⟨_, rfl, _, rfl, _, rfl, c2_use S0 kk.b kk.a okB okA fun F1 H1 a1 o1 S1 m1 k1 t1 => ?_⟩
    replace kk := kk.mono m1
    have l1 : o1.length ≤ 40 := Nat.le_trans t1.len (by omega)
    have ok1 : RowsOk o1 := of2_ok t1 (fun a b h => h) okB okA (by omega)
    refine ne_use S1 kk.u k1 ⟨_, rfl, iteNS (Canon.uniq tU.can t1.can fun p => by first | (simp only [tU.mem, t1.mem, fOr, fAnd, fLess, cnt3]; done) | ((try simp only [tU.mem, t1.mem, fOr, fAnd, fLess, cnt3]); by_cases x1 : mem one p <;> by_cases x2 : mem two p <;> by_cases x3 : mem three p <;> simp [x1, x2, x3, ind])) ?_⟩
    refine ⟨_, rfl, _, rfl, _, rfl, c2_use S1 kk.b kk.a okB okA fun F2 H2 a2 o2 S2 m2 k2 t2 => ?_⟩
    replace kk := kk.mono m2
    have l2 : o2.length ≤ 40 := Nat.le_trans t2.len (by omega)
    have ok2 : RowsOk o2 := of2_ok t2 (fun a b h => .inl h.1) okB okA (by omega)
    refine ne_use S2 kk.i k2 ⟨_, rfl, iteNS (Canon.uniq tI.can t2.can fun p => by first | (simp only [tI.mem, t2.mem, fOr, fAnd, fLess, cnt3]; done) | ((try simp only [tI.mem, t2.mem, fOr, fAnd, fLess, cnt3]); by_cases x1 : mem one p <;> by_cases x2 : mem two p <;> by_cases x3 : mem three p <;> simp [x1, x2, x3, ind])) ?_⟩
    refine ⟨_, rfl, pl_use S2 kk.u okU fun F3 H3 a3 o3 S3 m3 k3 t3 => ?_⟩
    replace kk := kk.mono m3
    refine ⟨_, rfl, ne_use S3 k3 kk.u ⟨_, rfl, iteNS (Canon.uniq t3.can tU.can fun p => by first | (simp only [t3.mem, tU.mem, fOr, fAnd, fLess, cnt3]; done) | ((try simp only [t3.mem, tU.mem, fOr, fAnd, fLess, cnt3]); by_cases x1 : mem one p <;> by_cases x2 : mem two p <;> by_cases x3 : mem three p <;> simp [x1, x2, x3, ind])) ?_⟩⟩
    refine ⟨_, rfl, pl_use S3 kk.i okI fun F4 H4 a4 o4 S4 m4 k4 t4 => ?_⟩
    replace kk := kk.mono m4
    refine ⟨_, rfl, ne_use S4 k4 kk.i ⟨_, rfl, iteNS (Canon.uniq t4.can tI.can fun p => by first | (simp only [t4.mem, tI.mem, fOr, fAnd, fLess, cnt3]; done) | ((try simp only [t4.mem, tI.mem, fOr, fAnd, fLess, cnt3]); by_cases x1 : mem one p <;> by_cases x2 : mem two p <;> by_cases x3 : mem three p <;> simp [x1, x2, x3, ind])) ?_⟩⟩
    refine ⟨_, rfl, _, rfl, c2_use S4 kk.a kk.b okA okB fun F5 H5 a5 o5 S5 m5 k5 t5 => ?_⟩
    replace kk := kk.mono m5
    have l5 : o5.length ≤ 40 := Nat.le_trans t5.len (by omega)
    have ok5 : RowsOk o5 := of2_ok t5 (fun a b h => h) okA okB (by omega)
    refine ⟨_, rfl, c2_use S5 k5 kk.c ok5 okC fun F6 H6 a6 o6 S6 m6 k6 t6 => ?_⟩
    replace kk := kk.mono m6
    have l6 : o6.length ≤ 60 := Nat.le_trans t6.len (by omega)
    have ok6 : RowsOk o6 := of2_ok t6 (fun a b h => h) ok5 okC (by omega)
    refine ⟨_, rfl, _, rfl, _, rfl, c2_use S6 kk.b kk.c okB okC fun F7 H7 a7 o7 S7 m7 k7 t7 => ?_⟩
    replace kk := kk.mono m7
    replace k6 := isR.mv k6 m7
    have l7 : o7.length ≤ 40 := Nat.le_trans t7.len (by omega)
    have ok7 : RowsOk o7 := of2_ok t7 (fun a b h => h) okB okC (by omega)
    refine c2_use S7 kk.a k7 okA ok7 fun F8 H8 a8 o8 S8 m8 k8 t8 => ?_
    replace kk := kk.mono m8
    replace k6 := isR.mv k6 m8
    have l8 : o8.length ≤ 60 := Nat.le_trans t8.len (by omega)
    have ok8 : RowsOk o8 := of2_ok t8 (fun a b h => h) okA ok7 (by omega)
    refine ne_use S8 k6 k8 ⟨_, rfl, iteNS (Canon.uniq t6.can t8.can fun p => by first | (simp only [t6.mem, t5.mem, t8.mem, t7.mem, fOr, fAnd, fLess, cnt3]; done) | ((try simp only [t6.mem, t5.mem, t8.mem, t7.mem, fOr, fAnd, fLess, cnt3]); by_cases x1 : mem one p <;> by_cases x2 : mem two p <;> by_cases x3 : mem three p <;> simp [x1, x2, x3, ind])) ?_⟩
    refine ⟨_, rfl, _, rfl, _, rfl, c2_use S8 kk.b kk.c okB okC fun F9 H9 a9 o9 S9 m9 k9 t9 => ?_⟩
    replace kk := kk.mono m9
    have l9 : o9.length ≤ 40 := Nat.le_trans t9.len (by omega)
    have ok9 : RowsOk o9 := of2_ok t9 (fun a b h => h) okB okC (by omega)
    refine c2_use S9 kk.a k9 okA ok9 fun F10 H10 a10 o10 S10 m10 k10 t10 => ?_
    replace kk := kk.mono m10
    have l10 : o10.length ≤ 60 := Nat.le_trans t10.len (by omega)
    have ok10 : RowsOk o10 := of2_ok t10 (fun a b h => .inl h.1) okA ok9 (by omega)
    refine ⟨_, rfl, _, rfl, _, rfl, c2_use S10 kk.a kk.c okA okC fun F11 H11 a11 o11 S11 m11 k11 t11 => ?_⟩
    replace kk := kk.mono m11
    replace k10 := isR.mv k10 m11
    have l11 : o11.length ≤ 40 := Nat.le_trans t11.len (by omega)
    have ok11 : RowsOk o11 := of2_ok t11 (fun a b h => .inl h.1) okA okC (by omega)
    refine c2_use S11 kk.i k11 okI ok11 fun F12 H12 a12 o12 S12 m12 k12 t12 => ?_
    replace kk := kk.mono m12
    replace k10 := isR.mv k10 m12
    have l12 : o12.length ≤ 80 := Nat.le_trans t12.len (by omega)
    have ok12 : RowsOk o12 := of2_ok t12 (fun a b h => h) okI ok11 (by omega)
    refine ne_use S12 k10 k12 ⟨_, rfl, iteNS (Canon.uniq t10.can t12.can fun p => by first | (simp only [t10.mem, t9.mem, t12.mem, tI.mem, t11.mem, fOr, fAnd, fLess, cnt3]; done) | ((try simp only [t10.mem, t9.mem, t12.mem, tI.mem, t11.mem, fOr, fAnd, fLess, cnt3]); by_cases x1 : mem one p <;> by_cases x2 : mem two p <;> by_cases x3 : mem three p <;> simp [x1, x2, x3, ind])) ?_⟩
    refine ⟨_, rfl, _, rfl, c2_use S12 kk.a kk.b okA okB fun F13 H13 a13 o13 S13 m13 k13 t13 => ?_⟩
    replace kk := kk.mono m13
    have l13 : o13.length ≤ 40 := Nat.le_trans t13.len (by omega)
    have ok13 : RowsOk o13 := of2_ok t13 (fun a b h => .inl h.1) okA okB (by omega)
    refine ⟨_, rfl, c2_use S13 k13 kk.i ok13 okI fun F14 H14 a14 o14 S14 m14 k14 t14 => ?_⟩
    replace kk := kk.mono m14
    have l14 : o14.length ≤ 80 := Nat.le_trans t14.len (by omega)
    have ok14 : RowsOk o14 := of2_ok t14 (fun a b h => h) ok13 okI (by omega)
    refine ⟨_, rfl, pl_use S14 kk.a okA fun F15 H15 a15 o15 S15 m15 k15 t15 => ?_⟩
    replace kk := kk.mono m15
    replace k14 := isR.mv k14 m15
    refine ne_use S15 k14 k15 ⟨_, rfl, iteNS (Canon.uniq t14.can t15.can fun p => by first | (simp only [t14.mem, t13.mem, tI.mem, t15.mem, fOr, fAnd, fLess, cnt3]; done) | ((try simp only [t14.mem, t13.mem, tI.mem, t15.mem, fOr, fAnd, fLess, cnt3]); by_cases x1 : mem one p <;> by_cases x2 : mem two p <;> by_cases x3 : mem three p <;> simp [x1, x2, x3, ind])) ?_⟩
    refine ⟨_, rfl, _, rfl, c2_use S15 kk.a kk.b okA okB fun F16 H16 a16 o16 S16 m16 k16 t16 => ?_⟩
    replace kk := kk.mono m16
    have l16 : o16.length ≤ 40 := Nat.le_trans t16.len (by omega)
    have ok16 : RowsOk o16 := of2_ok t16 (fun a b h => .inl h.1) okA okB (by omega)
    refine ⟨_, rfl, c2_use S16 k16 kk.b ok16 okB fun F17 H17 a17 o17 S17 m17 k17 t17 => ?_⟩
    replace kk := kk.mono m17
    have l17 : o17.length ≤ 60 := Nat.le_trans t17.len (by omega)
    have ok17 : RowsOk o17 := of2_ok t17 (fun a b h => .inl h.1) ok16 okB (by omega)
    refine ⟨Nat.zero_le _, fun p18 np18 => ?_⟩
    obtain ⟨S18, m18, k18⟩ := nil_lay S17 np18
    replace kk := kk.mono m18
    replace k17 := isR.mv k17 m18
    refine ne_use S18 k17 k18 ⟨_, rfl, iteNS (nil_of t17.can fun p => by first | (simp only [t17.mem, t16.mem, fOr, fAnd, fLess, cnt3]; done) | ((try simp only [t17.mem, t16.mem, fOr, fAnd, fLess, cnt3]); by_cases x1 : mem one p <;> by_cases x2 : mem two p <;> by_cases x3 : mem three p <;> simp [x1, x2, x3, ind])) ?_⟩
    refine ⟨_, rfl, _, rfl, _, rfl, c2_use S18 kk.b kk.c okB okC fun F19 H19 a19 o19 S19 m19 k19 t19 => ?_⟩
    replace kk := kk.mono m19
    have l19 : o19.length ≤ 40 := Nat.le_trans t19.len (by omega)
    have ok19 : RowsOk o19 := of2_ok t19 (fun a b h => h) okB okC (by omega)
    refine c2_use S19 kk.a k19 okA ok19 fun F20 H20 a20 o20 S20 m20 k20 t20 => ?_
    replace kk := kk.mono m20
    have l20 : o20.length ≤ 60 := Nat.le_trans t20.len (by omega)
    have ok20 : RowsOk o20 := of2_ok t20 (fun a b h => .inl h.1) okA ok19 (by omega)
    refine ⟨_, rfl, _, rfl, c2_use S20 kk.a kk.b okA okB fun F21 H21 a21 o21 S21 m21 k21 t21 => ?_⟩
    replace kk := kk.mono m21
    replace k20 := isR.mv k20 m21
    have l21 : o21.length ≤ 40 := Nat.le_trans t21.len (by omega)
    have ok21 : RowsOk o21 := of2_ok t21 (fun a b h => .inl h.1) okA okB (by omega)
    refine ⟨_, rfl, c2_use S21 k21 kk.c ok21 okC fun F22 H22 a22 o22 S22 m22 k22 t22 => ?_⟩
    replace kk := kk.mono m22
    replace k20 := isR.mv k20 m22
    have l22 : o22.length ≤ 60 := Nat.le_trans t22.len (by omega)
    have ok22 : RowsOk o22 := of2_ok t22 (fun a b h => .inl h.1) ok21 okC (by omega)
    refine ne_use S22 k20 k22 ⟨_, rfl, iteNS (Canon.uniq t20.can t22.can fun p => by first | (simp only [t20.mem, t19.mem, t22.mem, t21.mem, fOr, fAnd, fLess, cnt3]; done) | ((try simp only [t20.mem, t19.mem, t22.mem, t21.mem, fOr, fAnd, fLess, cnt3]); by_cases x1 : mem one p <;> by_cases x2 : mem two p <;> by_cases x3 : mem three p <;> simp [x1, x2, x3, ind])) ?_⟩
    refine ⟨_, rfl, _, rfl, _, rfl, c2_use S22 kk.a kk.b okA okB fun F23 H23 a23 o23 S23 m23 k23 t23 => ?_⟩
    replace kk := kk.mono m23
    have l23 : o23.length ≤ 40 := Nat.le_trans t23.len (by omega)
    have ok23 : RowsOk o23 := of2_ok t23 (fun a b h => .inl h.1) okA okB (by omega)
    refine c2_use S23 kk.a k23 okA ok23 fun F24 H24 a24 o24 S24 m24 k24 t24 => ?_
    replace kk := kk.mono m24
    have l24 : o24.length ≤ 60 := Nat.le_trans t24.len (by omega)
    have ok24 : RowsOk o24 := of2_ok t24 (fun a b h => .inl h.1) okA ok23 (by omega)
    refine ⟨_, rfl, ne_use S24 k24 kk.i ⟨_, rfl, iteNS (Canon.uniq t24.can tI.can fun p => by first | (simp only [t24.mem, t23.mem, tI.mem, fOr, fAnd, fLess, cnt3]; done) | ((try simp only [t24.mem, t23.mem, tI.mem, fOr, fAnd, fLess, cnt3]); by_cases x1 : mem one p <;> by_cases x2 : mem two p <;> by_cases x3 : mem three p <;> simp [x1, x2, x3, ind])) ?_⟩⟩
    refine ⟨_, rfl, _, _, one, rfl, S24.same, kk.a, okA, S24.tab, S24.fP, fun out25 F25 H25 t25 X25 tg25 => ?_⟩
    rw [amt_told okA.2 t25]
    have S25 := S24.grow X25 tg25
    have m25 := X25.ff
    replace kk := kk.mono m25
    refine ⟨_, rfl, _, _, two, rfl, S25.same, kk.b, okB, S25.tab, S25.fP, fun out26 F26 H26 t26 X26 tg26 => ?_⟩
    rw [amt_told okB.2 t26]
    have S26 := S25.grow X26 tg26
    have m26 := X26.ff
    replace kk := kk.mono m26
    refine ⟨_, _, rfl, rfl, _, rfl, _, _, every, rfl, S26.same, kk.u, okU, S26.tab, S26.fP, fun out27 F27 H27 t27 X27 tg27 => ?_⟩
    rw [amt_told okU.2 t27]
    have S27 := S26.grow X27 tg27
    have m27 := X27.ff
    replace kk := kk.mono m27
    refine ⟨_, rfl, _, _, both, rfl, S27.same, kk.i, okI, S27.tab, S27.fP, fun out28 F28 H28 t28 X28 tg28 => ?_⟩
    rw [amt_told okI.2 t28]
    have S28 := S27.grow X28 tg28
    have m28 := X28.ff
    replace kk := kk.mono m28
    have e1 : amt one + amt two = amt every + amt both := amt_sum fun p => ind_sum (tU.mem p) (tI.mem p)
    revert e1
    generalize amt one = z1
    generalize amt two = z2
    generalize amt every = z3
    generalize amt both = z4
    intro e1
    refine ⟨_, _, rfl, rfl, rfl, _, rfl, iteNS (congrArg V.int e1) ?_⟩
    refine ⟨_, rfl, _, rfl, c2_use S28 kk.a kk.b okA okB fun F29 H29 a29 o29 S29 m29 k29 t29 => ?_⟩
    replace kk := kk.mono m29
    have l29 : o29.length ≤ 40 := Nat.le_trans t29.len (by omega)
    have ok29 : RowsOk o29 := of2_ok t29 (fun a b h => .inl h.1) okA okB (by omega)
    refine ⟨_, _, o29, rfl, S29.same, k29, ok29, S29.tab, S29.fP, fun out30 F30 H30 t30 X30 tg30 => ?_⟩
    rw [amt_told ok29.2 t30]
    have S30 := S29.grow X30 tg30
    have m30 := X30.ff
    replace kk := kk.mono m30
    refine ⟨_, rfl, _, _, one, rfl, S30.same, kk.a, okA, S30.tab, S30.fP, fun out31 F31 H31 t31 X31 tg31 => ?_⟩
    rw [amt_told okA.2 t31]
    have S31 := S30.grow X31 tg31
    have m31 := X31.ff
    replace kk := kk.mono m31
    refine ⟨_, rfl, _, _, both, rfl, S31.same, kk.i, okI, S31.tab, S31.fP, fun out32 F32 H32 t32 X32 tg32 => ?_⟩
    rw [amt_told okI.2 t32]
    have S32 := S31.grow X32 tg32
    have m32 := X32.ff
    replace kk := kk.mono m32
    have e2 : amt o29 + amt both = amt one + amt [] := amt_sum fun p => ind_less (t29.mem p) (tI.mem p) mem_nil
    rw [amt_nil] at e2
    revert e2
    generalize amt one = z1
    generalize amt o29 = z2
    generalize amt both = z4
    intro e2
    refine ⟨_, _, rfl, rfl, rfl, _, rfl, iteNS (congrArg V.int (by omega)) ?_⟩
    refine ⟨_, rfl, _, rfl, _, _, _, both, one, rfl, S32.same, kk.i, kk.a, okI, okA, fun b33 F33 H33 X33 hb33 => ?_⟩
    have S33 := S32.step X33
    have m33 := X33.ff
    replace kk := kk.mono m33
    obtain rfl : b33 = true := hb33.mpr fun p => by first | (simp only [tI.mem, fOr, fAnd, fLess, cnt3]; done) | ((try simp only [tI.mem, fOr, fAnd, fLess, cnt3]); by_cases x1 : mem one p <;> by_cases x2 : mem two p <;> by_cases x3 : mem three p <;> simp [x1, x2, x3, ind])
    refine ⟨_, rfl, iteF ?_⟩
    refine ⟨_, rfl, _, rfl, _, _, _, one, every, rfl, S33.same, kk.a, kk.u, okA, okU, fun b34 F34 H34 X34 hb34 => ?_⟩
    have S34 := S33.step X34
    have m34 := X34.ff
    replace kk := kk.mono m34
    obtain rfl : b34 = true := hb34.mpr fun p => by first | (simp only [tU.mem, fOr, fAnd, fLess, cnt3]; done) | ((try simp only [tU.mem, fOr, fAnd, fLess, cnt3]); by_cases x1 : mem one p <;> by_cases x2 : mem two p <;> by_cases x3 : mem three p <;> simp [x1, x2, x3, ind])
    refine ⟨_, rfl, iteF ?_⟩
    refine ⟨_, rfl, _, rfl, _, _, _, one, two, rfl, S34.same, kk.a, kk.b, okA, okB, fun b35 F35 H35 X35 hb35 => ?_⟩
    have S35 := S34.step X35
    have m35 := X35.ff
    replace kk := kk.mono m35
    refine ⟨_, rfl, _, rfl, c2_use S35 kk.a kk.b okA okB fun F36 H36 a36 o36 S36 m36 k36 t36 => ?_⟩
    replace kk := kk.mono m36
    have l36 : o36.length ≤ 40 := Nat.le_trans t36.len (by omega)
    have ok36 : RowsOk o36 := of2_ok t36 (fun a b h => .inl h.1) okA okB (by omega)
    refine ⟨Nat.zero_le _, fun p37 np37 => ?_⟩
    obtain ⟨S37, m37, k37⟩ := nil_lay S36 np37
    replace kk := kk.mono m37
    replace k36 := isR.mv k36 m37
    have e3 : b35 = decide (o36 = []) := wi_less t36 hb35
    refine eq_use S37 k36 k37 ⟨rfl, _, rfl, iteNS (congrArg V.bl e3) ?_⟩
    refine ⟨_, rfl, _, rfl, _, rfl, by show 3 ≤ sizeLine; decide, fun p38 np38 => ?_⟩
    obtain ⟨S38, m38, KS⟩ := sets_lay S37 kk np38
    replace kk := kk.mono m38
    have okS : ∀ rs ∈ [one, two, three], RowsOk rs := fun rs h => by simp only [List.mem_cons, List.mem_nil_iff, or_false] at h; rcases h with rfl | rfl | rfl <;> assumption
    refine ⟨_, rfl, bm_use S38 KS okS (by simp) (by decide) (by simp) fun F39 H39 a39 o39 S39 m39 k39 t39 => ?_⟩
    replace kk := kk.mono m39
    replace KS := (kL (kL kRow)).mono m39 KS
    refine ⟨_, rfl, _, rfl, c2_use S39 kk.u kk.c okU okC fun F40 H40 a40 o40 S40 m40 k40 t40 => ?_⟩
    replace kk := kk.mono m40
    replace k39 := isR.mv k39 m40
    replace KS := (kL (kL kRow)).mono m40 KS
    have l40 : o40.length ≤ 60 := Nat.le_trans t40.len (by omega)
    have ok40 : RowsOk o40 := of2_ok t40 (fun a b h => h) okU okC (by omega)
    refine ne_use S40 k39 k40 ⟨_, rfl, iteNS (Canon.uniq t39.can t40.can fun p => by first | (simp only [t39.mem, t40.mem, tU.mem, fOr, fAnd, fLess, cnt3]; done) | ((try simp only [t39.mem, t40.mem, tU.mem, fOr, fAnd, fLess, cnt3]); by_cases x1 : mem one p <;> by_cases x2 : mem two p <;> by_cases x3 : mem three p <;> simp [x1, x2, x3, ind])) ?_⟩
    refine ⟨_, rfl, bm_use S40 KS okS (by simp) (by decide) (by simp) fun F41 H41 a41 o41 S41 m41 k41 t41 => ?_⟩
    replace kk := kk.mono m41
    replace KS := (kL (kL kRow)).mono m41 KS
    refine ⟨_, rfl, _, rfl, c2_use S41 kk.i kk.c okI okC fun F42 H42 a42 o42 S42 m42 k42 t42 => ?_⟩
    replace kk := kk.mono m42
    replace k41 := isR.mv k41 m42
    replace KS := (kL (kL kRow)).mono m42 KS
    have l42 : o42.length ≤ 60 := Nat.le_trans t42.len (by omega)
    have ok42 : RowsOk o42 := of2_ok t42 (fun a b h => .inl h.1) okI okC (by omega)
    refine ne_use S42 k41 k42 ⟨_, rfl, iteNS (Canon.uniq t41.can t42.can fun p => by first | (simp only [t41.mem, t42.mem, tI.mem, fOr, fAnd, fLess, cnt3]; done) | ((try simp only [t41.mem, t42.mem, tI.mem, fOr, fAnd, fLess, cnt3]); by_cases x1 : mem one p <;> by_cases x2 : mem two p <;> by_cases x3 : mem three p <;> simp [x1, x2, x3, ind])) ?_⟩
    refine ⟨_, rfl, _, rfl, _, rfl, c2_use S42 kk.a kk.c okA okC fun F43 H43 a43 o43 S43 m43 k43 t43 => ?_⟩
    replace kk := kk.mono m43
    replace KS := (kL (kL kRow)).mono m43 KS
    have l43 : o43.length ≤ 40 := Nat.le_trans t43.len (by omega)
    have ok43 : RowsOk o43 := of2_ok t43 (fun a b h => .inl h.1) okA okC (by omega)
    refine c2_use S43 kk.i k43 okI ok43 fun F44 H44 a44 o44 S44 m44 k44 t44 => ?_
    replace kk := kk.mono m44
    replace KS := (kL (kL kRow)).mono m44 KS
    have l44 : o44.length ≤ 80 := Nat.le_trans t44.len (by omega)
    have ok44 : RowsOk o44 := of2_ok t44 (fun a b h => h) okI ok43 (by omega)
    refine ⟨_, rfl, _, rfl, c2_use S44 kk.b kk.c okB okC fun F45 H45 a45 o45 S45 m45 k45 t45 => ?_⟩
    replace kk := kk.mono m45
    replace k44 := isR.mv k44 m45
    replace KS := (kL (kL kRow)).mono m45 KS
    have l45 : o45.length ≤ 40 := Nat.le_trans t45.len (by omega)
    have ok45 : RowsOk o45 := of2_ok t45 (fun a b h => .inl h.1) okB okC (by omega)
    refine c2_use S45 k44 k45 ok44 ok45 fun F46 H46 a46 o46 S46 m46 k46 t46 => ?_
    replace kk := kk.mono m46
    replace KS := (kL (kL kRow)).mono m46 KS
    have l46 : o46.length ≤ 120 := Nat.le_trans t46.len (by omega)
    have ok46 : RowsOk o46 := of2_ok t46 (fun a b h => h) ok44 ok45 (by omega)
    refine ⟨_, rfl, bm_use S46 KS okS (by simp) (by decide) (by simp) fun F47 H47 a47 o47 S47 m47 k47 t47 => ?_⟩
    replace kk := kk.mono m47
    replace k46 := isR.mv k46 m47
    replace KS := (kL (kL kRow)).mono m47 KS
    exact ⟨_, rfl, eq_use S47 k47 k46 ⟨_, rfl, iteS (Canon.uniq t47.can t46.can fun p => by first | (simp only [t47.mem, t46.mem, t44.mem, tI.mem, t43.mem, t45.mem, fOr, fAnd, fLess, cnt3]; done) | ((try simp only [t47.mem, t46.mem, t44.mem, tI.mem, t43.mem, t45.mem, fOr, fAnd, fLess, cnt3]); by_cases x1 : mem one p <;> by_cases x2 : mem two p <;> by_cases x3 : mem three p <;> simp [x1, x2, x3, ind])) ⟨_, rfl, _, _, one, rfl, S47, kk.a, okA, by omega, fun H' => q H'⟩⟩⟩
end
end Rw
namespace Rw
open PySem PySem.Spec PyProof.Rows L2
/-! ### what the head tells -/
def HasFn (K : PySem.W.Frag) (x : Str) (st : Stmt) : Prop := ∃ (f : Addr) (oc : Value) (od an : Option Addr) (osl : Array (Option Value)) (kV doc pm cdv ct : Value),
  PySem.W.nsIn K mainGlobals x = some (some (.ref f)) ∧ K.lookup f = some ⟨oc, od, .func (PySem.W.fnOf x x (defArgs st) (defBody st) (defScope st) .none kV doc pm an cdv ct), osl⟩ ∧ PySem.W.codeIn K cdv x = true ∧ PySem.W.keepIn K (.ref f) = true
theorem has_mk {K : PySem.W.Frag} {x : Str} {st : Stmt} {f : Addr} {oc : Value} {od an : Option Addr} {osl : Array (Option Value)} {kV doc pm cdv ct : Value}
    (a : PySem.W.nsIn K mainGlobals x = some (some (.ref f))) (l : K.lookup f = some ⟨oc, od, .func (PySem.W.fnOf x x (defArgs st) (defBody st) (defScope st) .none kV doc pm an cdv ct), osl⟩) (c : PySem.W.codeIn K cdv x = true) (k : PySem.W.keepIn K (.ref f) = true) : HasFn K x st :=
  ⟨f, oc, od, an, osl, kV, doc, pm, cdv, ct, a, l, c, k⟩
def tabOkIn (K : PySem.W.Frag) (x : Str) : Bool := match PySem.W.tabIn K x with
  | some (_, P) => (K.lookup P).isNone
  | none => false
theorem tab_ok {K : PySem.W.Frag} {x : Str} (h : tabOkIn K x = true) : ∃ c P, PySem.W.tabIn K x = some (c, P) ∧ K.lookup P = none := by
  unfold tabOkIn at h
  split at h
  · rename_i c P e
    exact ⟨c, P, e, Option.isNone_iff_eq_none.mp h⟩
  · cases h
def HasInt (K : PySem.W.Frag) (x : Str) (z : Int) : Prop := ∃ t, PySem.W.nsIn K mainGlobals x = some (some (.int z t))
theorem int_mk {K : PySem.W.Frag} {x : Str} {z : Int} {t : Tok} (a : PySem.W.nsIn K mainGlobals x = some (some (.int z t))) : HasInt K x z := ⟨t, a⟩
theorem HasFn.fn {K : PySem.W.Frag} {x : Str} {st : Stmt} {h : Heap} {mg : Str → Option Value} (H : HasFn K x st) (X : K.In h) (G : h.Ns mainGlobals mg) : ∃ (f : Addr) (fd : FuncData), Fun K x x st f fd ∧ mg x = some (.ref f) := by
  obtain ⟨f, oc, od, an, osl, kV, doc, pm, cdv, ct, a, l, c, k⟩ := H
  exact ⟨f, _, fun_mk (st := st) l c k, PySem.W.mg_of X G a⟩
theorem HasInt.mg {K : PySem.W.Frag} {x : Str} {z : Int} {h : Heap} {mg : Str → Option Value} (H : HasInt K x z) (X : K.In h) (G : h.Ns mainGlobals mg) : ∃ t, mg x = some (.int z t) := by
  obtain ⟨t, a⟩ := H
  exact ⟨t, PySem.W.mg_of X G a⟩
structure Head (K : PySem.W.Frag) : Prop where
  fis_number : HasFn K "is_number" s_is_number
  fis_house : HasFn K "is_house" s_is_house
  fis_row : HasFn K "is_row" s_is_row
  ffirst_wrong : HasFn K "first_wrong" s_first_wrong
  fcheck_rows : HasFn K "check_rows" s_check_rows
  fcheck_house : HasFn K "check_house" s_check_house
  fchanges_of : HasFn K "changes_of" s_changes_of
  freaching : HasFn K "reaching" s_reaching
  ffewest : HasFn K "fewest" s_fewest
  fheld_by_many : HasFn K "held_by_many" s_held_by_many
  fwithout : HasFn K "without" s_without
  fplain : HasFn K "plain" s_plain
  fjoined : HasFn K "joined" s_joined
  fcommon : HasFn K "common" s_common
  fless : HasFn K "less" s_less
  fwithin : HasFn K "within" s_within
  fby_many : HasFn K "by_many" s_by_many
  fgaps : HasFn K "gaps" s_gaps
  fwhole_in : HasFn K "whole_in" s_whole_in
  fwhole_to : HasFn K "whole_to" s_whole_to
  famount : HasFn K "amount" s_amount
  f_law_dice : HasFn K "_law_dice" s_law_dice
  f_law_next : HasFn K "_law_next" s_law_next
  f_law_rows : HasFn K "_law_rows" s_law_rows
  f_law_ends : HasFn K "_law_ends" s_law_ends
  tamount : tabOkIn K "amount" = true
  flaw : HasFn K "law" s_law
  last : HasInt K "LAST_HOUSE" 7
  most : HasInt K "MOST_ROWS" 200
  zisinstance : PySem.W.nsIn K mainGlobals "isinstance" = some none
  zint : PySem.W.nsIn K mainGlobals "int" = some none
  zbool : PySem.W.nsIn K mainGlobals "bool" = some none
  ztuple : PySem.W.nsIn K mainGlobals "tuple" = some none
  zlen : PySem.W.nsIn K mainGlobals "len" = some none
  zenumerate : PySem.W.nsIn K mainGlobals "enumerate" = some none
  zsorted : PySem.W.nsIn K mainGlobals "sorted" = some none
  zrange : PySem.W.nsIn K mainGlobals "range" = some none
  zmin : PySem.W.nsIn K mainGlobals "min" = some none
  zmax : PySem.W.nsIn K mainGlobals "max" = some none
  zsum : PySem.W.nsIn K mainGlobals "sum" = some none
theorem tab_conv {base : Heap} {mg : Str → Option Value} {c P : Addr} (h : LamX.TabB base mg c P) : GxR.TabB base mg c P := ⟨h.code, h.bm, h.gP⟩
theorem all_ok {P : Program} {w : World} {K : PySem.W.Frag} {h base : Heap} {mg : Str → Option Value} {Pc c : Addr} {fa : Addr} (D : Head K) (X : K.In h) (G : h.Ns mainGlobals mg) (hfa : mg "law" = some (.ref fa)) (lim : ∃ t, mg "LIMIT" = some (.int LIM t)) (TBm : GxR.TabB base mg c Pc)
    (ht : PySem.W.tabIn K "amount" = some (c, Pc)) {fd : FuncData} (F : Fun K "law" "law" s_law fa fd) : FnOk P w K mg base CX0 8 fa fd ["_law_script"] (spLaw K Pc) := by
  have T : TxA mg := ⟨PySem.W.mg_none_of X G D.zisinstance, PySem.W.mg_none_of X G D.zint, PySem.W.mg_none_of X G D.zbool, PySem.W.mg_none_of X G D.ztuple, PySem.W.mg_none_of X G D.zlen, PySem.W.mg_none_of X G D.zenumerate, D.last.mg X G, lim, D.most.mg X G⟩
  have TB : TxB mg := ⟨PySem.W.mg_none_of X G D.zsorted⟩
  have TL : TxL mg := ⟨PySem.W.mg_none_of X G D.zint, PySem.W.mg_none_of X G D.zlen, PySem.W.mg_none_of X G D.zrange, PySem.W.mg_none_of X G D.zmin⟩
  have TE : TxE mg := ⟨PySem.W.mg_none_of X G D.zrange, PySem.W.mg_none_of X G D.zmax⟩
  have zsum : mg "sum" = none := PySem.W.mg_none_of X G D.zsum
  have c_is_number : Cal P w K mg base 1 "is_number" ["value", "low", "high"] spIsNumber := by
    obtain ⟨f, fd, F1, g⟩ := D.fis_number.fn X G
    exact ⟨f, fd, ok_is_number F1 T, g, F1.kp, F1.binds (ps := ["value", "low", "high"]) fun _ _ _ _ _ _ us hl => match us, hl with | [_, _, _], _ => rfl⟩
  have c_is_house : Cal P w K mg base 2 "is_house" ["value"] spIsHouse := by
    obtain ⟨f, fd, F1, g⟩ := D.fis_house.fn X G
    exact ⟨f, fd, ok_is_house F1 T c_is_number, g, F1.kp, F1.binds (ps := ["value"]) fun _ _ _ _ _ _ us hl => match us, hl with | [_], _ => rfl⟩
  have c_is_row : Cal P w K mg base 3 "is_row" ["row"] spIsRow := by
    obtain ⟨f, fd, F1, g⟩ := D.fis_row.fn X G
    exact ⟨f, fd, ok_is_row F1 T c_is_number c_is_house, g, F1.kp, F1.binds (ps := ["row"]) fun _ _ _ _ _ _ us hl => match us, hl with | [_], _ => rfl⟩
  have c_first_wrong : Cal P w K mg base 4 "first_wrong" ["rows"] spFirstWrong := by
    obtain ⟨f, fd, F1, g⟩ := D.ffirst_wrong.fn X G
    exact ⟨f, fd, ok_first_wrong F1 T c_is_row, g, F1.kp, F1.binds (ps := ["rows"]) fun _ _ _ _ _ _ us hl => match us, hl with | [_], _ => rfl⟩
  have c_check_rows : Cal P w K mg base 5 "check_rows" ["rows"] spCheckRows := by
    obtain ⟨f, fd, F1, g⟩ := D.fcheck_rows.fn X G
    exact ⟨f, fd, ok_check_rows F1 c_first_wrong, g, F1.kp, F1.binds (ps := ["rows"]) fun _ _ _ _ _ _ us hl => match us, hl with | [_], _ => rfl⟩
  have c_check_house : Cal P w K mg base 3 "check_house" ["house"] spCheckHouse := by
    obtain ⟨f, fd, F1, g⟩ := D.fcheck_house.fn X G
    exact ⟨f, fd, ok_check_house F1 c_is_house, g, F1.kp, F1.binds (ps := ["house"]) fun _ _ _ _ _ _ us hl => match us, hl with | [_], _ => rfl⟩
  have c_changes_of : Cal P w K mg base 1 "changes_of" ["weighed"] spChangesOf := by
    obtain ⟨f, fd, F1, g⟩ := D.fchanges_of.fn X G
    exact ⟨f, fd, ok_changes_of F1 , g, F1.kp, F1.binds (ps := ["weighed"]) fun _ _ _ _ _ _ us hl => match us, hl with | [_], _ => rfl⟩
  have c_reaching : Cal P w K mg base 2 "reaching" ["weighed", "least"] spReaching := by
    obtain ⟨f, fd, F1, g⟩ := D.freaching.fn X G
    exact ⟨f, fd, ok_reaching F1 TB c_changes_of, g, F1.kp, F1.binds (ps := ["weighed", "least"]) fun _ _ _ _ _ _ us hl => match us, hl with | [_, _], _ => rfl⟩
  have c_fewest : Cal P w K mg base 3 "fewest" ["rows"] spFewest := by
    obtain ⟨f, fd, F1, g⟩ := D.ffewest.fn X G
    exact ⟨f, fd, ok_fewest F1 c_reaching, g, F1.kp, F1.binds (ps := ["rows"]) fun _ _ _ _ _ _ us hl => match us, hl with | [_], _ => rfl⟩
  have c_held_by_many : Cal P w K mg base 4 "held_by_many" ["sets", "least"] spHeld := by
    obtain ⟨f, fd, F1, g⟩ := D.fheld_by_many.fn X G
    exact ⟨f, fd, ok_held_by_many F1 c_reaching c_fewest, g, F1.kp, F1.binds (ps := ["sets", "least"]) fun _ _ _ _ _ _ us hl => match us, hl with | [_, _], _ => rfl⟩
  have c_without : Cal P w K mg base 4 "without" ["one", "other"] spWithout := by
    obtain ⟨f, fd, F1, g⟩ := D.fwithout.fn X G
    exact ⟨f, fd, ok_without F1 c_reaching c_fewest, g, F1.kp, F1.binds (ps := ["one", "other"]) fun _ _ _ _ _ _ us hl => match us, hl with | [_, _], _ => rfl⟩
  have c_plain : Cal P w K mg base 6 "plain" ["rows"] spPlain := by
    obtain ⟨f, fd, F1, g⟩ := D.fplain.fn X G
    exact ⟨f, fd, ok_plain F1 c_check_rows c_fewest, g, F1.kp, F1.binds (ps := ["rows"]) fun _ _ _ _ _ _ us hl => match us, hl with | [_], _ => rfl⟩
  have c_joined : Cal P w K mg base 6 "joined" ["one", "other"] (sp2 fOr) := by
    obtain ⟨f, fd, F1, g⟩ := D.fjoined.fn X G
    exact ⟨f, fd, ok_joined F1 c_check_rows c_held_by_many, g, F1.kp, F1.binds (ps := ["one", "other"]) fun _ _ _ _ _ _ us hl => match us, hl with | [_, _], _ => rfl⟩
  have c_common : Cal P w K mg base 6 "common" ["one", "other"] (sp2 fAnd) := by
    obtain ⟨f, fd, F1, g⟩ := D.fcommon.fn X G
    exact ⟨f, fd, ok_common F1 c_check_rows c_held_by_many, g, F1.kp, F1.binds (ps := ["one", "other"]) fun _ _ _ _ _ _ us hl => match us, hl with | [_, _], _ => rfl⟩
  have c_less : Cal P w K mg base 6 "less" ["one", "other"] (sp2 fLess) := by
    obtain ⟨f, fd, F1, g⟩ := D.fless.fn X G
    exact ⟨f, fd, ok_less F1 c_check_rows c_without, g, F1.kp, F1.binds (ps := ["one", "other"]) fun _ _ _ _ _ _ us hl => match us, hl with | [_, _], _ => rfl⟩
  have c_within : Cal P w K mg base 6 "within" ["one", "other"] spWithin := by
    obtain ⟨f, fd, F1, g⟩ := D.fwithin.fn X G
    exact ⟨f, fd, ok_within F1 c_check_rows c_without, g, F1.kp, F1.binds (ps := ["one", "other"]) fun _ _ _ _ _ _ us hl => match us, hl with | [_, _], _ => rfl⟩
  have c_by_many : Cal P w K mg base 6 "by_many" ["sets", "least"] spByMany := by
    obtain ⟨f, fd, F1, g⟩ := D.fby_many.fn X G
    exact ⟨f, fd, ok_by_many F1 T c_check_rows c_held_by_many, g, F1.kp, F1.binds (ps := ["sets", "least"]) fun _ _ _ _ _ _ us hl => match us, hl with | [_, _], _ => rfl⟩
  have c_gaps : Cal P w K mg base 6 "gaps" ["rows"] spGaps := by
    obtain ⟨f, fd, F1, g⟩ := D.fgaps.fn X G
    exact ⟨f, fd, ok_gaps F1 c_check_rows c_without, g, F1.kp, F1.binds (ps := ["rows"]) fun _ _ _ _ _ _ us hl => match us, hl with | [_], _ => rfl⟩
  have c_whole_in : Cal P w K mg base 4 "whole_in" ["rows", "house"] spWholeIn := by
    obtain ⟨f, fd, F1, g⟩ := D.fwhole_in.fn X G
    exact ⟨f, fd, ok_whole_in F1 c_fewest, g, F1.kp, F1.binds (ps := ["rows", "house"]) fun _ _ _ _ _ _ us hl => match us, hl with | [_, _], _ => rfl⟩
  have c_whole_to : Cal P w K mg base 6 "whole_to" ["rows", "house"] spWholeTo := by
    obtain ⟨f, fd, F1, g⟩ := D.fwhole_to.fn X G
    exact ⟨f, fd, ok_whole_to F1 c_check_rows c_check_house c_whole_in, g, F1.kp, F1.binds (ps := ["rows", "house"]) fun _ _ _ _ _ _ us hl => match us, hl with | [_, _], _ => rfl⟩
  have c_amount : Cal P w K mg base 6 "amount" ["rows"] (spAmount Pc) := by
    obtain ⟨f, oc, od, an, osl, kV, doc, pm, cdv, ct, a, l, c1, k⟩ := D.famount
    have e : cdv = .ref c := PySem.W.law_code X G ht (PySem.W.mg_of X G a) (X _ _ l) rfl
    subst e
    exact ⟨f, _, ok_amount ⟨⟨oc, od, kV, doc, pm, an, ct, osl, rfl, l, c1⟩⟩ TBm zsum c_check_rows c_fewest, PySem.W.mg_of X G a, k, (fun_mk (st := s_amount) l c1 k).binds (ps := ["rows"]) fun _ _ _ _ _ _ us hl => match us, hl with | [_], _ => rfl⟩
  have c__law_dice : Cal P w K mg base 1 "_law_dice" ["_law_script"] (spDice K) := by
    obtain ⟨f, fd, F1, g⟩ := D.f_law_dice.fn X G
    exact ⟨f, fd, ok_law_dice F1 TL, g, F1.kp, F1.binds (ps := ["_law_script"]) fun _ _ _ _ _ _ us hl => match us, hl with | [_], _ => rfl⟩
  have c__law_next : Cal P w K mg base 1 "_law_next" ["_law_dice_here", "_law_many"] (spNext K) := by
    obtain ⟨f, fd, F1, g⟩ := D.f_law_next.fn X G
    exact ⟨f, fd, ok_law_next F1 TL, g, F1.kp, F1.binds (ps := ["_law_dice_here", "_law_many"]) fun _ _ _ _ _ _ us hl => match us, hl with | [_, _], _ => rfl⟩
  have c__law_rows : Cal P w K mg base 2 "_law_rows" ["_law_d", "_law_houses", "_law_far", "_law_most"] (spRows K) := by
    obtain ⟨f, fd, F1, g⟩ := D.f_law_rows.fn X G
    exact ⟨f, fd, ok_law_rows F1 TL c__law_next, g, F1.kp, F1.binds (ps := ["_law_d", "_law_houses", "_law_far", "_law_most"]) fun _ _ _ _ _ _ us hl => match us, hl with | [_, _, _, _], _ => rfl⟩
  have c__law_ends : Cal P w K mg base 7 "_law_ends" ["_law_one"] (spEnds Pc) := by
    obtain ⟨f, fd, F1, g⟩ := D.f_law_ends.fn X G
    exact ⟨f, fd, ok_law_ends F1 TE c_gaps c_common c_joined c_whole_to c_within, g, F1.kp, F1.binds (ps := ["_law_one"]) fun _ _ _ _ _ _ us hl => match us, hl with | [_], _ => rfl⟩
  exact ok_law F ⟨c__law_dice, c__law_next, c__law_rows, c_common, c_joined, c_less, c_plain, c_amount, c_within, c_by_many, c__law_ends⟩
theorem walk {l : PySem.W.OpenLaw} {q : Program} {loose : List Str} {lv : List (Str × PySem.W.WData)} {YP : World → Heap → Prop} {d : DefRec} {K : Params → PySem.W.Frag} (hn : l.most = some 63) (hdf : d.params.defaults = []) (hnm : d.name = "law")
    (hY : ∀ (w : World) (h : Heap), YP w h → (K w.params).In h) (hrec : ((recsOf q).find? (fun e => e.name == ("amount" : Str))).isSome = true) (hlv : (("LIMIT" : Str), PySem.W.WData.int LIM) ∈ lv) (D : ∀ w : World, Head (K w.params)) :
    PySem.W.WalkO q loose (PySem.W.XL q lv) YP l.row.toRowW d [] (fun f vs => PySem.call f vs) := by
  refine Att.attach_callB hn hdf fun w s₀ s₁ mg mb fa o pm cd doc a vs ns G Y ho hd hcd hmg hobj hints hlen hbits hg => ?_
  have KX := hY w _ Y
  have Dw := D w
  rw [hnm] at hmg
  obtain ⟨f, oc, od, an, osl, kV, doc', pm', cdv, ct, a1, l1, c1, k1⟩ := Dw.flaw
  have e := hmg.symm.trans (PySem.W.mg_of KX G.T.g a1)
  cases e
  obtain ⟨c, Pc, t2, nP⟩ := tab_ok Dw.tamount
  obtain ⟨da, hda⟩ := Option.isSome_iff_exists.mp hrec
  obtain ⟨hc, hP⟩ := PySem.W.tab_of G.T KX hda t2
  have lim : ∃ t, mg "LIMIT" = some (.int LIM t) := by
    obtain ⟨v, hv, hr⟩ := G.X.2.val _ hlv
    cases hr
    exact ⟨_, hv⟩
  refine LamX.law_callTs (cs := [(c, Pc)]) (k := 8) (x := "_law_script") (CX := CX0) (sp := spLaw (K w.params) Pc) KX G.T.g G.T.b G.T.builtins G.T.nolimit hg (fun p hp => ?_) (fun p hp => ?_) (fun p hp => ?_) G.T.bmain hobj hints (Nat.le_trans hlen (by decide)) ⟨rfl, by decide, by decide⟩
    (fun base _ _ hT => all_ok Dw KX G.T.g hmg lim (tab_conv (hT _ List.mem_cons_self)) t2 (fun_mk (st := s_law) l1 c1 k1)) (fun s u => .of_eq rfl) (fun H hH hS => ⟨a, ns, rfl, hS, hH _ List.mem_cons_self, fun _ => rfl⟩) fun H e s' z => z
  · rw [List.mem_singleton.mp hp]; exact hP
  · rw [List.mem_singleton.mp hp]; exact nP
  · rw [List.mem_singleton.mp hp]; exact hc
end Rw
open PySem PySem.W PyProof.Rows in
set_option maxRecDepth 100000 in
set_option maxHeartbeats 0 in
theorem PySem.Challenge.cw_doneranges_k04_whole_rules_of_sets_holds : PySem.Challenge.rw_doneranges_k04_whole_rules_of_sets.Holds := by
  w_on; o_law; k_head; (case hw => w_witness2)
  k_fill
  refine Rw.walk (l := PySem.Challenge.rw_doneranges_k04_whole_rules_of_sets) rfl rfl rfl (fun w h Y => PySem.W.kIn_of Y) ?rec List.mem_cons_self ?D
  case rec => decide +kernel
  case D =>
    intro w
    constructor
    case fis_number => refine' Rw.has_mk ?a ?l ?c ?k; (case a => k_is); (case l => k_is); (case c => k_is); (case k => k_is)
    case fis_house => refine' Rw.has_mk ?a ?l ?c ?k; (case a => k_is); (case l => k_is); (case c => k_is); (case k => k_is)
    case fis_row => refine' Rw.has_mk ?a ?l ?c ?k; (case a => k_is); (case l => k_is); (case c => k_is); (case k => k_is)
    case ffirst_wrong => refine' Rw.has_mk ?a ?l ?c ?k; (case a => k_is); (case l => k_is); (case c => k_is); (case k => k_is)
    case fcheck_rows => refine' Rw.has_mk ?a ?l ?c ?k; (case a => k_is); (case l => k_is); (case c => k_is); (case k => k_is)
    case fcheck_house => refine' Rw.has_mk ?a ?l ?c ?k; (case a => k_is); (case l => k_is); (case c => k_is); (case k => k_is)
    case fchanges_of => refine' Rw.has_mk ?a ?l ?c ?k; (case a => k_is); (case l => k_is); (case c => k_is); (case k => k_is)
    case freaching => refine' Rw.has_mk ?a ?l ?c ?k; (case a => k_is); (case l => k_is); (case c => k_is); (case k => k_is)
    case ffewest => refine' Rw.has_mk ?a ?l ?c ?k; (case a => k_is); (case l => k_is); (case c => k_is); (case k => k_is)
    case fheld_by_many => refine' Rw.has_mk ?a ?l ?c ?k; (case a => k_is); (case l => k_is); (case c => k_is); (case k => k_is)
    case fwithout => refine' Rw.has_mk ?a ?l ?c ?k; (case a => k_is); (case l => k_is); (case c => k_is); (case k => k_is)
    case fplain => refine' Rw.has_mk ?a ?l ?c ?k; (case a => k_is); (case l => k_is); (case c => k_is); (case k => k_is)
    case fjoined => refine' Rw.has_mk ?a ?l ?c ?k; (case a => k_is); (case l => k_is); (case c => k_is); (case k => k_is)
    case fcommon => refine' Rw.has_mk ?a ?l ?c ?k; (case a => k_is); (case l => k_is); (case c => k_is); (case k => k_is)
    case fless => refine' Rw.has_mk ?a ?l ?c ?k; (case a => k_is); (case l => k_is); (case c => k_is); (case k => k_is)
    case fwithin => refine' Rw.has_mk ?a ?l ?c ?k; (case a => k_is); (case l => k_is); (case c => k_is); (case k => k_is)
    case fby_many => refine' Rw.has_mk ?a ?l ?c ?k; (case a => k_is); (case l => k_is); (case c => k_is); (case k => k_is)
    case fgaps => refine' Rw.has_mk ?a ?l ?c ?k; (case a => k_is); (case l => k_is); (case c => k_is); (case k => k_is)
    case fwhole_in => refine' Rw.has_mk ?a ?l ?c ?k; (case a => k_is); (case l => k_is); (case c => k_is); (case k => k_is)
    case fwhole_to => refine' Rw.has_mk ?a ?l ?c ?k; (case a => k_is); (case l => k_is); (case c => k_is); (case k => k_is)
    case famount => refine' Rw.has_mk ?a ?l ?c ?k; (case a => k_is); (case l => k_is); (case c => k_is); (case k => k_is)
    case tamount => kernel_rfl
    case f_law_dice => refine' Rw.has_mk ?a ?l ?c ?k; (case a => k_is); (case l => k_is); (case c => k_is); (case k => k_is)
    case f_law_next => refine' Rw.has_mk ?a ?l ?c ?k; (case a => k_is); (case l => k_is); (case c => k_is); (case k => k_is)
    case f_law_rows => refine' Rw.has_mk ?a ?l ?c ?k; (case a => k_is); (case l => k_is); (case c => k_is); (case k => k_is)
    case f_law_ends => refine' Rw.has_mk ?a ?l ?c ?k; (case a => k_is); (case l => k_is); (case c => k_is); (case k => k_is)
    case flaw => refine' Rw.has_mk ?a ?l ?c ?k; (case a => k_is); (case l => k_is); (case c => k_is); (case k => k_is)
    case last => refine' Rw.int_mk ?a; (case a => k_is)
    case most => refine' Rw.int_mk ?a; (case a => k_is)
    case zisinstance => k_is
    case zint => k_is
    case zbool => k_is
    case ztuple => k_is
    case zlen => k_is
    case zenumerate => k_is
    case zsorted => k_is
    case zrange => k_is
    case zmin => k_is
    case zmax => k_is
    case zsum => k_is
#print axioms PySem.Challenge.cw_doneranges_k04_whole_rules_of_sets_holds
