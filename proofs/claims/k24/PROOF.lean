import PyProof.Rows.All
import Wide.All
import OpenK.AllK
import Wide.FinOn
import HandS.ForMost
import HandS.EndBits
import HandS.Walk
import HandS.Wide
import HandS.IsInst
import HandS.Conv
import HandS.SortRule
import HandS.TupSets
import KE.KDictSum
import HandS.Deep
import HandS.EndTab
import KE.KNest
import KE.KNestM
import PySem.Challenge.RW_doneranges_k24_wrongly_led
set_option Elab.async false
set_option linter.all false
set_option maxRecDepth 100000
set_option autoImplicit false
namespace Rw
/-! rows (house, first, last), points (house, number), by the order of pairs -/
abbrev Row := Int × Int × Int
abbrev Pt := Int × Int
def lt2 (p q : Pt) : Prop := p.1 < q.1 ∨ (p.1 = q.1 ∧ p.2 < q.2)
def le2 (p q : Pt) : Prop := p.1 < q.1 ∨ (p.1 = q.1 ∧ p.2 ≤ q.2)
instance (p q : Pt) : Decidable (lt2 p q) := by unfold lt2; infer_instance
instance (p q : Pt) : Decidable (le2 p q) := by unfold le2; infer_instance
def inRow (r : Row) (p : Pt) : Prop := r.1 = p.1 ∧ r.2.1 ≤ p.2 ∧ p.2 ≤ r.2.2
instance (r : Row) (p : Pt) : Decidable (inRow r p) := by unfold inRow; infer_instance
def mem (rs : List Row) (p : Pt) : Prop := ∃ r ∈ rs, inRow r p
def before (r s : Row) : Prop := r.1 < s.1 ∨ (r.1 = s.1 ∧ r.2.2 + 1 < s.2.1)
structure Canon (rs : List Row) : Prop where
  ok : ∀ r ∈ rs, r.2.1 ≤ r.2.2
  ord : rs.Pairwise before
theorem Canon.nil : Canon [] := ⟨fun _ h => absurd h (by simp), .nil⟩
theorem Canon.tail {r : Row} {rs : List Row} (c : Canon (r :: rs)) : Canon rs :=
  ⟨fun s h => c.ok s (List.mem_cons_of_mem _ h), (List.pairwise_cons.mp c.ord).2⟩
theorem mem_cons {r : Row} {rs : List Row} {p : Pt} : mem (r :: rs) p ↔ inRow r p ∨ mem rs p := by
  unfold mem; simp
theorem mem_nil {p : Pt} : ¬ mem [] p := by unfold mem; simp
theorem mem_append {as bs : List Row} {p : Pt} : mem (as ++ bs) p ↔ mem as p ∨ mem bs p := by
  unfold mem
  constructor
  · rintro ⟨r, h, e⟩
    rcases List.mem_append.mp h with h | h
    · exact .inl ⟨r, h, e⟩
    · exact .inr ⟨r, h, e⟩
  · rintro (⟨r, h, e⟩ | ⟨r, h, e⟩)
    · exact ⟨r, List.mem_append_left _ h, e⟩
    · exact ⟨r, List.mem_append_right _ h, e⟩
/-- whatever is in a later row lies behind the first one, with a gap -/
theorem Canon.later {r : Row} {rs : List Row} (c : Canon (r :: rs)) {p : Pt} (h : mem rs p) : r.1 < p.1 ∨ (r.1 = p.1 ∧ r.2.2 + 1 < p.2) := by
  obtain ⟨s, hs, e1, e2, e3⟩ := h
  have b := (List.pairwise_cons.mp c.ord).1 s hs
  unfold before at b
  omega
theorem Canon.uniq : ∀ {xs ys : List Row}, Canon xs → Canon ys → (∀ p, mem xs p ↔ mem ys p) → xs = ys
  | [], [], _, _, _ => rfl
  | [], y :: ys, _, cy, h => by
    have o := cy.ok y List.mem_cons_self
    exact absurd ((h (y.1, y.2.1)).mpr (mem_cons.mpr (.inl ⟨rfl, Int.le_refl _, o⟩))) mem_nil
  | x :: xs, [], cx, _, h => by
    have o := cx.ok x List.mem_cons_self
    exact absurd ((h (x.1, x.2.1)).mp (mem_cons.mpr (.inl ⟨rfl, Int.le_refl _, o⟩))) mem_nil
  | x :: xs, y :: ys, cx, cy, h => by
    have ox := cx.ok x List.mem_cons_self
    have oy := cy.ok y List.mem_cons_self
    have a1 := mem_cons.mp ((h (x.1, x.2.1)).mp (mem_cons.mpr (.inl ⟨rfl, Int.le_refl _, ox⟩)))
    have a2 := mem_cons.mp ((h (y.1, y.2.1)).mpr (mem_cons.mpr (.inl ⟨rfl, Int.le_refl _, oy⟩)))
    have b1 : le2 (y.1, y.2.1) (x.1, x.2.1) := by
      unfold le2
      rcases a1 with ⟨e1, e2, e3⟩ | a1
      · simp only at e1 e2 e3 ⊢; omega
      · have z := cy.later a1; simp only at z ⊢; omega
    have b2 : le2 (x.1, x.2.1) (y.1, y.2.1) := by
      unfold le2
      rcases a2 with ⟨e1, e2, e3⟩ | a2
      · simp only at e1 e2 e3 ⊢; omega
      · have z := cx.later a2; simp only at z ⊢; omega
    unfold le2 at b1 b2
    simp only at b1 b2
    have eh : x.1 = y.1 := by omega
    have ea : x.2.1 = y.2.1 := by omega
    have c1 := mem_cons.mp ((h (x.1, x.2.2)).mp (mem_cons.mpr (.inl ⟨rfl, ox, Int.le_refl _⟩)))
    have c2 := mem_cons.mp ((h (y.1, y.2.2)).mpr (mem_cons.mpr (.inl ⟨rfl, oy, Int.le_refl _⟩)))
    have eb : x.2.2 = y.2.2 := by
      rcases Int.lt_trichotomy x.2.2 y.2.2 with z | z | z
      · -- (x.1, x.2.2 + 1) is in y, so in x's tail
        have d := mem_cons.mp ((h (x.1, x.2.2 + 1)).mpr (mem_cons.mpr (.inl ⟨eh.symm, by simp only; omega, by simp only; omega⟩)))
        rcases d with ⟨_, _, e3⟩ | d
        · simp only at e3; omega
        · have u := cx.later d; simp only at u; omega
      · exact z
      · have d := mem_cons.mp ((h (y.1, y.2.2 + 1)).mp (mem_cons.mpr (.inl ⟨eh, by simp only; omega, by simp only; omega⟩)))
        rcases d with ⟨_, _, e3⟩ | d
        · simp only at e3; omega
        · have u := cy.later d; simp only at u; omega
    have exy : x = y := by
      obtain ⟨x1, x2, x3⟩ := x
      obtain ⟨y1, y2, y3⟩ := y
      simp only at eh ea eb
      subst eh ea eb
      rfl
    subst exy
    congr 1
    refine Canon.uniq cx.tail cy.tail fun p => ?_
    constructor
    · intro m
      rcases mem_cons.mp ((h p).mp (mem_cons.mpr (.inr m))) with ⟨e1, e2, e3⟩ | d
      · have u := cx.later m; omega
      · exact d
    · intro m
      rcases mem_cons.mp ((h p).mpr (mem_cons.mpr (.inr m))) with ⟨e1, e2, e3⟩ | d
      · have u := cy.later m; omega
      · exact d
theorem Canon.snoc {rs : List Row} {r : Row} (c : Canon rs) (o : r.2.1 ≤ r.2.2) (h : ∀ s ∈ rs, before s r) : Canon (rs ++ [r]) := by
  refine ⟨fun s hs => ?_, List.pairwise_append.mpr ⟨c.ord, List.pairwise_singleton _ _, fun s hs t ht => ?_⟩⟩
  · rcases List.mem_append.mp hs with hs | hs
    · exact c.ok s hs
    · rw [List.mem_singleton.mp hs]; exact o
  · rw [List.mem_singleton.mp ht]; exact h s hs

/-! ### sums over weighted rows -/
abbrev WRow := Row × Int
def S (f : Row → Int) : List WRow → Int
  | [] => 0
  | (r, w) :: ws => w * f r + S f ws
theorem S_append (f : Row → Int) : ∀ (as bs : List WRow), S f (as ++ bs) = S f as + S f bs
  | [], bs => by simp [S]
  | (r, w) :: as, bs => by
    show w * f r + S f (as ++ bs) = w * f r + S f as + S f bs
    rw [S_append f as bs]; omega
theorem S_congr {f g : Row → Int} : ∀ {ws : List WRow}, (∀ x ∈ ws, f x.1 = g x.1) → S f ws = S g ws
  | [], _ => rfl
  | (r, w) :: ws, h => by
    show w * f r + S f ws = w * g r + S g ws
    rw [h (r, w) List.mem_cons_self, S_congr (ws := ws) fun x hx => h x (List.mem_cons_of_mem _ hx)]
theorem S_add (f g : Row → Int) : ∀ ws : List WRow, S (fun r => f r + g r) ws = S f ws + S g ws
  | [] => rfl
  | (r, w) :: ws => by
    show w * (f r + g r) + S (fun r => f r + g r) ws = (w * f r + S f ws) + (w * g r + S g ws)
    rw [S_add f g ws, Int.mul_add]; omega
theorem S_zero {f : Row → Int} : ∀ {ws : List WRow}, (∀ x ∈ ws, f x.1 = 0) → S f ws = 0
  | [], _ => rfl
  | (r, w) :: ws, h => by
    show w * f r + S f ws = 0
    rw [h (r, w) List.mem_cons_self, S_zero (ws := ws) fun x hx => h x (List.mem_cons_of_mem _ hx)]; omega
def ind (c : Prop) [Decidable c] : Int := if c then 1 else 0
theorem ind_pos {c : Prop} [Decidable c] (h : c) : ind c = 1 := if_pos h
theorem ind_neg {c : Prop} [Decidable c] (h : ¬ c) : ind c = 0 := if_neg h
theorem ind_or (c : Prop) [Decidable c] : (c ∧ ind c = 1) ∨ (¬ c ∧ ind c = 0) := by
  by_cases h : c
  · exact .inl ⟨h, ind_pos h⟩
  · exact .inr ⟨h, ind_neg h⟩
def fstP (r : Row) : Pt := (r.1, r.2.1)
def endP (r : Row) : Pt := (r.1, r.2.2 + 1)
/-- what weighs on a point -/
def cover (ws : List WRow) (p : Pt) : Int := S (fun r => ind (inRow r p)) ws
/-- the change at a point -/
def chg (ws : List WRow) (p : Pt) : Int := S (fun r => ind (fstP r = p) - ind (endP r = p)) ws
def Wok (ws : List WRow) : Prop := ∀ x ∈ ws, x.1.2.1 ≤ x.1.2.2
theorem cover_eq {ws : List WRow} (h : Wok ws) (p : Pt) : cover ws p = S (fun r => ind (le2 (fstP r) p) - ind (le2 (endP r) p)) ws := by
  refine S_congr fun x hx => ?_
  have o := h x hx
  obtain ⟨⟨rh, ra, rb⟩, w⟩ := x
  obtain ⟨ph, pn⟩ := p
  rcases ind_or (inRow (rh, ra, rb) (ph, pn)) with ⟨a, ea⟩ | ⟨a, ea⟩ <;> rcases ind_or (le2 (fstP (rh, ra, rb)) (ph, pn)) with ⟨b, eb⟩ | ⟨b, eb⟩ <;>
    rcases ind_or (le2 (endP (rh, ra, rb)) (ph, pn)) with ⟨c, ec⟩ | ⟨c, ec⟩ <;> rw [ea, eb, ec] <;> simp only [inRow, le2, fstP, endP] at a b c o <;> omega
/-- all points of change are among ks -/
def Has (ks : List Pt) (ws : List WRow) : Prop := ∀ x ∈ ws, fstP x.1 ∈ ks ∧ endP x.1 ∈ ks
/-- from a point to the next one of change -/
theorem cover_step {ws : List WRow} (o : Wok ws) {c k : Pt} (hlt : lt2 c k) (hn : ∀ x ∈ ws, (le2 (fstP x.1) c ∨ le2 k (fstP x.1)) ∧ (le2 (endP x.1) c ∨ le2 k (endP x.1))) :
    cover ws k = cover ws c + chg ws k := by
  rw [cover_eq o, cover_eq o, chg, ← S_add]
  refine S_congr fun x hx => ?_
  obtain ⟨a, b⟩ := hn x hx
  obtain ⟨⟨rh, ra, rb⟩, w⟩ := x
  obtain ⟨kh, kn⟩ := k
  obtain ⟨ch, cn⟩ := c
  simp only [lt2, le2, fstP, endP] at a b hlt
  rcases ind_or (le2 (fstP (rh, ra, rb)) (kh, kn)) with ⟨u1, e1⟩ | ⟨u1, e1⟩ <;> rcases ind_or (le2 (endP (rh, ra, rb)) (kh, kn)) with ⟨u2, e2⟩ | ⟨u2, e2⟩ <;>
    rcases ind_or (le2 (fstP (rh, ra, rb)) (ch, cn)) with ⟨u3, e3⟩ | ⟨u3, e3⟩ <;> rcases ind_or (le2 (endP (rh, ra, rb)) (ch, cn)) with ⟨u4, e4⟩ | ⟨u4, e4⟩ <;>
    rcases ind_or (fstP (rh, ra, rb) = (kh, kn)) with ⟨u5, e5⟩ | ⟨u5, e5⟩ <;> rcases ind_or (endP (rh, ra, rb) = (kh, kn)) with ⟨u6, e6⟩ | ⟨u6, e6⟩ <;>
    rw [e1, e2, e3, e4, e5, e6] <;> simp only [le2, fstP, endP, Prod.mk.injEq] at u1 u2 u3 u4 u5 u6 <;> omega
theorem cover_same {ws : List WRow} (o : Wok ws) {c p : Pt} (hle : le2 c p) (hn : ∀ x ∈ ws, (le2 (fstP x.1) c ∨ lt2 p (fstP x.1)) ∧ (le2 (endP x.1) c ∨ lt2 p (endP x.1))) :
    cover ws p = cover ws c := by
  rw [cover_eq o, cover_eq o]
  refine S_congr fun x hx => ?_
  obtain ⟨a, b⟩ := hn x hx
  obtain ⟨⟨rh, ra, rb⟩, w⟩ := x
  obtain ⟨kh, kn⟩ := p
  obtain ⟨ch, cn⟩ := c
  simp only [lt2, le2, fstP, endP] at a b hle
  rcases ind_or (le2 (fstP (rh, ra, rb)) (kh, kn)) with ⟨u1, e1⟩ | ⟨u1, e1⟩ <;> rcases ind_or (le2 (endP (rh, ra, rb)) (kh, kn)) with ⟨u2, e2⟩ | ⟨u2, e2⟩ <;>
    rcases ind_or (le2 (fstP (rh, ra, rb)) (ch, cn)) with ⟨u3, e3⟩ | ⟨u3, e3⟩ <;> rcases ind_or (le2 (endP (rh, ra, rb)) (ch, cn)) with ⟨u4, e4⟩ | ⟨u4, e4⟩ <;>
    rw [e1, e2, e3, e4] <;> simp only [le2, fstP, endP] at u1 u2 u3 u4 <;> omega
theorem cover_first {ws : List WRow} (o : Wok ws) {k : Pt} (hn : ∀ x ∈ ws, le2 k (fstP x.1) ∧ le2 k (endP x.1)) : cover ws k = chg ws k := by
  rw [cover_eq o, chg]
  refine S_congr fun x hx => ?_
  obtain ⟨a, b⟩ := hn x hx
  obtain ⟨⟨rh, ra, rb⟩, w⟩ := x
  obtain ⟨kh, kn⟩ := k
  simp only [le2, fstP, endP] at a b
  rcases ind_or (le2 (fstP (rh, ra, rb)) (kh, kn)) with ⟨u1, e1⟩ | ⟨u1, e1⟩ <;> rcases ind_or (le2 (endP (rh, ra, rb)) (kh, kn)) with ⟨u2, e2⟩ | ⟨u2, e2⟩ <;>
    rcases ind_or (fstP (rh, ra, rb) = (kh, kn)) with ⟨u5, e5⟩ | ⟨u5, e5⟩ <;> rcases ind_or (endP (rh, ra, rb) = (kh, kn)) with ⟨u6, e6⟩ | ⟨u6, e6⟩ <;>
    rw [e1, e2, e5, e6] <;> simp only [le2, fstP, endP, Prod.mk.injEq] at u1 u2 u5 u6 <;> omega
theorem cover_none {ws : List WRow} {p : Pt} (hn : ∀ x ∈ ws, ¬ inRow x.1 p) : cover ws p = 0 := S_zero fun x hx => ind_neg (hn x hx)
/-- something covers: its end lies behind, in the same house -/
theorem cover_pos {ws : List WRow} {p : Pt} (h : cover ws p ≠ 0) : ∃ x ∈ ws, inRow x.1 p := by
  by_cases e : ∃ x ∈ ws, inRow x.1 p
  · exact e
  · exact absurd (cover_none fun x hx q => e ⟨x, hx, q⟩) h

/-! ### the sweep -/
structure St where
  out : List Row
  total : Int
  start : Int
def stepM (ch : Pt → Int) (least : Int) (s : St) (k : Pt) : St :=
  if s.total < least ∧ least ≤ s.total + ch k then ⟨s.out, s.total + ch k, k.2⟩
  else if s.total + ch k < least ∧ least ≤ s.total then ⟨s.out ++ [(k.1, s.start, k.2 - 1)], s.total + ch k, s.start⟩
  else ⟨s.out, s.total + ch k, s.start⟩
/-- behind the point c of change: what is out, and what is open -/
structure At (ws : List WRow) (least : Int) (c : Pt) (s : St) : Prop where
  tot : s.total = cover ws c
  can : Canon s.out
  cl : s.total < least → (∀ r ∈ s.out, le2 (endP r) c) ∧ ∀ p, le2 p c → (mem s.out p ↔ least ≤ cover ws p)
  op : least ≤ s.total → s.start ≤ c.2 ∧ (∀ r ∈ s.out, lt2 (endP r) (c.1, s.start)) ∧ (∀ n, s.start ≤ n → n ≤ c.2 → least ≤ cover ws (c.1, n)) ∧
    ∀ p, lt2 p (c.1, s.start) → (mem s.out p ↔ least ≤ cover ws p)
theorem not_mem_of_end {rs : List Row} {c p : Pt} (h : ∀ r ∈ rs, le2 (endP r) c) (hp : le2 c p) : ¬ mem rs p := by
  rintro ⟨r, hr, e1, e2, e3⟩
  have a := h r hr
  unfold le2 endP at a
  unfold le2 at hp
  simp only at a
  omega
theorem At.step {ws : List WRow} {least : Int} (hl : 0 < least) (o : Wok ws) {c k : Pt} {s : St} (a : At ws least c s) (hlt : lt2 c k)
    (hn : ∀ x ∈ ws, (le2 (fstP x.1) c ∨ le2 k (fstP x.1)) ∧ (le2 (endP x.1) c ∨ le2 k (endP x.1))) : At ws least k (stepM (chg ws) least s k) := by
  have tk : s.total + chg ws k = cover ws k := by rw [a.tot, cover_step o hlt hn]
  have same : ∀ p, le2 c p → lt2 p k → cover ws p = cover ws c := fun p h1 h2 => by
    refine cover_same o h1 fun x hx => ?_
    obtain ⟨u, v⟩ := hn x hx
    unfold lt2 le2 at *
    exact ⟨by omega, by omega⟩
  unfold stepM
  rw [tk]
  by_cases h1 : s.total < least
  · obtain ⟨c1, c2⟩ := a.cl h1
    have hm : ∀ p, lt2 p k → (mem s.out p ↔ least ≤ cover ws p) := fun p hp => by
      by_cases hc : le2 p c
      · exact c2 p hc
      · have hc' : le2 c p := by unfold le2 at *; omega
        have nm := not_mem_of_end c1 hc'
        have e := same p hc' hp
        rw [e, ← a.tot]
        exact ⟨fun z => absurd z nm, fun z => absurd h1 (by omega)⟩
    by_cases h2 : least ≤ cover ws k
    · rw [if_pos ⟨h1, h2⟩]
      refine ⟨rfl, a.can, fun z => absurd z (by simp only; omega), fun _ => ⟨Int.le_refl _, fun r hr => ?_, fun n z1 z2 => ?_, fun p hp => hm p hp⟩⟩
      · have q := c1 r hr
        unfold le2 lt2 at *
        simp only at *
        omega
      · have : n = k.2 := by simp only at z1 z2; omega
        rw [this]; exact h2
    · rw [if_neg (fun z => h2 z.2), if_neg (fun z => absurd z.2 (by omega))]
      refine ⟨rfl, a.can, fun _ => ⟨fun r hr => ?_, fun p hp => ?_⟩, fun z => absurd z (by simp only; omega)⟩
      · have q := c1 r hr
        unfold le2 lt2 at *
        omega
      · by_cases hpk : lt2 p k
        · exact hm p hpk
        · have e : p = k := by
            obtain ⟨p1, p2⟩ := p
            obtain ⟨k1, k2⟩ := k
            unfold le2 at hp
            unfold lt2 at hpk
            simp only at hp hpk
            have e1 : p1 = k1 := by omega
            have e2 : p2 = k2 := by omega
            rw [e1, e2]
          subst e
          have hck : le2 c p := by unfold lt2 at hlt; unfold le2; omega
          exact ⟨fun z => absurd z (not_mem_of_end c1 hck), fun z => absurd z h2⟩
  · have h1' : least ≤ s.total := by omega
    obtain ⟨o1, o2, o3, o4⟩ := a.op h1'
    rw [if_neg (fun z => h1 z.1)]
    -- a row that covers c ends behind c in its house: k lies in the same house
    have hk1 : k.1 = c.1 := by
      obtain ⟨x, hx, i1, i2, i3⟩ := cover_pos (ws := ws) (p := c) (by rw [← a.tot]; omega)
      obtain ⟨_, v⟩ := hn x hx
      unfold le2 endP at v
      unfold lt2 at hlt
      simp only at v
      omega
    have hk2 : c.2 < k.2 := by unfold lt2 at hlt; omega
    have seg : ∀ n, s.start ≤ n → n < k.2 → least ≤ cover ws (c.1, n) := fun n z1 z2 => by
      by_cases hc : n ≤ c.2
      · exact o3 n z1 hc
      · rw [same (c.1, n) (.inr ⟨rfl, by simp only; omega⟩) (.inr ⟨hk1.symm, z2⟩), ← a.tot]
        exact h1'
    by_cases h2 : cover ws k < least
    · rw [if_pos ⟨h2, h1'⟩]
      refine ⟨rfl, a.can.snoc (by simp only; omega) fun r hr => ?_, fun _ => ⟨fun r hr => ?_, fun p hp => ?_⟩, fun z => absurd z (show ¬ least ≤ cover ws k by omega)⟩
      · have q := o2 r hr
        unfold lt2 endP at q
        unfold before
        simp only at q ⊢
        omega
      · rcases List.mem_append.mp hr with hr | hr
        · have q := o2 r hr
          unfold lt2 at q
          unfold le2
          simp only at q ⊢
          omega
        · rw [List.mem_singleton.mp hr]
          exact .inr ⟨rfl, show k.2 - 1 + 1 ≤ k.2 by omega⟩
      · rw [mem_append]
        by_cases hb : lt2 p (c.1, s.start)
        · rw [← o4 p hb]
          constructor
          · rintro (z | ⟨r, hr, i1, i2, i3⟩)
            · exact z
            · rw [List.mem_singleton.mp hr] at i1 i2 i3
              unfold lt2 at hb
              simp only at i1 i2 i3 hb
              omega
          · exact .inl
        · by_cases hpk : lt2 p k
          · have e : p.1 = c.1 := by
              unfold lt2 at hb hpk
              simp only at hb
              omega
            have z1 : s.start ≤ p.2 := by
              unfold lt2 at hb
              simp only at hb
              omega
            have z2 : p.2 < k.2 := by
              unfold lt2 at hpk
              omega
            have q := seg p.2 z1 z2
            rw [← e] at q
            refine ⟨fun _ => q, fun _ => .inr ⟨_, List.mem_singleton.mpr rfl, ?_, ?_, ?_⟩⟩
            · simp only; omega
            · exact z1
            · simp only; omega
          · have e : p = k := by
              obtain ⟨p1, p2⟩ := p
              obtain ⟨k1, k2⟩ := k
              unfold le2 at hp
              unfold lt2 at hpk
              simp only at hp hpk
              have e1 : p1 = k1 := by omega
              have e2 : p2 = k2 := by omega
              rw [e1, e2]
            subst e
            refine ⟨fun z => ?_, fun z => absurd z (by omega)⟩
            exfalso
            rcases z with ⟨r, hr, i1, i2, i3⟩ | ⟨r, hr, i1, i2, i3⟩
            · have q := o2 r hr
              unfold lt2 endP at q
              simp only at q
              omega
            · rw [List.mem_singleton.mp hr] at i1 i2 i3
              simp only at i1 i2 i3
              omega
    · rw [if_neg (fun z => h2 z.1)]
      refine ⟨rfl, a.can, fun z => absurd z (by simp only; omega), fun _ => ⟨by simp only; omega, ?_, fun n z1 z2 => ?_, ?_⟩⟩
      · rw [hk1]; exact o2
      · rw [hk1]
        by_cases hn2 : n < k.2
        · exact seg n z1 hn2
        · have : n = k.2 := by omega
          rw [this, ← hk1]
          show least ≤ cover ws k
          omega
      · rw [hk1]; exact o4
/-- the first point -/
theorem At.start {ws : List WRow} {least : Int} (hl : 0 < least) (o : Wok ws) {k : Pt} (z : Int) (hn : ∀ x ∈ ws, le2 k (fstP x.1) ∧ le2 k (endP x.1)) :
    At ws least k (stepM (chg ws) least ⟨[], 0, z⟩ k) := by
  have tk : (0 : Int) + chg ws k = cover ws k := by rw [cover_first o hn]; omega
  have zero : ∀ p, lt2 p k → cover ws p = 0 := fun p hp => cover_none fun x hx ⟨i1, i2, i3⟩ => by
    obtain ⟨u, _⟩ := hn x hx
    unfold le2 fstP at u
    unfold lt2 at hp
    simp only at u
    omega
  unfold stepM
  simp only
  rw [tk]
  by_cases h2 : least ≤ cover ws k
  · rw [if_pos ⟨hl, h2⟩]
    refine ⟨rfl, .nil, fun z => absurd z (by simp only; omega), fun _ => ⟨Int.le_refl _, fun r hr => absurd hr (by simp), fun n z1 z2 => ?_, fun p hp => ?_⟩⟩
    · have : n = k.2 := by simp only at z1 z2; omega
      rw [this]; exact h2
    · rw [zero p hp]
      exact ⟨fun z => absurd z mem_nil, fun z => absurd z (by omega)⟩
  · rw [if_neg (fun z => h2 z.2), if_neg (fun z => absurd z.2 (by omega))]
    refine ⟨rfl, .nil, fun _ => ⟨fun r hr => absurd hr (by simp), fun p hp => ?_⟩, fun z => absurd z (by simp only; omega)⟩
    by_cases hpk : lt2 p k
    · rw [zero p hpk]
      exact ⟨fun z => absurd z mem_nil, fun z => absurd z (by omega)⟩
    · have e : p = k := by
        obtain ⟨p1, p2⟩ := p
        obtain ⟨k1, k2⟩ := k
        unfold le2 at hp
        unfold lt2 at hpk
        simp only at hp hpk
        have e1 : p1 = k1 := by omega
        have e2 : p2 = k2 := by omega
        rw [e1, e2]
      subst e
      exact ⟨fun z => absurd z mem_nil, fun z => absurd z h2⟩
theorem le2_of_not {p q : Pt} (h : ¬ lt2 p q) : le2 q p := by unfold lt2 at h; unfold le2; omega
theorem At.done {ws : List WRow} {least : Int} (hl : 0 < least) (o : Wok ws) {c : Pt} {s : St} (a : At ws least c s) (hn : ∀ x ∈ ws, le2 (fstP x.1) c ∧ le2 (endP x.1) c) :
    Canon s.out ∧ ∀ p, mem s.out p ↔ least ≤ cover ws p := by
  have far : ∀ p, le2 c p → cover ws p = 0 := fun p hp => cover_none fun x hx ⟨i1, i2, i3⟩ => by
    obtain ⟨_, v⟩ := hn x hx
    unfold le2 endP at v
    unfold le2 at hp
    simp only at v
    omega
  have ht : s.total < least := by
    rw [a.tot, far c (by unfold le2; omega)]; exact hl
  obtain ⟨c1, c2⟩ := a.cl ht
  refine ⟨a.can, fun p => ?_⟩
  by_cases hp : le2 p c
  · exact c2 p hp
  · have hp' : le2 c p := by unfold le2 at *; omega
    rw [far p hp']
    exact ⟨fun z => absurd z (not_mem_of_end c1 hp'), fun z => absurd z (by omega)⟩
theorem sweep_from {ws : List WRow} {least : Int} (hl : 0 < least) (o : Wok ws) : ∀ (ks : List Pt) (c : Pt) (s : St), At ws least c s → (c :: ks).Pairwise lt2 →
    (∀ x ∈ ws, (le2 (fstP x.1) c ∨ fstP x.1 ∈ ks) ∧ (le2 (endP x.1) c ∨ endP x.1 ∈ ks)) →
    Canon (ks.foldl (stepM (chg ws) least) s).out ∧ ∀ p, mem (ks.foldl (stepM (chg ws) least) s).out p ↔ least ≤ cover ws p
  | [], c, s, a, _, h => a.done hl o fun x hx => by
    obtain ⟨u, v⟩ := h x hx
    exact ⟨u.resolve_right (by simp), v.resolve_right (by simp)⟩
  | k :: ks, c, s, a, hp, h => by
    have h1 := (List.pairwise_cons.mp hp).1 k List.mem_cons_self
    have h2 := (List.pairwise_cons.mp hp).2
    have h3 := (List.pairwise_cons.mp h2).1
    have key : ∀ q : Pt, (le2 q c ∨ q ∈ k :: ks) → (le2 q c ∨ le2 k q) := fun q z => by
      rcases z with z | z
      · exact .inl z
      · rcases List.mem_cons.mp z with e | z
        · subst e; exact .inr (by unfold le2; omega)
        · have w := h3 q z
          exact .inr (by unfold lt2 at w; unfold le2; omega)
    refine sweep_from hl o ks k _ (a.step hl o h1 fun x hx => ⟨key _ (h x hx).1, key _ (h x hx).2⟩) h2 fun x hx => ?_
    have key2 : ∀ q : Pt, (le2 q c ∨ q ∈ k :: ks) → (le2 q k ∨ q ∈ ks) := fun q z => by
      rcases z with z | z
      · exact .inl (by unfold lt2 at h1; unfold le2 at *; omega)
      · rcases List.mem_cons.mp z with e | z
        · subst e; exact .inl (by unfold le2; omega)
        · exact .inr z
    exact ⟨key2 _ (h x hx).1, key2 _ (h x hx).2⟩
/-- THE SWEEP: the fewest rows of what weighs least or more -/
theorem sweep {ws : List WRow} {least : Int} (hl : 0 < least) (o : Wok ws) {ks : List Pt} (hp : ks.Pairwise lt2) (h : Has ks ws) (z : Int) :
    Canon (ks.foldl (stepM (chg ws) least) ⟨[], 0, z⟩).out ∧ ∀ p, mem (ks.foldl (stepM (chg ws) least) ⟨[], 0, z⟩).out p ↔ least ≤ cover ws p := by
  cases ks with
  | nil =>
    have e : ws = [] := by
      cases ws with
      | nil => rfl
      | cons x xs => exact absurd (h x List.mem_cons_self).1 (by simp)
    subst e
    refine ⟨.nil, fun p => ⟨fun z => absurd z mem_nil, fun z => absurd z ?_⟩⟩
    show ¬ least ≤ 0
    omega
  | cons k ks =>
    have h3 := (List.pairwise_cons.mp hp).1
    have key : ∀ q : Pt, q ∈ k :: ks → le2 k q := fun q z => by
      rcases List.mem_cons.mp z with e | z
      · subst e; unfold le2; omega
      · have w := h3 q z
        unfold lt2 at w; unfold le2; omega
    refine sweep_from hl o ks k _ (At.start hl o z fun x hx => ⟨key _ (h x hx).1, key _ (h x hx).2⟩) hp fun x hx => ?_
    have key2 : ∀ q : Pt, q ∈ k :: ks → (le2 q k ∨ q ∈ ks) := fun q z => by
      rcases List.mem_cons.mp z with e | z
      · subst e; exact .inl (by unfold le2; omega)
      · exact .inr z
    exact ⟨key2 _ (h x hx).1, key2 _ (h x hx).2⟩
end Rw
namespace Rw
open PySem L2
/-! ### kinds of data that never change -/
structure Kd (α : Type) where
  is : Hp → V → α → Prop
  mono : ∀ {F F' : Hp} {v : V} {x : α}, Same F F' → is F v x → is F' v x
def kInt : Kd Int := ⟨fun _ v x => v = .int x, fun _ h => h⟩
def kRow : Kd Row := ⟨fun F v r => ∃ t, v = .ref t ∧ F t = some (.tup [.int r.1, .int r.2.1, .int r.2.2]), fun s ⟨t, e, h⟩ => ⟨t, e, s _ _ h⟩⟩
def kPt : Kd Pt := ⟨fun F v p => ∃ t, v = .ref t ∧ F t = some (.tup [.int p.1, .int p.2]), fun s ⟨t, e, h⟩ => ⟨t, e, s _ _ h⟩⟩
def kW : Kd WRow := ⟨fun F v x => ∃ t u, v = .ref t ∧ F t = some (.tup [u, .int x.2]) ∧ kRow.is F u x.1, fun s ⟨t, u, e, h, k⟩ => ⟨t, u, e, s _ _ h, kRow.mono s k⟩⟩
theorem pr_mono {α : Type} {R S : V → α → Prop} (h : ∀ v x, R v x → S v x) : ∀ {vs : List V} {xs : List α}, Paired R vs xs → Paired S vs xs
  | _, _, .nil => .nil
  | _, _, .cons r t => .cons (h _ _ r) (pr_mono h t)
theorem pr_len {α : Type} {R : V → α → Prop} : ∀ {vs : List V} {xs : List α}, Paired R vs xs → vs.length = xs.length
  | _, _, .nil => rfl
  | _, _, .cons _ t => by rw [List.length_cons, List.length_cons, pr_len t]
theorem pr_get {α : Type} {R : V → α → Prop} : ∀ {vs : List V} {xs : List α} {i : Nat} {v : V}, Paired R vs xs → vs[i]? = some v → ∃ x, xs[i]? = some x ∧ R v x
  | _, _, _, _, .nil, e => by simp at e
  | _, _, 0, _, .cons r _, e => by simp at e; subst e; exact ⟨_, rfl, r⟩
  | _, _, i + 1, v, .cons _ t, e => by
    obtain ⟨x, h1, h2⟩ := pr_get (i := i) (v := v) t (by simpa using e)
    exact ⟨x, by simpa using h1, h2⟩
theorem pr_get' {α : Type} {R : V → α → Prop} : ∀ {vs : List V} {xs : List α} {i : Nat} {x : α}, Paired R vs xs → xs[i]? = some x → ∃ v, vs[i]? = some v ∧ R v x
  | _, _, _, _, .nil, e => by simp at e
  | _, _, 0, _, .cons r _, e => by simp at e; subst e; exact ⟨_, rfl, r⟩
  | _, _, i + 1, v, .cons _ t, e => by
    obtain ⟨x, h1, h2⟩ := pr_get' (i := i) t (by simpa using e)
    exact ⟨x, by simpa using h1, h2⟩
theorem pr_append {α : Type} {R : V → α → Prop} : ∀ {vs us : List V} {xs ys : List α}, Paired R vs xs → Paired R us ys → Paired R (vs ++ us) (xs ++ ys)
  | _, _, _, _, .nil, s => s
  | _, _, _, _, .cons r t, s => .cons r (pr_append t s)
theorem pr_snoc {α : Type} {R : V → α → Prop} {vs : List V} {xs : List α} {v : V} {x : α} (h : Paired R vs xs) (r : R v x) : Paired R (vs ++ [v]) (xs ++ [x]) := pr_append h (.cons r .nil)
theorem pr_take {α : Type} {R : V → α → Prop} : ∀ {vs : List V} {xs : List α} (n : Nat), Paired R vs xs → Paired R (vs.take n) (xs.take n)
  | _, _, 0, _ => .nil
  | _, _, _ + 1, .nil => .nil
  | _, _, n + 1, .cons r t => .cons r (pr_take n t)
theorem pr_drop {α : Type} {R : V → α → Prop} : ∀ {vs : List V} {xs : List α} (n : Nat), Paired R vs xs → Paired R (vs.drop n) (xs.drop n)
  | _, _, 0, r => r
  | _, _, _ + 1, .nil => .nil
  | _, _, n + 1, .cons _ t => pr_drop n t
theorem pr_map {α β : Type} {R : V → α → Prop} {S : V → β → Prop} {f : α → β} (h : ∀ v x, R v x → S v (f x)) : ∀ {vs : List V} {xs : List α}, Paired R vs xs → Paired S vs (xs.map f)
  | _, _, .nil => .nil
  | _, _, .cons r t => .cons (h _ _ r) (pr_map h t)
theorem pr_mem {α : Type} {R : V → α → Prop} {v : V} : ∀ {vs : List V} {xs : List α}, Paired R vs xs → v ∈ vs → ∃ x ∈ xs, R v x
  | _, _, .nil, h => by simp at h
  | _, _, .cons r t, h => by
    rcases List.mem_cons.mp h with e | h
    · subst e; exact ⟨_, List.mem_cons_self, r⟩
    · obtain ⟨x, hx, rx⟩ := pr_mem t h; exact ⟨x, List.mem_cons_of_mem _ hx, rx⟩
/-- lists of data -/
def kL {α : Type} (k : Kd α) : Kd (List α) := ⟨fun F v xs => ∃ a vs, v = .ref a ∧ F a = some (.lst vs) ∧ Paired (k.is F) vs xs, fun s ⟨a, vs, e, h, p⟩ => ⟨a, vs, e, s _ _ h, pr_mono (fun _ _ r => k.mono s r) p⟩⟩
/-! ### frames: F the part that never changes, H the whole; M the places that the step may change -/
structure Ext (M : Addr → Prop) (F H F' H' : Hp) : Prop where
  ff : Same F F'
  fh : Same F' H'
  hh : ∀ b o, H b = some o → ¬ M b → H' b = some o
  tr : ∀ b, H b ≠ none → H' b ≠ none
  new : ∀ b, H b ≠ none → F' b = F b
abbrev M0 : Addr → Prop := fun _ => False
section
variable {M M' : Addr → Prop} {F H F' H' F'' H'' : Hp} {p : Addr} {o : HO}
theorem Ext.refl (s : Same F H) : Ext M F H F H := ⟨Same.refl F, s, fun _ _ h _ => h, fun _ h => h, fun _ _ => rfl⟩
theorem Ext.trans (a : Ext M F H F' H') (b : Ext M F' H' F'' H'') : Ext M F H F'' H'' :=
  ⟨a.ff.trans b.ff, b.fh, fun c u h m => b.hh c u (a.hh c u h m) m, fun c h => b.tr c (a.tr c h), fun c h => (b.new c (a.tr c h)).trans (a.new c h)⟩
theorem Ext.mono (a : Ext M F H F' H') (h : ∀ b, M b → M' b) : Ext M' F H F' H' := ⟨a.ff, a.fh, fun c u e m => a.hh c u e fun z => m (h c z), a.tr, a.new⟩
theorem Ext.up (a : Ext M0 F H F' H') : Ext M F H F' H' := a.mono fun _ z => z.elim
theorem Ext.same (a : Ext M0 F H F' H') : Same H H' := fun b o h => a.hh b o h fun z => z
theorem Ext.free (a : Ext M F H F' H') (h : H' p = none) : H p = none := by
  cases q : H p with
  | none => rfl
  | some u => exact absurd h (a.tr p (by rw [q]; simp))
theorem Ext.ffree (a : Ext M F H F' H') (h : H' p = none) : F' p = none := a.fh.free h
/-- a new thing that never changes -/
theorem Ext.lay (a : Ext M F H F' H') (h : H' p = none) : Ext M F H (upd F' p o) (upd H' p o) := by
  have fp := a.ffree h
  have hp := a.free h
  refine ⟨fun b u e => ?_, fun b u e => ?_, fun b u e m => ?_, fun b e => ?_, fun b e => ?_⟩
  · rw [upd_ne (ne_of_none (a.ff b u e) fp)]; exact a.ff b u e
  · by_cases hb : b = p
    · subst hb; rw [upd_same] at e ⊢; exact e
    · rw [upd_ne hb] at e ⊢; exact a.fh b u e
  · rw [upd_ne (ne_of_none (a.hh b u e m) h)]; exact a.hh b u e m
  · by_cases hb : b = p
    · subst hb; exact absurd hp e
    · rw [upd_ne hb]; exact a.tr b e
  · by_cases hb : b = p
    · subst hb; exact absurd hp e
    · rw [upd_ne hb]; exact a.new b e
/-- a new thing outside of F, or a change of one -/
theorem Ext.put (a : Ext M F H F' H') (h : H p = none ∨ M p) (f : F' p = none) : Ext M F H F' (upd H' p o) := by
  refine ⟨a.ff, fun b u e => ?_, fun b u e m => ?_, fun b e => ?_, a.new⟩
  · rw [upd_ne (ne_of_none e f)]; exact a.fh b u e
  · have hb : b ≠ p := fun z => by
      subst z
      rcases h with h | h
      · rw [h] at e; cases e
      · exact m h
    rw [upd_ne hb]; exact a.hh b u e m
  · by_cases hb : b = p
    · subst hb; rw [upd_same]; simp
    · rw [upd_ne hb]; exact a.tr b e
theorem Ext.tmp (a : Ext M F H F' H') (h : H' p = none) : Ext M F H F' (upd H' p o) := a.put (.inl (a.free h)) (a.ffree h)
/-- what was made within, from now on never changes -/
theorem Ext.frz (a : Ext M F H F' H') (h : H p = none) (f : F' p = none) (e : H' p = some o) : Ext M F H (upd F' p o) H' := by
  refine ⟨fun b u z => ?_, fun b u z => ?_, a.hh, a.tr, fun b z => ?_⟩
  · rw [upd_ne (ne_of_none (a.ff b u z) f)]; exact a.ff b u z
  · by_cases hb : b = p
    · subst hb; rw [upd_same] at z; cases z; exact e
    · rw [upd_ne hb] at z; exact a.fh b u z
  · have hb : b ≠ p := fun q => by subst q; exact z h
    rw [upd_ne hb]; exact a.new b z
end
theorem same_upd {H : Hp} {p : Addr} {o : HO} (h : H p = none) : Same H (upd H p o) := fun b x e => by
  rw [upd_ne (ne_of_none e h)]
  exact e
/-- a promise: a new list of such data, of which φ holds; the list itself may be changed behind -/
def RetL {α : Type} (M : Addr → Prop) (F H : Hp) (k : Kd α) (φ : List α → Prop) (Q : VK) : Prop :=
  ∀ (F' H' : Hp) (a : Addr) (vs : List V) (xs : List α), Ext M F H F' H' → H a = none → F' a = none → H' a = some (.lst vs) → Paired (k.is F') vs xs → φ xs → Q (.ref a) H'
/-- a promise: this value, nothing changed -/
def RetV (F H : Hp) (v : V) (Q : VK) : Prop := ∀ (F' H' : Hp), Ext M0 F H F' H' → Q v H'
theorem kL_new {α : Type} {k : Kd α} {F' : Hp} {a : Addr} {vs : List V} {xs : List α} (f : F' a = none) (h : Paired (k.is F') vs xs) : (kL k).is (upd F' a (.lst vs)) (.ref a) xs :=
  ⟨a, vs, rfl, upd_same, pr_mono (fun _ _ r => k.mono (same_upd f) r) h⟩
/-! ### as data of the library -/
def dRow (r : Row) : PyData := .tuple [.int r.1, .int r.2.1, .int r.2.2]
def dPt (p : Pt) : PyData := .tuple [.int p.1, .int p.2]
structure Kd.Enc {α : Type} (k : Kd α) (d : α → PyData) : Prop where
  dp : ∀ {K : PySem.W.Frag} {F H : Hp} {v : V} {x : α}, Same F H → k.is F v x → Dp K H v (d x)
theorem dpInts {K : PySem.W.Frag} {H : Hp} : ∀ ns : List Int, DpAll K H (ns.map V.int) (ns.map PyData.int)
  | [] => .nil
  | n :: ns => .cons (.int n) (dpInts ns)
theorem enc_row : kRow.Enc dRow := ⟨fun s ⟨t, e, h⟩ => by subst e; exact .tup (SqT.of (s _ _ h)) (dpInts [_, _, _])⟩
theorem enc_pt : kPt.Enc dPt := ⟨fun s ⟨t, e, h⟩ => by subst e; exact .tup (SqT.of (s _ _ h)) (dpInts [_, _])⟩
theorem dpAll {α : Type} {k : Kd α} {d : α → PyData} (E : k.Enc d) {K : PySem.W.Frag} {F H : Hp} (s : Same F H) : ∀ {vs : List V} {xs : List α}, Paired (k.is F) vs xs → DpAll K H vs (xs.map d)
  | _, _, .nil => .nil
  | _, _, .cons r t => .cons (E.dp s r) (dpAll E s t)
def dL {α : Type} (d : α → PyData) (xs : List α) : PyData := .list (xs.map d)
theorem enc_L {α : Type} {k : Kd α} {d : α → PyData} (E : k.Enc d) : (kL k).Enc (dL d) := ⟨fun s ⟨a, vs, e, h, p⟩ => by subst e; exact .lst (SqL.of (s _ _ h)) (dpAll E s p)⟩
end Rw
namespace Rw
open PySem PySem.Spec PyProof.Rows L2
/-! ### sorted(d) of a dict whose keys are pairs of ints, any length -/
section
variable {prog : Program} {w : World} {A : Around} {E : Value → Shared → Prop} {s : Shared} {T : String} {r d : Addr} {n : Nat} {P : Nat → Value → Prop} {OK : Heap → Prop}
theorem sorted_src {vs : List Value} {k : Value → Int × Int} {Q : Value → Shared → Prop} (K : PySem.W.KdlSrc prog w T r d n P OK) (hh : A.handled = none) (hok : OK s.heap) (hn : n ≤ sizeLine)
    (hv : ∀ acc, ItemsOf P acc n → acc.toList = vs) (hp : ∀ v ∈ vs, Srt.IsPair s.heap v (k v).1 (k v).2)
    (h : ∀ (h1 h' : Heap) (tk : Nat) (e : Addr) (out : List Value), SrtO.Srtd (fun v u => SrtO.lexB (k v) (k u)) out → SrtO.Stb (fun v u => SrtO.lexB (k v) (k u)) out vs → (∀ b o, s.heap.get? b = some o → h1.get? b = some o) → (∀ b o, h1.get? b = some o → h'.get? b = some o) → h1.objs.size ≤ e →
      (∃ n, h'.get? e = some (seqObj "list" out.toArray n)) → Q (.ref e) { s with heap := h', toks := tk }) :
    wpAny (model prog w) A (call (.builtin "sorted") [.ref r]) Q E s := by
  refine Calls.call_function_entry kind_sorted plain_sorted entry_sorted (args_sorted1 _) ?_
  unfold Builtin.«sorted»
  refine wpAny_bind (m := checkCount "sorted" 1 1 _) (wpAny_pure ?_)
  refine wpAny_bind (PySem.W.kdu_collect (A := A.in1) K hh hok hn fun h' tk acc hk hacc => ?_)
  have e := hv acc hacc
  have hz : vs.length ≤ sizeLine := by rw [← e, Array.length_toList, hacc.1]; exact hn
  rw [e]
  refine wpAny_bind (wpAny_newList ?_ hz)
  have hoL : (h'.push (seqObj "list" vs.toArray 0)).get? h'.objs.size = some (seqObj "list" vs.toArray 0) := Heap.get?_push_size _ rfl
  have keep : ∀ b o, s.heap.get? b = some o → b ≠ h'.objs.size ∧ (h'.push (seqObj "list" vs.toArray 0)).get? b = some o := fun b o q =>
    ⟨Nat.ne_of_lt (Heap.lt_size (hk b o q)), Heap.get?_push_of_some _ (hk b o q)⟩
  show wpAny _ _ _ _ _ { s with heap := h'.push (seqObj "list" vs.toArray 0), toks := tk }
  refine wpAny_bind (wpAny_holding (wpAny_call_entry slot_list_sort ⟨_, hoL, rfl⟩ entry_list_sort
    (SrtO.list_sort_ord (s := { s with heap := h'.push (seqObj "list" vs.toArray 0), toks := tk }) (SrtO.swo_lex k) hoL hz (fun h2 => ?_) fun out hs hb => ⟨_, rfl, ?_⟩) (args_list_sort _)))
  · refine SrtO.pairs_sortableO (s := { s with heap := h'.push (seqObj "list" vs.toArray 0), toks := tk }) (by omega) (fun v hm => (hp v hm).keeps fun b o e _ => (keep b o e).2) fun o e' => ?_
    have e2 : some o = some (seqObj "list" vs.toArray 0) := e'.symm.trans hoL
    cases e2
    intro c
    exact absurd (Value.type.inj c) (by decide)
  · refine wpAny_pure ⟨_, rfl, h h' _ tk h'.objs.size out hs hb hk (fun b o q => ?_) (Nat.le_refl _) (sortedHeap_at hoL)⟩
    have hb : b < h'.objs.size := Heap.lt_size q
    rw [sortedHeap_old (Nat.ne_of_lt hb) (by rw [size_push']; exact Nat.lt_succ_of_lt hb)]
    exact Heap.get?_push_of_some _ q
end
/-- the key of a point -/
def kk (p : Pt) : List Key := [.inl p.1, .inl p.2]
theorem kk_inj {p q : Pt} (h : kk p = kk q) : p = q := by
  unfold kk at h
  have h1 := List.cons.inj h
  have h2 := List.cons.inj h1.2
  obtain ⟨p1, p2⟩ := p
  obtain ⟨q1, q2⟩ := q
  have e1 : p1 = q1 := Sum.inl.inj h1.1
  have e2 : p2 = q2 := Sum.inl.inj h2.1
  rw [e1, e2]
section
variable {X : Cx}
/-- the pair of ints that a value is, by the abstract heap -/
noncomputable def ptOf (H : Hp) (v : V) : Pt := open Classical in if h : ∃ p : Pt, kPt.is H v p then h.choose else (0, 0)
theorem kPt_inj {H : Hp} {v : V} {p q : Pt} (a : kPt.is H v p) (b : kPt.is H v q) : p = q := by
  obtain ⟨t, e, h⟩ := a
  obtain ⟨u, e', h'⟩ := b
  subst e
  cases e'
  rw [h] at h'
  have z := HO.tup.inj (Option.some.inj h')
  have z1 := List.cons.inj z
  have z2 := List.cons.inj z1.2
  obtain ⟨p1, p2⟩ := p
  obtain ⟨q1, q2⟩ := q
  have e1 : p1 = q1 := V.int.inj z1.1
  have e2 : p2 = q2 := V.int.inj z2.1
  rw [e1, e2]
theorem ptOf_eq {H : Hp} {v : V} {p : Pt} (h : kPt.is H v p) : ptOf H v = p := by
  have e : ∃ p : Pt, kPt.is H v p := ⟨p, h⟩
  unfold ptOf
  rw [dif_pos e]
  exact kPt_inj e.choose_spec h
theorem isPair_of {pins : List (Addr × Obj)} {σ : L2.St} {H : Hp} {s : Shared} (I : Inv X pins σ H s) {t : Addr} {p : Pt} (h : kPt.is H (.ref t) p) : Srt.IsPair s.heap (.ref t) p.1 p.2 := by
  obtain ⟨u, e, ht⟩ := h
  cases e
  obtain ⟨_, its2, r2, o, ho, hc, n, hd⟩ := I.hok _ _ ht
  obtain ⟨u1, u2, rfl, ri, rj⟩ := vals2 r2
  obtain ⟨t1, rfl⟩ := ri
  obtain ⟨t2, rfl⟩ := rj
  exact ⟨_, o, t1, t2, n, rfl, ho, hc, hd⟩
theorem keys_pts {H : Hp} : ∀ {kvs : List (List Key × V)} {bs : List Addr} {ps : List Pt}, IsKeys H kvs bs → kvs.map (·.1) = ps.map kk → Paired (kPt.is H) (bs.map V.ref) ps
  | [], _, [], .nil, _ => .nil
  | [], _, _ :: _, .nil, e => by simp at e
  | _ :: _, _, [], _, e => by simp at e
  | kv :: kvs, _, p :: ps, .cons (b := b) r t, e => by
    have e1 := List.cons.inj e
    refine .cons ⟨b, rfl, ?_⟩ (keys_pts t e1.2)
    have : kv.1 = kk p := e1.1
    rw [this] at r
    exact r
theorem pr_perm {α : Type} {R : V → α → Prop} {f : V → α} (hf : ∀ v x, R v x → f v = x) : ∀ {vs : List V} {xs : List α}, Paired R vs xs → xs = vs.map f
  | _, _, .nil => rfl
  | _, _, .cons r t => by rw [List.map_cons, ← pr_perm hf t, hf _ _ r]
theorem pr_of_all {α : Type} {R : V → α → Prop} {f : V → α} : ∀ {vs : List V}, (∀ v ∈ vs, R v (f v)) → Paired R vs (vs.map f)
  | [], _ => .nil
  | v :: vs, h => .cons (h v List.mem_cons_self) (pr_of_all fun u hu => h u (List.mem_cons_of_mem _ hu))
/-- what behind a sort of pairs stands: the points, in order -/
theorem sorted_pts {H : Hp} {vs ys : List V} {ps : List Pt} (h : Paired (kPt.is H) vs ps) (nd : ps.Nodup) (hs : SrtO.Srtd (ltP (ptOf H)) ys) (hb : SrtO.Stb (ltP (ptOf H)) ys vs) :
    ∃ qs : List Pt, Paired (kPt.is H) ys qs ∧ qs.Perm ps ∧ qs.Pairwise lt2 := by
  have e : ps = vs.map (ptOf H) := pr_perm (fun v x r => ptOf_eq r) h
  have all : ∀ v ∈ ys, kPt.is H v (ptOf H v) := fun v hv => by
    obtain ⟨x, _, r⟩ := pr_mem h (hb.perm.mem_iff.mp hv)
    rw [ptOf_eq r]
    exact r
  have perm : (ys.map (ptOf H)).Perm ps := by rw [e]; exact hb.perm.map _
  refine ⟨ys.map (ptOf H), pr_of_all all, perm, ?_⟩
  have nd' : (ys.map (ptOf H)).Nodup := perm.nodup_iff.mpr nd
  rw [List.pairwise_map]
  have nd2 : ys.Pairwise fun a b => ptOf H a ≠ ptOf H b := List.pairwise_map.mp nd'
  refine (List.Pairwise.and hs nd2).imp fun {a b} z => ?_
  have a1 := SrtO.lexB_no.mp z.1
  have a2 := z.2
  unfold lt2
  have a3 : ¬ ((ptOf H a).1 = (ptOf H b).1 ∧ (ptOf H a).2 = (ptOf H b).2) := fun q => a2 (Prod.ext q.1 q.2)
  omega
def rSortedDT : List V → Hp → VK → Prop := fun vs H Q => ∃ (d : Addr) (kvs : List (List Key × V)) (ps : List Pt), vs = [V.ref d] ∧ H d = some (.dT kvs) ∧ kvs.map (·.1) = ps.map kk ∧ ps.Nodup ∧
  ∀ (ys : List V) (qs : List Pt) (p : Addr), Paired (kPt.is H) ys qs → qs.Perm ps → qs.Pairwise lt2 → H p = none → Q (.ref p) (upd H p (.lst ys))
theorem cr_sortedDT (hc : X.calm = true) : CallR X (.builtin "sorted") rSortedDT := by
  intro pins s σ H xs us Q I r h
  obtain ⟨d, kvs, ps, rfl, hd, hps, hnd, q⟩ := h
  obtain ⟨u, rfl, rx⟩ := r.one
  cases rx
  obtain ⟨z, hs, ks, pr, o, es, ep, ho, hx, hdt, he, hn⟩ := (show ObjOk X.prog X.w H s.heap d (.dT kvs) from I.hok d _ hd)
  have l1 : es.size = ks.length := size_of_entries he
  have l2 : kvs.length = ks.length := Paired.length pr
  have hpp : Paired (kPt.is H) ((ks.map fun x => x.2.1).map V.ref) ps := keys_pts (isKeys_of pr) hps
  refine sorted_src (vs := (ks.map fun x => x.2.1).map Value.ref) (k := fun u => ptOf H (backV u)) (kdl_raw hs hx hdt) (I.ok.hd hc) ho (by omega) (fun acc' it => ?_) (fun v hv => ?_) fun h1 h' tk e out hs1 hb1 k1 k2 hle hob => ?_
  · have hl : acc'.toList.length = ks.length := by rw [Array.length_toList, it.1]; exact l1
    rw [List.map_map]
    apply List.ext_getElem?
    intro j
    rw [List.getElem?_map]
    cases hj : acc'.toList[j]? with
    | none =>
      have h1 := List.getElem?_eq_none_iff.mp hj
      rw [List.getElem?_eq_none (by omega)]
      all_goals rfl
    | some v =>
      obtain ⟨en, hen, hv⟩ := it.2 j v (by rw [← Array.getElem?_toList]; exact hj)
      have qe := entry_at he j
      rw [hen] at qe
      cases hb : ks[j]? with
      | none =>
        rw [hb] at qe
        exact nomatch (show some en = none from qe)
      | some b =>
        rw [hb] at qe
        have e2 : en = entryOfKey (tupleKind (mixKind X.prog X.w)) b := Option.some.inj qe
        rw [hv, e2]
        all_goals rfl
  · obtain ⟨t, ht, rfl⟩ := List.mem_map.mp hv
    obtain ⟨x, _, rx⟩ := pr_mem hpp (List.mem_map.mpr ⟨t, ht, rfl⟩)
    have : ptOf H (backV (Value.ref t)) = x := ptOf_eq rx
    show Srt.IsPair _ _ (ptOf H (backV (Value.ref t))).1 (ptOf H (backV (Value.ref t))).2
    rw [this]
    exact isPair_of I rx
  · have h3 : ∀ u ∈ out, ∃ a, u = Value.ref a := fun u hu => by
      have := hb1.perm.mem_iff.mp hu
      obtain ⟨t, _, rfl⟩ := List.mem_map.mp this
      exact ⟨t, rfl⟩
    have hback : ((ks.map fun x => x.2.1).map Value.ref).map backV = (ks.map fun x => x.2.1).map V.ref := by
      rw [List.map_map]
      exact List.map_congr_left fun _ _ => rfl
    have hb2 : SrtO.Stb (ltP (ptOf H)) (out.map backV) ((ks.map fun x => x.2.1).map V.ref) := by
      rw [← hback]
      exact SrtO.Stb.map (ltP_swo (ptOf H)) backV hb1
    obtain ⟨qs, a1, a2, a3⟩ := sorted_pts hpp hnd (SrtO.srtd_map hs1) hb2
    obtain ⟨n, hob⟩ := hob
    have I1 : Inv X pins σ H { s with heap := h1 } := I.kept (t' := s.toks) k1
    refine ⟨.ref e, upd H e (.lst (out.map backV)), I1.laid (t' := tk) k2 hle ⟨?_, out, n, vals_back h3, hob⟩, rfl, q _ qs e a1 a2 a3 (I1.hok.fresh hle)⟩
    rw [hb2.len, List.length_map, List.length_map, ← l2]
    exact z
end
end Rw
namespace Rw
open PySem L2
def topS (i : Nat) : Stmt := PySem.Challenge.pw_doneranges_k24_wrongly_led.main.body.getD i (.Pass ⟨0, 0, 0, 0⟩)
abbrev s_is_number : Stmt := topS 7
theorem sc_is_number : FnScope ["value", "low", "high"] ["value", "low", "high"] (defScope s_is_number) := ⟨rfl, rfl, rfl, by decide +kernel, rfl, by decide +kernel, by decide +kernel⟩
abbrev s_is_house : Stmt := topS 8
theorem sc_is_house : FnScope ["value"] ["value"] (defScope s_is_house) := ⟨rfl, rfl, rfl, by decide +kernel, rfl, by decide +kernel, by decide +kernel⟩
abbrev s_is_row : Stmt := topS 9
theorem sc_is_row : FnScope ["row", "house", "first", "last"] ["row"] (defScope s_is_row) := ⟨rfl, rfl, rfl, by decide +kernel, rfl, by decide +kernel, by decide +kernel⟩
abbrev s_first_wrong : Stmt := topS 10
theorem sc_first_wrong : FnScope ["rows", "at", "row"] ["rows"] (defScope s_first_wrong) := ⟨rfl, rfl, rfl, by decide +kernel, rfl, by decide +kernel, by decide +kernel⟩
abbrev s_check_rows : Stmt := topS 11
theorem sc_check_rows : FnScope ["rows", "at"] ["rows"] (defScope s_check_rows) := ⟨rfl, rfl, rfl, by decide +kernel, rfl, by decide +kernel, by decide +kernel⟩
abbrev s_changes_of : Stmt := topS 12
theorem sc_changes_of : FnScope ["weighed", "changes", "house", "first", "last", "weight"] ["weighed"] (defScope s_changes_of) := ⟨rfl, rfl, rfl, by decide +kernel, rfl, by decide +kernel, by decide +kernel⟩
abbrev s_reaching : Stmt := topS 13
theorem sc_reaching : FnScope ["weighed", "least", "changes", "out", "total", "start", "house", "number", "ahead"] ["weighed", "least"] (defScope s_reaching) := ⟨rfl, rfl, rfl, by decide +kernel, rfl, by decide +kernel, by decide +kernel⟩
abbrev s_fewest : Stmt := topS 14
theorem sc_fewest : FnScope ["rows", "row"] ["rows"] (defScope s_fewest) := ⟨rfl, rfl, rfl, by decide +kernel, rfl, by decide +kernel, by decide +kernel⟩
abbrev s_without : Stmt := topS 15
theorem sc_without : FnScope ["one", "other", "kept", "barred", "row"] ["one", "other"] (defScope s_without) := ⟨rfl, rfl, rfl, by decide +kernel, rfl, by decide +kernel, by decide +kernel⟩
abbrev s_wrongly : Stmt := topS 17
theorem sc_wrongly : FnScope ["lead", "dones", "rows", "beyond", "house"] ["lead", "dones"] (defScope s_wrongly) := ⟨rfl, rfl, rfl, by decide +kernel, rfl, by decide +kernel, by decide +kernel⟩
abbrev s_law_dice : Stmt := topS 19
theorem sc_law_dice : FnScope ["_law_script", "_law_mixed", "_law_cell"] ["_law_script"] (defScope s_law_dice) := ⟨rfl, rfl, rfl, by decide +kernel, rfl, by decide +kernel, by decide +kernel⟩
abbrev s_law_next : Stmt := topS 20
theorem sc_law_next : FnScope ["_law_dice_here", "_law_many", "_law_found", "_law_cell"] ["_law_dice_here", "_law_many"] (defScope s_law_next) := ⟨rfl, rfl, rfl, by decide +kernel, rfl, by decide +kernel, by decide +kernel⟩
abbrev s_law_like : Stmt := topS 21
theorem sc_law_like : FnScope ["_law_found", "_law_due", "_law_k"] ["_law_found", "_law_due"] (defScope s_law_like) := ⟨rfl, rfl, rfl, by decide +kernel, rfl, by decide +kernel, by decide +kernel⟩
abbrev s_law_rows : Stmt := topS 22
theorem sc_law_rows : FnScope ["_law_d", "_law_houses", "_law_far", "_law_most", "_law_found", "_law_k", "_law_first", "_law_wide"] ["_law_d", "_law_houses", "_law_far", "_law_most"] (defScope s_law_rows) := ⟨rfl, rfl, rfl, by decide +kernel, rfl, by decide +kernel, by decide +kernel⟩
abbrev s_law_moved : Stmt := topS 23
theorem sc_law_moved : FnScope ["_law_rows_here", "_law_by", "_law_house", "_law_first", "_law_last"] ["_law_rows_here", "_law_by"] (defScope s_law_moved) := ⟨rfl, rfl, rfl, by decide +kernel, rfl, by decide +kernel, by decide +kernel⟩
abbrev s_law_names : Stmt := topS 24
theorem sc_law_names : FnScope ["_law_rows_here", "_law_found", "_law_house", "_law_first", "_law_last", "_law_number"] ["_law_rows_here"] (defScope s_law_names) := ⟨rfl, rfl, rfl, by decide +kernel, rfl, by decide +kernel, by decide +kernel⟩
abbrev s_law_told_rows : Stmt := topS 25
theorem sc_law_told_rows : FnScope ["_law_names_here", "_law_found", "_law_house", "_law_number"] ["_law_names_here"] (defScope s_law_told_rows) := ⟨rfl, rfl, rfl, by decide +kernel, rfl, by decide +kernel, by decide +kernel⟩
abbrev s_law : Stmt := topS 26
theorem sc_law : FnScope ["_law_script", "_law_d", "_law_turn", "_law_houses", "_law_far", "_law_lead", "_law_dones", "_law_k", "_law_rows_here", "_law_by", "_law_names_here", "_law_due", "_law_more", "_law_handed", "_law_again", "_law_found", "_law_house", "_law_name"] ["_law_script"] (defScope s_law) := ⟨rfl, rfl, rfl, by decide +kernel, rfl, by decide +kernel, by decide +kernel⟩
end Rw
namespace Rw
open PySem L2
section
variable (P : Program) (w : World) (K : PySem.W.Frag) (mg : Str → Option Value) (base : Heap)
/-- a def that may be called by its name -/
def Cal (k : Nat) (x : Str) (ps : List Str) (sp : Sp) : Prop :=
  ∃ (f : Addr) (fd : FuncData), FnOk P w K mg base CX0 k f fd ps sp ∧ mg x = some (.ref f) ∧ PySem.W.keepIn K (.ref f) = true ∧ Binds K fd ps []
end
theorem tyx_int {K : PySem.W.Frag} {H : Hp} (i : Int) : TyX K H (.int i) (.type "int") := .base (.int i)
theorem tyx_tup {K : PySem.W.Frag} {H : Hp} {a : Addr} {xs : List V} (h : H a = some (.tup xs)) : TyX K H (.ref a) (.type "tuple") := .base (.tup h)
theorem tyx_lst {K : PySem.W.Frag} {H : Hp} {a : Addr} {xs : List V} (h : H a = some (.lst xs)) : TyX K H (.ref a) (.type "list") := .base (.lst h)
theorem kit_ii {K : PySem.W.Frag} : PySem.W.kitOne K (.type "int") (.type "int") = some true := kit_ty (by decide +kernel)
theorem kit_ib {K : PySem.W.Frag} : PySem.W.kitOne K (.type "int") (.type "bool") = some false := kit_ty (by decide +kernel)
theorem kit_tt {K : PySem.W.Frag} : PySem.W.kitOne K (.type "tuple") (.type "tuple") = some true := kit_ty (by decide +kernel)
theorem bt_int : bootBuiltins "int" = some (.type "int") := by decide +kernel
theorem bt_bool : bootBuiltins "bool" = some (.type "bool") := by decide +kernel
theorem bt_tuple : bootBuiltins "tuple" = some (.type "tuple") := by decide +kernel
theorem pe_bty {X : Cx} {x : Str} {n : String} {pos : Pos} (hg : Gl X x) (hm : X.mg x = none) (hv : bootBuiltins x = some (.type n)) (hn : x ≠ "__name__" := by decide) (hd : (x == ("__debug__" : Str)) = false := by decide) : PE X (.Name x pos) (tC (.ty n)) :=
  pe_bltn (v := .ty n) (u := .type n) hg hm hv rfl hn hd
end Rw
namespace Rw
open PySem L2
/-! ### the refusals' readers, of what is right -/
def LIM : Int := 1000000000000
def spIsNumber : Sp := fun vs H Q _ => ∃ v lo hi : Int, vs = [.int v, .int lo, .int hi] ∧ Q (.bl (decide (lo ≤ v ∧ v ≤ hi))) H
def spIsHouse : Sp := fun vs H Q _ => ∃ v : Int, vs = [.int v] ∧ Q (.bl (decide (0 ≤ v ∧ v ≤ 7))) H
/-- a row as it may be handed in -/
def RowOk (r : Row) : Prop := 0 ≤ r.1 ∧ r.1 ≤ 7 ∧ 1 ≤ r.2.1 ∧ r.2.1 ≤ r.2.2 ∧ r.2.2 ≤ LIM
def spIsRow : Sp := fun vs H Q _ => ∃ (v : V) (r : Row), vs = [v] ∧ kRow.is H v r ∧ RowOk r ∧ Q (.bl true) H
def RowsOk (rs : List Row) : Prop := rs.length ≤ 200 ∧ ∀ r ∈ rs, RowOk r
def spFirstWrong : Sp := fun vs H Q _ => ∃ (v : V) (rs : List Row), vs = [v] ∧ (kL kRow).is H v rs ∧ RowsOk rs ∧ ∀ H', Same H H' → Q .non H'
structure TxA (mg : Str → Option Value) : Prop where
  isinst : mg "isinstance" = none
  int : mg "int" = none
  bool : mg "bool" = none
  tuple : mg "tuple" = none
  len : mg "len" = none
  enum : mg "enumerate" = none
  last : ∃ t, mg "LAST_HOUSE" = some (.int 7 t)
  lim : ∃ t, mg "LIMIT" = some (.int LIM t)
  most : ∃ t, mg "MOST_ROWS" = some (.int 200 t)
section
variable {P : Program} {w : World} {K : PySem.W.Frag} {mg : Str → Option Value} {base : Heap}
theorem ok_is_number {f : Addr} {fd : FuncData} (F : Fun K "is_number" "is_number" s_is_number f fd) (T : TxA mg) : FnOk P w K mg base CX0 1 f fd ["value", "low", "high"] spIsNumber := by
  refine F.ok sc_is_number (fun vs H Q E h => ?_) (fun cdv A outer s H vs Q E hr h => ?_)
  · obtain ⟨v, lo, hi, rfl, _⟩ := h
    rfl
  · obtain ⟨v, lo, hi, rfl, q⟩ := h
    refine ⟨_, pss_one (ps_ret (pe_and (pe_callB call_isi (by rfl) T.isinst (by decide +kernel) (pa_cons (pv 0) (pa_cons (pe_bty (by rfl) T.int bt_int) pa_nil)))
      (pe_and (pe_not (pe_callB call_isi (by rfl) T.isinst (by decide +kernel) (pa_cons (pv 0) (pa_cons (pe_bty (by rfl) T.bool bt_bool) pa_nil))))
      (pe_one (pe_chain op_le op_le (pv 1) (pv 0) (pv 2)))))), ?_⟩
    refine ⟨_, rfl, _, .ty "int", _, _, _, rfl, .ty _, tyx_int _, kit_ii, true, rfl, iteT ?_⟩
    refine ⟨_, rfl, _, .ty "bool", _, _, _, rfl, .ty _, tyx_int _, kit_ib, false, rfl, true, rfl, iteT ?_⟩
    refine ⟨_, rfl, _, rfl, _, _, rfl, rfl, _, rfl, ite2 (fun h1 => ?_) (fun h1 => ?_)⟩
    · have h1 := of_decide_eq_true h1
      refine ⟨_, rfl, _, _, rfl, rfl, ?_⟩
      have e : decide (v ≤ hi) = decide (lo ≤ v ∧ v ≤ hi) := by
        by_cases z : v ≤ hi
        · rw [decide_eq_true z, decide_eq_true ⟨h1, z⟩]
        · rw [decide_eq_false z, decide_eq_false fun q => z q.2]
      rw [← e] at q
      exact q
    · have h1' : ¬ lo ≤ v := fun z => h1 (decide_eq_true z)
      rw [decide_eq_false fun q => h1' q.1] at q
      exact q
theorem ok_is_house {f : Addr} {fd : FuncData} (F : Fun K "is_house" "is_house" s_is_house f fd) (T : TxA mg) (CN : Cal P w K mg base 1 "is_number" ["value", "low", "high"] spIsNumber) : FnOk P w K mg base CX0 2 f fd ["value"] spIsHouse := by
  obtain ⟨f1, fd1, G1, g1, kp1, b1⟩ := CN
  obtain ⟨t7, h7⟩ := T.last
  refine F.ok sc_is_house (fun vs H Q E h => ?_) (fun cdv A outer s H vs Q E hr h => ?_)
  · obtain ⟨v, rfl, _⟩ := h
    rfl
  · obtain ⟨v, rfl, q⟩ := h
    refine ⟨_, pss_one (ps_ret (pe_call G1 hr (by rfl) g1 kp1 b1 .nil pass0 (pa_cons (pv 0) (pa_cons pe_int (pa_cons (pe_glob (v := .int 7) (by rfl) h7 ⟨_, rfl⟩) pa_nil))))), ?_⟩
    exact ⟨_, rfl, v, 0, 7, rfl, q⟩
theorem ok_is_row {f : Addr} {fd : FuncData} (F : Fun K "is_row" "is_row" s_is_row f fd) (T : TxA mg) (CN : Cal P w K mg base 1 "is_number" ["value", "low", "high"] spIsNumber) (CH : Cal P w K mg base 2 "is_house" ["value"] spIsHouse) : FnOk P w K mg base CX0 3 f fd ["row"] spIsRow := by
  obtain ⟨f1, fd1, G1, g1, kp1, b1⟩ := CN
  obtain ⟨f2, fd2, G2, g2, kp2, b2⟩ := CH
  obtain ⟨tl, hl⟩ := T.lim
  refine F.ok sc_is_row (fun vs H Q E h => ?_) (fun cdv A outer s H vs Q E hr h => ?_)
  · obtain ⟨v, r, rfl, _⟩ := h
    rfl
  · obtain ⟨v, r, rfl, ⟨t, rfl, ht⟩, ⟨r1, r2, r3, r4, r5⟩, q⟩ := h
    have hr1 : Room 1 _ := hr.mono (by decide)
    refine ⟨_, pss_cons (ps_if (PW.pt (pw_or (pt_not (pt_val (pe_callB call_isi (by rfl) T.isinst (by decide +kernel) (pa_cons (pv 0) (pa_cons (pe_bty (by rfl) T.tuple bt_tuple) pa_nil)))))
        (pw_or1 (pt_cmpR op_ne (pe_callB call_len (by rfl) T.len PySem.boot_len (pa_cons (pv 0) pa_nil)) pe_int (nomark _))))) (pss_one (ps_ret pe_bl)) pss_nil)
      (pss_cons (ps_asg (pv 0) (pg_tup (by rfl) (pgs_cons (pg_name (i := 1) sc_is_row.nd rfl (.inl rfl)) (pgs_cons (pg_name (i := 2) sc_is_row.nd rfl (.inl rfl)) (pgs_cons (pg_name (i := 3) sc_is_row.nd rfl (.inl rfl)) pgs_nil)))))
      (pss_one (ps_ret (pe_and (pe_call G2 hr (by rfl) g2 kp2 b2 .nil pass0 (pa_cons (pv 1) pa_nil))
        (pe_and (pe_call G1 hr1 (by rfl) g1 kp1 b1 .nil pass0 (pa_cons (pv 2) (pa_cons pe_int (pa_cons (pe_glob (v := .int LIM) (by rfl) hl ⟨_, rfl⟩) pa_nil))))
          (pe_one (pe_call G1 hr1 (by rfl) g1 kp1 b1 .nil pass0 (pa_cons (pv 3) (pa_cons (pv 2) (pa_cons (pe_glob (v := .int LIM) (by rfl) hl ⟨_, rfl⟩) pa_nil)))))))))), ?_⟩
    refine ⟨_, rfl, _, .ty "tuple", _, _, _, rfl, .ty _, tyx_tup ht, kit_tt, true, rfl, iteF ?_⟩
    refine ⟨_, rfl, _, 3, rfl, .inr ⟨_, SqT.of ht, rfl⟩, rfl, false, by decide, iteF ?_⟩
    refine ⟨_, rfl, _, _, rfl, SqT.of ht, rfl, _, _, rfl, _, _, rfl, _, _, rfl, rfl, ?_⟩
    refine ⟨_, rfl, r.1, rfl, _, rfl, ?_⟩
    rw [decide_eq_true ⟨r1, r2⟩]
    refine iteT ⟨_, rfl, r.2.1, 1, LIM, rfl, _, rfl, ?_⟩
    rw [decide_eq_true ⟨r3, Int.le_trans r4 r5⟩]
    refine iteT ⟨_, rfl, _, rfl, r.2.2, r.2.1, LIM, rfl, ?_⟩
    rw [decide_eq_true ⟨r4, r5⟩]
    exact q
end
end Rw
namespace Rw
open PySem L2
theorem mem_cut {xs : List V} {lo hi : Option Int} {i : Nat} {x : V} (h : (cutV xs lo hi)[i]? = some x) : x ∈ xs := by
  have h1 := List.mem_of_getElem? h
  unfold cutV at h1
  exact List.mem_of_mem_drop (List.mem_of_mem_take h1)
theorem kL_mem {α : Type} {k : Kd α} {F : Hp} {vs : List V} {xs : List α} (h : Paired (k.is F) vs xs) {v : V} (m : v ∈ vs) : ∃ x ∈ xs, k.is F v x := pr_mem h m
def spCheckRows : Sp := fun vs H Q _ => ∃ (v : V) (rs : List Row), vs = [v] ∧ (kL kRow).is H v rs ∧ RowsOk rs ∧ ∀ H', Same H H' → Q .non H'
def spCheckHouse : Sp := fun vs H Q _ => ∃ (h : Int), vs = [.int h] ∧ 0 ≤ h ∧ h ≤ 7 ∧ Q .non H
section
variable {P : Program} {w : World} {K : PySem.W.Frag} {mg : Str → Option Value} {base : Heap}
theorem ok_first_wrong {f : Addr} {fd : FuncData} (F : Fun K "first_wrong" "first_wrong" s_first_wrong f fd) (T : TxA mg) (CR : Cal P w K mg base 3 "is_row" ["row"] spIsRow) : FnOk P w K mg base CX0 4 f fd ["rows"] spFirstWrong := by
  obtain ⟨f1, fd1, G1, g1, kp1, b1⟩ := CR
  obtain ⟨tm, hm⟩ := T.most
  refine F.ok sc_first_wrong (fun vs H Q E h => ?_) (fun cdv A outer s H vs Q E hr h => ?_)
  · obtain ⟨v, rs, rfl, _⟩ := h
    rfl
  · obtain ⟨v, rs, rfl, ⟨a, xs, rfl, ha, hp⟩, ⟨hl, hok⟩, q⟩ := h
    have el : xs.length = rs.length := pr_len hp
    refine ⟨_, pss_cons (ps_for PassesOwn.never rfl (pi_enum (by rfl) T.enum (pa_cons (pe_slice sl_list (pv 0) po_none (po_some (pe_glob (v := .int 200) (by rfl) hm ⟨_, rfl⟩))) pa_nil))
          (pg_tup rfl (pgs_cons (pg_name (i := 1) sc_first_wrong.nd rfl (.inl rfl)) (pgs_cons (pg_name (i := 2) sc_first_wrong.nd rfl (.inl rfl)) pgs_nil)))
        (pss_one (ps_if (pt_not (pt_val (pe_call G1 hr (by rfl) g1 kp1 b1 .nil pass0 (pa_cons (pv 2) pa_nil)))) (pss_one (ps_ret (pv 1))) pss_nil)))
      (pss_one (ps_ret (pe_ifExp (pt_cmpR op_gt (pe_callB call_len (by rfl) T.len PySem.boot_len (pa_cons (pv 0) pa_nil)) (pe_glob (v := .int 200) (by rfl) hm ⟨_, rfl⟩) (nomark _))
        (pe_glob (v := .int 200) (by rfl) hm ⟨_, rfl⟩) pe_non))), ?_⟩
    refine ⟨_, rfl, 200, rfl, a, xs, rfl, SqL.of ha, fun p np => ?_⟩
    refine ⟨p, _, rfl, SqL.of upd_same, for_it (walk_enum (K := K) (a := p) (xs := cutV xs none (some 200))) (fun i σ H' => Same H H' ∧ SqL K H' p (cutV xs none (some 200)) ∧ ∃ x y, σ = [some (.ref a), x, y])
      ⟨same_upd np, SqL.of upd_same, none, none, rfl⟩ (fun _ _ _ _ h => h.2.1) ?_ ?_⟩
    · rintro i x σ H1 H2 hi ⟨s1, l1, x0, y0, rfl⟩ ⟨U, i', row, rfl, nU, rfl, ei, er⟩
      have s2 : Same H (upd H1 U (.tup [i', row])) := s1.trans (same_upd nU)
      obtain ⟨r, hr1, hr2⟩ := pr_mem hp (mem_cut er)
      refine ⟨U, _, rfl, SqT.of upd_same, rfl, i', [row], rfl, row, [], rfl, rfl, ?_⟩
      refine ⟨_, rfl, _, r, rfl, kRow.mono s2 hr2, hok r hr1, true, rfl, iteF ?_⟩
      exact ⟨s2, (same_upd nU).seq l1, _, _, rfl⟩
    · rintro σ H1 ⟨s1, l1, x0, y0, rfl⟩
      have la : H1 a = some (.lst xs) := s1 _ _ ha
      refine ⟨_, rfl, _, xs.length, rfl, .inl ⟨_, SqL.of la, rfl⟩, _, _, rfl, rfl, _, rfl, ?_⟩
      rw [decide_eq_false (show ¬ (xs.length : Int) > 200 by omega)]
      exact iteF (q _ s1)
theorem ok_check_rows {f : Addr} {fd : FuncData} (F : Fun K "check_rows" "check_rows" s_check_rows f fd) (CR : Cal P w K mg base 4 "first_wrong" ["rows"] spFirstWrong) : FnOk P w K mg base CX0 5 f fd ["rows"] spCheckRows := by
  obtain ⟨f1, fd1, G1, g1, kp1, b1⟩ := CR
  refine F.ok sc_check_rows (fun vs H Q E h => ?_) (fun cdv A outer s H vs Q E hr h => ?_)
  · obtain ⟨v, rs, rfl, _⟩ := h
    rfl
  · obtain ⟨v, rs, rfl, hv, hok, q⟩ := h
    refine ⟨_, pss_cons (ps_set (i := 1) sc_check_rows.nd rfl (.inl rfl) (pe_call G1 hr (by rfl) g1 kp1 b1 .nil pass0 (pa_cons (pv 0) pa_nil)))
      (pss_one (ps_if (pt_cmpR op_notN (pv 1) pe_non (nomark _)) (pss_one ps_never) pss_nil)), ?_⟩
    refine ⟨_, rfl, v, rs, rfl, hv, hok, fun H1 s1 => ?_⟩
    refine ⟨_, rfl, rfl, _, rfl, iteF ?_⟩
    exact q _ s1
end
end Rw
namespace Rw
open PySem L2
/-! ### a dict of points -/
structure DI (kvs : List (List Key × V)) (ps : List Pt) (g : Pt → Int) : Prop where
  keys : kvs.map (·.1) = ps.map kk
  nd : ps.Nodup
  val : ∀ p, valV kvs (kk p) = if p ∈ ps then some (.int (g p)) else none
theorem DI.nil (g : Pt → Int) : DI [] [] g := ⟨rfl, .nil, fun p => by simp [valV]⟩
theorem DI.put {kvs : List (List Key × V)} {ps : List Pt} {g : Pt → Int} (d : DI kvs ps g) (q : Pt) (z : Int) :
    ∃ ps', DI (putK kvs (kk q) (.int z)) ps' (fun p => if p = q then z else g p) ∧ (∀ p, p ∈ ps' ↔ p ∈ ps ∨ p = q) ∧ ps'.length ≤ ps.length + 1 := by
  have vals : ∀ p, valV (putK kvs (kk q) (.int z)) (kk p) = if p = q then some (.int z) else if p ∈ ps then some (.int (g p)) else none := fun p => by
    rw [valV_put]
    by_cases e : p = q
    · rw [if_pos (by rw [e]), if_pos e]
    · rw [if_neg (fun h => e (kk_inj h)), if_neg e, d.val p]
  by_cases m : q ∈ ps
  · refine ⟨ps, ⟨?_, d.nd, fun p => ?_⟩, fun p => ⟨.inl, fun h => h.elim id fun e => e ▸ m⟩, Nat.le_succ _⟩
    · have a : (kvs.any fun kv => decide (kv.1 = kk q)) = true := by rw [valV_any, d.val q, if_pos m]; rfl
      unfold putK
      rw [if_pos a, List.map_map, ← d.keys]
      refine List.map_congr_left fun kv _ => ?_
      by_cases e : kv.1 = kk q
      · simp only [Function.comp, if_pos e]
      · simp only [Function.comp, if_neg e]
    · rw [vals p]
      by_cases e : p = q
      · rw [if_pos e, if_pos (e ▸ m)]
        simp only [if_pos e]
      · simp only [if_neg e]
  · refine ⟨ps ++ [q], ⟨?_, ?_, fun p => ?_⟩, fun p => by simp, by simp⟩
    · rw [putK_new _ (by rw [d.val q, if_neg m]), List.map_append, List.map_append, d.keys]
      rfl
    · exact List.nodup_append.mpr ⟨d.nd, by simp, fun a ha b hb e => by rw [List.mem_singleton.mp hb] at e; exact m (e ▸ ha)⟩
    · rw [vals p]
      by_cases e : p = q
      · rw [if_pos e, if_pos (by rw [e]; simp)]
        simp only [if_pos e]
      · simp [e]
theorem putK_le (kvs : List (List Key × V)) (k : List Key) (v : V) : (putK kvs k v).length ≤ kvs.length + 1 := by
  unfold putK
  split
  · rw [List.length_map]; omega
  · rw [List.length_append]; simp
theorem DI.len {kvs : List (List Key × V)} {ps : List Pt} {g : Pt → Int} (d : DI kvs ps g) : kvs.length = ps.length := by
  have h := congrArg List.length d.keys
  rw [List.length_map, List.length_map] at h
  exact h
/-- what stands at a point, 0 where nothing does -/
theorem DI.get {kvs : List (List Key × V)} {ps : List Pt} {g : Pt → Int} (d : DI kvs ps g) (z : ∀ p, p ∉ ps → g p = 0) (p : Pt) : (valV kvs (kk p)).getD (.int 0) = .int (g p) := by
  rw [d.val p]
  by_cases m : p ∈ ps
  · rw [if_pos m]; rfl
  · rw [if_neg m, z p m]; rfl
theorem DI.congr {kvs : List (List Key × V)} {ps : List Pt} {g g' : Pt → Int} (d : DI kvs ps g) (h : ∀ p, g p = g' p) : DI kvs ps g' := by
  have e : g = g' := funext h
  rw [← e]; exact d
theorem chg_snoc (ws : List WRow) (r : Row) (z : Int) (p : Pt) : chg (ws ++ [(r, z)]) p = chg ws p + z * (ind (fstP r = p) - ind (endP r = p)) := by
  unfold chg
  rw [S_append]
  show _ + (z * (ind (fstP r = p) - ind (endP r = p)) + 0) = _
  omega
/-- what the program's dict of changes tells of weighed rows -/
structure ChD (kvs : List (List Key × V)) (ws : List WRow) : Prop where
  ex : ∃ ps : List Pt, DI kvs ps (chg ws) ∧ (∀ p, p ∉ ps → chg ws p = 0) ∧ Has ps ws ∧ ps.length ≤ 2 * ws.length
theorem ChD.nil : ChD [] [] := ⟨[], DI.nil _, fun _ _ => rfl, fun x h => absurd h (by simp), Nat.le_refl _⟩
/-- one row more: the two stores -/
theorem ChD.step {kvs : List (List Key × V)} {ws : List WRow} (c : ChD kvs ws) (r : Row) (z : Int) (hne : fstP r ≠ endP r) :
    ∃ v1 : Int, (valV kvs (kk (fstP r))).getD (.int 0) = .int v1 ∧ ∃ v2 : Int, (valV (putK kvs (kk (fstP r)) (.int (v1 + z))) (kk (endP r))).getD (.int 0) = .int v2 ∧
      ChD (putK (putK kvs (kk (fstP r)) (.int (v1 + z))) (kk (endP r)) (.int (v2 - z))) (ws ++ [(r, z)]) := by
  obtain ⟨ps, d, hz, hh, hl⟩ := c.ex
  refine ⟨chg ws (fstP r), d.get hz _, ?_⟩
  obtain ⟨ps1, d1, m1, l1⟩ := d.put (fstP r) (chg ws (fstP r) + z)
  have hz1 : ∀ p, p ∉ ps1 → (if p = fstP r then chg ws (fstP r) + z else chg ws p) = 0 := fun p hp => by
    have a : ¬ (p ∈ ps ∨ p = fstP r) := fun q => hp ((m1 p).mpr q)
    rw [if_neg fun e => a (.inr e)]
    exact hz p fun q => a (.inl q)
  have e2 : (if endP r = fstP r then chg ws (fstP r) + z else chg ws (endP r)) = chg ws (endP r) := if_neg fun e => hne e.symm
  refine ⟨chg ws (endP r), by rw [d1.get hz1, e2], ?_⟩
  obtain ⟨ps2, d2, m2, l2⟩ := d1.put (endP r) (chg ws (endP r) - z)
  have ev : ∀ p, (if p = endP r then chg ws (endP r) - z else if p = fstP r then chg ws (fstP r) + z else chg ws p) = chg (ws ++ [(r, z)]) p := fun p => by
    rw [chg_snoc]
    by_cases a : p = endP r
    · subst a
      rw [if_pos rfl, ind_pos (rfl : endP r = endP r), ind_neg hne]
      omega
    · rw [if_neg a, ind_neg (fun e => a e.symm : ¬ endP r = p)]
      by_cases b : p = fstP r
      · subst b
        rw [if_pos rfl, ind_pos (rfl : fstP r = fstP r)]
        omega
      · rw [if_neg b, ind_neg (fun e => b e.symm : ¬ fstP r = p)]
        omega
  refine ⟨ps2, d2.congr ev, fun p hp => ?_, fun x hx => ?_, ?_⟩
  · rw [← ev p]
    have a : ¬ (p ∈ ps1 ∨ p = endP r) := fun q => hp ((m2 p).mpr q)
    rw [if_neg fun e => a (.inr e)]
    exact hz1 p fun q => a (.inl q)
  · rcases List.mem_append.mp hx with hx | hx
    · obtain ⟨a, b⟩ := hh x hx
      exact ⟨(m2 _).mpr (.inl ((m1 _).mpr (.inl a))), (m2 _).mpr (.inl ((m1 _).mpr (.inl b)))⟩
    · rw [List.mem_singleton.mp hx]
      exact ⟨(m2 _).mpr (.inl ((m1 _).mpr (.inr rfl))), (m2 _).mpr (.inr rfl)⟩
  · rw [List.length_append, List.length_singleton]
    omega
def spChangesOf : Sp := fun vs H Q _ => ∃ (F : Hp) (v : V) (ws : List WRow), vs = [v] ∧ Same F H ∧ (kL kW).is F v ws ∧ Wok ws ∧ ws.length ≤ 1000000 ∧
  ∀ (H' : Hp) (d : Addr) (kvs : List (List Key × V)), Ext M0 F H F H' → H d = none → F d = none → H' d = some (.dT kvs) → ChD kvs ws → Q (.ref d) H'
section
variable {P : Program} {w : World} {K : PySem.W.Frag} {mg : Str → Option Value} {base : Heap}
theorem ok_changes_of {f : Addr} {fd : FuncData} (F0 : Fun K "changes_of" "changes_of" s_changes_of f fd) : FnOk P w K mg base CX0 1 f fd ["weighed"] spChangesOf := by
  refine F0.ok sc_changes_of (fun vs H Q E h => ?_) (fun cdv A outer s H vs Q E hr h => ?_)
  · obtain ⟨F, v, ws, rfl, _⟩ := h
    rfl
  · obtain ⟨F, v, ws, rfl, fh, ⟨a, xs, rfl, ha, hp⟩, hok, hlen, q⟩ := h
    have hu := hu_of hr
    refine ⟨_, pss_cons (ps_set (i := 1) sc_changes_of.nd rfl (.inl rfl) pe_dnewT)
      (pss_cons (ps_for PassesOwn.never rfl (pi_list (pv 0))
          (pg_tup rfl (pgs_cons (pg_tup rfl (pgs_cons (pg_name (i := 2) sc_changes_of.nd rfl (.inl rfl)) (pgs_cons (pg_name (i := 3) sc_changes_of.nd rfl (.inl rfl)) (pgs_cons (pg_name (i := 4) sc_changes_of.nd rfl (.inl rfl)) pgs_nil))))
            (pgs_cons (pg_name (i := 5) sc_changes_of.nd rfl (.inl rfl)) pgs_nil)))
        (pss_cons (ps_dput hu (pv 1) (pe_tup (pa_cons (pv 2) (pa_cons (pv 3) pa_nil))) (pe_op op_add (pe_dget2 hu (pv 1) (pe_tup (pa_cons (pv 2) (pa_cons (pv 3) pa_nil))) pe_int ⟨rfl, rfl, rfl, rfl⟩) (pv 5)) rfl)
          (pss_one (ps_dput hu (pv 1) (pe_tup (pa_cons (pv 2) (pa_cons (pe_op op_add (pv 4) pe_int) pa_nil))) (pe_op op_sub (pe_dget2 hu (pv 1) (pe_tup (pa_cons (pv 2) (pa_cons (pe_op op_add (pv 4) pe_int) pa_nil))) pe_int ⟨rfl, rfl, rfl, rfl⟩) (pv 5)) rfl))))
      (pss_one (ps_ret (pv 1)))), ?_⟩
    intro d nd
    have fd0 : F d = none := fh.free nd
    refine ⟨_, rfl, a, rfl, ⟨xs, SqL.of ((same_upd nd) _ _ (fh _ _ ha))⟩, for_list (K := K) (a := a) (xs := xs) (fun i σ H1 => ∃ kvs y2 y3 y4 y5, σ = [some (.ref a), some (.ref d), y2, y3, y4, y5] ∧ Ext M0 F H F H1 ∧ H1 d = some (.dT kvs) ∧ ChD kvs (ws.take i))
      ⟨[], none, none, none, none, rfl, (Ext.refl fh).put (.inl nd) fd0, upd_same, ChD.nil⟩ (fun i σ H1 _ ⟨_, _, _, _, _, _, X1, _, _⟩ => SqL.of (X1.fh _ _ ha)) ?_ ?_⟩
    · rintro i x σ H1 hi ⟨kvs, y2, y3, y4, y5, rfl, X1, hd, hc⟩
      obtain ⟨⟨r, z⟩, hri, t, u, rfl, ht, ⟨t2, rfl, ht2⟩⟩ := pr_get hp hi
      have hro := hok _ (List.mem_of_getElem? hri)
      have hne : fstP r ≠ endP r := fun e => by
        have e2 := congrArg Prod.snd e
        simp only [fstP, endP] at e2
        simp only at hro
        omega
      obtain ⟨v1, e1, v2, e2, hc2⟩ := hc.step r z hne
      have hlen2 : ∀ {kvs : List (List Key × V)} {n : Nat}, ChD kvs (ws.take n) → kvs.length < sizeLine - 2 := fun {kvs n} c => by
        obtain ⟨ps, dd, _, _, l⟩ := c.ex
        have l2 : (ws.take n).length ≤ ws.length := List.length_take_le' n ws
        rw [dd.len, sizeLine_eq]
        omega
      have hk := hlen2 hc
      refine ⟨t, _, rfl, SqT.of (X1.fh _ _ ht), rfl, _, _, rfl, t2, _, rfl, SqT.of (X1.fh _ _ ht2), rfl, _, _, rfl, _, _, rfl, _, _, rfl, rfl, _, _, rfl, rfl, ?_⟩
      -- changes[house, first] = changes.get((house, first), 0) + weight
      refine ⟨_, rfl, d, rfl, .inr ⟨kvs, .inl hd⟩, _, rfl, _, rfl, (by show 2 ≤ sizeLine; decide), fun k1 nk1 => ?_⟩
      have dk1 : d ≠ k1 := ne_of_none hd nk1
      have hd1 : upd H1 k1 (.tup [.int r.1, .int r.2.1]) d = some (.dT kvs) := by rw [upd_ne dk1]; exact hd
      refine ⟨_, DGet.t (k := kk (fstP r)) hd1 upd_same, _, rfl, v1, z, e1, rfl, _, rfl, _, rfl, _, rfl, (by show 2 ≤ sizeLine; decide), fun k2 nk2 => ?_⟩
      have dk2 : d ≠ k2 := ne_of_none hd1 nk2
      have hd2 : upd (upd H1 k1 (.tup [.int r.1, .int r.2.1])) k2 (.tup [.int r.1, .int r.2.1]) d = some (.dT kvs) := by rw [upd_ne dk2]; exact hd1
      refine ⟨d, _, rfl, DPut.t (k := kk (fstP r)) hd2 upd_same (by omega), ?_⟩
      have X2 := (((X1.tmp (o := .tup [.int r.1, .int r.2.1]) nk1).tmp (o := .tup [.int r.1, .int r.2.1]) nk2).put (o := .dT (putK kvs (kk (fstP r)) (.int (v1 + z)))) (.inl nd) fd0)
      have hd3 : upd (upd (upd H1 k1 (.tup [.int r.1, .int r.2.1])) k2 (.tup [.int r.1, .int r.2.1])) d (.dT (putK kvs (kk (fstP r)) (.int (v1 + z)))) d = some (.dT (putK kvs (kk (fstP r)) (.int (v1 + z)))) := upd_same
      revert hd3 X2
      generalize upd (upd (upd H1 k1 (.tup [.int r.1, .int r.2.1])) k2 (.tup [.int r.1, .int r.2.1])) d (.dT (putK kvs (kk (fstP r)) (.int (v1 + z)))) = H2
      intro X2 hd3
      -- changes[house, last + 1] = changes.get((house, last + 1), 0) - weight
      refine ⟨_, rfl, d, rfl, .inr ⟨_, .inl hd3⟩, _, rfl, _, rfl, _, _, rfl, rfl, (by show 2 ≤ sizeLine; decide), fun k3 nk3 => ?_⟩
      have dk3 : d ≠ k3 := ne_of_none hd3 nk3
      have hd4 : upd H2 k3 (.tup [.int r.1, .int (r.2.2 + 1)]) d = some (.dT (putK kvs (kk (fstP r)) (.int (v1 + z)))) := by rw [upd_ne dk3]; exact hd3
      refine ⟨_, DGet.t (k := kk (endP r)) hd4 upd_same, _, rfl, v2, z, e2, rfl, _, rfl, _, rfl, _, rfl, _, _, rfl, rfl, (by show 2 ≤ sizeLine; decide), fun k4 nk4 => ?_⟩
      have dk4 : d ≠ k4 := ne_of_none hd4 nk4
      have hd5 : upd (upd H2 k3 (.tup [.int r.1, .int (r.2.2 + 1)])) k4 (.tup [.int r.1, .int (r.2.2 + 1)]) d = some (.dT (putK kvs (kk (fstP r)) (.int (v1 + z)))) := by rw [upd_ne dk4]; exact hd4
      have lp : (putK kvs (kk (fstP r)) (.int (v1 + z))).length ≤ kvs.length + 1 := putK_le _ _ _
      refine ⟨d, _, rfl, DPut.t (k := kk (endP r)) hd5 upd_same (by omega), ?_⟩
      refine ⟨_, _, _, _, _, rfl, (((X2.tmp nk3).tmp nk4).put (.inl nd) fd0), upd_same, ?_⟩
      rw [List.take_add_one, hri]
      exact hc2
    · rintro σ H1 ⟨kvs, y2, y3, y4, y5, rfl, X1, hd, hc⟩
      refine ⟨_, rfl, q H1 d kvs X1 nd fd0 hd ?_⟩
      rw [pr_len hp, List.take_length] at hc
      exact hc
end
end Rw
namespace Rw
open PySem L2
theorem same_put {G H : Hp} {p : Addr} {o : HO} (s : Same G H) (g : G p = none) : Same G (upd H p o) := fun b u e => by
  rw [upd_ne (ne_of_none e g)]
  exact s b u e
/-- all but one place -/
def but (H : Hp) (o : Addr) : Hp := fun b => if b = o then none else H b
theorem but_same {H : Hp} {o : Addr} : Same (but H o) H := fun b u e => by
  unfold but at e
  by_cases h : b = o
  · rw [if_pos h] at e; cases e
  · rw [if_neg h] at e; exact e
theorem but_self {H : Hp} {o : Addr} : but H o o = none := if_pos rfl
theorem but_at {H : Hp} {o b : Addr} (h : b ≠ o) : but H o b = H b := if_neg h
theorem kPt_but {H : Hp} {o : Addr} {xs : List V} (ho : H o = some (.lst xs)) {v : V} {p : Pt} (h : kPt.is H v p) : kPt.is (but H o) v p := by
  obtain ⟨t, e, ht⟩ := h
  exact ⟨t, e, by rw [but_at (ne_of ht ho (by intro z; cases z))]; exact ht⟩
def sweepM (ws : List WRow) (least : Int) (ks : List Pt) : St := ks.foldl (stepM (chg ws) least) ⟨[], 0, 0⟩
theorem stepM_out (ch : Pt → Int) (least : Int) (s : St) (k : Pt) : (stepM ch least s k).out.length ≤ s.out.length + 1 := by
  unfold stepM
  split
  · exact Nat.le_succ _
  · split
    · simp
    · exact Nat.le_succ _
theorem sweepM_snoc (ws : List WRow) (least : Int) (ks : List Pt) (k : Pt) : sweepM ws least (ks ++ [k]) = stepM (chg ws) least (sweepM ws least ks) k := by
  unfold sweepM
  rw [List.foldl_append]
  rfl
theorem sweepM_len (ws : List WRow) (least : Int) (ks : List Pt) : (sweepM ws least ks).out.length ≤ ks.length := by
  have key : ∀ (ks : List Pt) (s : St), (ks.foldl (stepM (chg ws) least) s).out.length ≤ s.out.length + ks.length := by
    intro ks
    induction ks with
    | nil => intro s; exact Nat.le_refl _
    | cons k ks ih =>
      intro s
      have h1 := ih (stepM (chg ws) least s k)
      have h2 := stepM_out (chg ws) least s k
      rw [List.foldl_cons, List.length_cons]
      omega
  have h := key ks ⟨[], 0, 0⟩
  simp only [List.length_nil, Nat.zero_add] at h
  exact h
/-- what the sweep tells -/
structure Told (ws : List WRow) (least : Int) (out : List Row) : Prop where
  can : Canon out
  mem : ∀ p, mem out p ↔ least ≤ cover ws p
def spReaching : Sp := fun vs H Q _ => ∃ (F : Hp) (v : V) (ws : List WRow) (least : Int), vs = [v, .int least] ∧ Same F H ∧ (kL kW).is F v ws ∧ Wok ws ∧ ws.length ≤ 1000000 ∧ 0 < least ∧ RetL M0 F H kRow (Told ws least) Q
structure TxB (mg : Str → Option Value) : Prop where
  sorted : mg "sorted" = none
section
variable {P : Program} {w : World} {K : PySem.W.Frag} {mg : Str → Option Value} {base : Heap}
theorem ok_reaching {f : Addr} {fd : FuncData} (F0 : Fun K "reaching" "reaching" s_reaching f fd) (T : TxB mg) (CC : Cal P w K mg base 1 "changes_of" ["weighed"] spChangesOf) : FnOk P w K mg base CX0 2 f fd ["weighed", "least"] spReaching := by
  obtain ⟨f1, fd1, G1, g1, kp1, b1⟩ := CC
  refine F0.ok sc_reaching (fun vs H Q E h => ?_) (fun cdv A outer s H vs Q E hr h => ?_)
  · obtain ⟨F, v, ws, least, rfl, _⟩ := h
    rfl
  · obtain ⟨F, v, ws, least, rfl, fh, hv, hok, hlen, hle, q⟩ := h
    have hu := hu_of hr
    refine ⟨_, pss_cons (ps_set (i := 2) sc_reaching.nd rfl (.inl rfl) (pe_call G1 hr (by rfl) g1 kp1 b1 .nil pass0 (pa_cons (pv 0) pa_nil)))
      (pss_cons (ps_set (i := 3) sc_reaching.nd rfl (.inl rfl) (pe_lst pa_nil))
      (pss_cons (ps_set (i := 4) sc_reaching.nd rfl (.inl rfl) pe_int)
      (pss_cons (ps_set (i := 5) sc_reaching.nd rfl (.inl rfl) pe_int)
      (pss_cons (ps_for PassesOwn.never rfl (pi_list (pe_callB (cr_sortedDT (by rfl)) (by rfl) T.sorted (by decide +kernel) (pa_cons (pv 2) pa_nil)))
          (pg_tup rfl (pgs_cons (pg_name (i := 6) sc_reaching.nd rfl (.inl rfl)) (pgs_cons (pg_name (i := 7) sc_reaching.nd rfl (.inl rfl)) pgs_nil)))
        (pss_cons (ps_set (i := 8) sc_reaching.nd rfl (.inl rfl) (pv 4))
        (pss_cons (ps_set (i := 4) sc_reaching.nd rfl (.inl rfl) (pe_op op_add (pv 8) (pe_dget hu (pv 2) (pe_tup (pa_cons (pv 6) (pa_cons (pv 7) pa_nil))) (fun _ _ => rfl))))
        (pss_one (ps_if (pt_chain op_lt op_le (pv 8) (pv 1) (pv 4)) (pss_one (ps_set (i := 5) sc_reaching.nd rfl (.inl rfl) (pv 7)))
          (pss_one (ps_if (pt_chain op_lt op_le (pv 4) (pv 1) (pv 8))
            (pss_one (ps_expr (pe_bm PySem.F.plainAttrs_list PySem.F.slot_list_append PySem.F.type_list_append mt_append (pv 3) (pa_cons (pe_tup (pa_cons (pv 6) (pa_cons (pv 5) (pa_cons (pe_op op_sub (pv 7) pe_int) pa_nil)))) pa_nil)))) pss_nil)))))))
      (pss_one (ps_ret (pv 3))))))), ?_⟩
    refine ⟨_, rfl, F, v, ws, rfl, fh, hv, hok, hlen, fun H1 d kvs X1 nd fd hd hc => ?_⟩
    refine ⟨Nat.zero_le _, fun o no => ?_⟩
    have X2 := X1.tmp (o := .lst []) no
    have dno : d ≠ o := ne_of_none hd no
    have hd2 : upd H1 o (.lst []) d = some (.dT kvs) := by rw [upd_ne dno]; exact hd
    have ho2 : upd H1 o (.lst []) o = some (.lst []) := upd_same
    have Ho : H o = none := X1.free no
    have Fo : F o = none := X1.ffree no
    revert X2 hd2 ho2
    generalize upd H1 o (.lst []) = H2
    intro X2 hd2 ho2
    obtain ⟨ps, dd, hz, hh, hl⟩ := hc.ex
    refine ⟨_, rfl, d, kvs, ps, rfl, hd2, dd.keys, dd.nd, fun ys qs p hys hperm hsort np => ?_⟩
    have pno : o ≠ p := ne_of_none ho2 np
    have dnp : d ≠ p := ne_of_none hd2 np
    have X3 := X2.tmp (o := .lst ys) np
    have ho3 : upd H2 p (.lst ys) o = some (.lst []) := by rw [upd_ne pno]; exact ho2
    have hd3 : upd H2 p (.lst ys) d = some (.dT kvs) := by rw [upd_ne dnp]; exact hd2
    have hp3 : upd H2 p (.lst ys) p = some (.lst ys) := upd_same
    have hys3 : Paired (kPt.is (but (upd H2 p (.lst ys)) o)) ys qs := pr_mono (fun _ _ r => kPt_but ho3 (kPt.mono (same_upd np) r)) hys
    revert X3 ho3 hd3 hp3 hys3
    generalize upd H2 p (.lst ys) = H3
    intro X3 ho3 hd3 hp3 hys3
    have gd : but H3 o d = some (.dT kvs) := by rw [but_at dno]; exact hd3
    have gp : but H3 o p = some (.lst ys) := by rw [but_at pno.symm]; exact hp3
    have go : but H3 o o = none := but_self
    have gs : Same (but H3 o) H3 := but_same
    revert gd gp go gs hys3
    generalize but H3 o = G
    intro hys3 gd gp go gs
    have lq : qs.length ≤ 2 * ws.length := by rw [hperm.length_eq]; exact hl
    refine ⟨p, rfl, ⟨ys, SqL.of (gs _ _ gp)⟩, for_list (K := K) (a := p) (xs := ys) (fun i σ H' => ∃ F' outs y6 y7 y8, σ = [some v, some (.int least), some (.ref d), some (.ref o), some (.int (sweepM ws least (qs.take i)).total), some (.int (sweepM ws least (qs.take i)).start), y6, y7, y8] ∧
        Ext M0 F H F' H' ∧ Same G H' ∧ F' o = none ∧ H' o = some (.lst outs) ∧ Paired (kRow.is F') outs (sweepM ws least (qs.take i)).out)
      ⟨F, [], none, none, none, rfl, X3, gs, Fo, ho3, .nil⟩ (fun i σ H' _ ⟨_, _, _, _, _, _, _, s1, _⟩ => SqL.of (s1 _ _ gp)) ?_ ?_⟩
    · rintro i x σ H' hi ⟨F', outs, y6, y7, y8, rfl, X4, s4, fo, hout, hpr⟩
      obtain ⟨k, hk, t, rfl, ht⟩ := pr_get hys3 hi
      have kps : k ∈ ps := hperm.mem_iff.mp (List.mem_of_getElem? hk)
      have hval : valV kvs (kk k) = some (.int (chg ws k)) := by rw [dd.val k, if_pos kps]
      have hst : sweepM ws least (qs.take (i + 1)) = stepM (chg ws) least (sweepM ws least (qs.take i)) k := by
        rw [List.take_add_one, hk, ← sweepM_snoc]
        rfl
      have hlo : outs.length ≤ 2 * ws.length := by
        have h1 := sweepM_len ws least (qs.take i)
        have h2 : (qs.take i).length ≤ qs.length := List.length_take_le' i qs
        rw [pr_len hpr]
        omega
      revert hpr hst
      generalize sweepM ws least (qs.take i) = st
      intro hpr hst
      refine ⟨t, _, rfl, SqT.of (s4 _ _ ht), rfl, _, _, rfl, _, _, rfl, rfl, ?_⟩
      refine ⟨_, rfl, _, rfl, _, rfl, _, rfl, _, rfl, (by show 2 ≤ sizeLine; decide), fun k1 nk1 => ?_⟩
      have hd4 : H' d = some (.dT kvs) := s4 _ _ gd
      have dk1 : d ≠ k1 := ne_of_none hd4 nk1
      have ok1 : o ≠ k1 := ne_of_none hout nk1
      have e5 : upd H' k1 (.tup [.int k.1, .int k.2]) d = some (.dT kvs) := by rw [upd_ne dk1]; exact hd4
      refine ⟨d, _, rfl, hval ▸ DGet.t (k := kk k) e5 upd_same, _, _, rfl, rfl, ?_⟩
      have X5 := X4.tmp (o := .tup [.int k.1, .int k.2]) nk1
      have s5 : Same G (upd H' k1 (.tup [.int k.1, .int k.2])) := s4.trans (same_upd nk1)
      have ho5 : upd H' k1 (.tup [.int k.1, .int k.2]) o = some (.lst outs) := by rw [upd_ne ok1]; exact hout
      revert X5 s5 ho5
      generalize upd H' k1 (.tup [.int k.1, .int k.2]) = H5
      intro X5 s5 ho5
      by_cases c1 : st.total < least
      · by_cases c2 : least ≤ st.total + chg ws k
        · have es : sweepM ws least (qs.take (i + 1)) = ⟨st.out, st.total + chg ws k, k.2⟩ := by rw [hst]; unfold stepM; rw [if_pos ⟨c1, c2⟩]
          refine ⟨_, rfl, _, rfl, _, _, rfl, rfl, _, rfl, ?_⟩
          rw [decide_eq_true c1]
          refine iteT ⟨_, rfl, _, _, rfl, rfl, _, rfl, ?_⟩
          rw [decide_eq_true c2]
          refine iteT ⟨_, rfl, F', outs, some (.int k.1), some (.int k.2), some (.int st.total), ?_, X5, s5, fo, ho5, ?_⟩
          · rw [es]; rfl
          · rw [es]; exact hpr
        · have es : sweepM ws least (qs.take (i + 1)) = ⟨st.out, st.total + chg ws k, st.start⟩ := by
            rw [hst]; unfold stepM; rw [if_neg (fun z => c2 z.2), if_neg (fun z => absurd z.2 (by omega))]
          refine ⟨_, rfl, _, rfl, _, _, rfl, rfl, _, rfl, ?_⟩
          rw [decide_eq_true c1]
          refine iteT ⟨_, rfl, _, _, rfl, rfl, _, rfl, ?_⟩
          rw [decide_eq_false c2]
          refine iteF ⟨_, rfl, _, rfl, _, _, rfl, rfl, _, rfl, ?_⟩
          rw [decide_eq_true (show st.total + chg ws k < least by omega)]
          refine iteT ⟨_, rfl, _, _, rfl, rfl, _, rfl, ?_⟩
          rw [decide_eq_false (show ¬ least ≤ st.total by omega)]
          refine iteF ⟨F', outs, some (.int k.1), some (.int k.2), some (.int st.total), ?_, X5, s5, fo, ho5, ?_⟩
          · rw [es]; rfl
          · rw [es]; exact hpr
      · by_cases c2 : st.total + chg ws k < least
        · have es : sweepM ws least (qs.take (i + 1)) = ⟨st.out ++ [(k.1, st.start, k.2 - 1)], st.total + chg ws k, st.start⟩ := by
            rw [hst]; unfold stepM; rw [if_neg (fun z => c1 z.1), if_pos ⟨c2, by omega⟩]
          refine ⟨_, rfl, _, rfl, _, _, rfl, rfl, _, rfl, ?_⟩
          rw [decide_eq_false c1]
          refine iteF ⟨_, rfl, iteF ⟨_, rfl, _, rfl, _, _, rfl, rfl, _, rfl, ?_⟩⟩
          rw [decide_eq_true c2]
          refine iteT ⟨_, rfl, _, _, rfl, rfl, _, rfl, ?_⟩
          rw [decide_eq_true (show least ≤ st.total by omega)]
          refine iteT ⟨_, rfl, .inl ⟨rfl, _, SqL.of ho5⟩, _, rfl, _, rfl, _, rfl, _, _, rfl, rfl, (by show 3 ≤ sizeLine; decide), fun t6 nt6 => ?_⟩
          have ot6 : o ≠ t6 := ne_of_none ho5 nt6
          refine ⟨o, outs, _, rfl, rfl, by rw [upd_ne ot6]; exact ho5, by rw [sizeLine_eq]; omega, ?_⟩
          have fo6 : upd F' t6 (.tup [.int k.1, .int st.start, .int (k.2 - 1)]) o = none := by rw [upd_ne ot6]; exact fo
          refine ⟨upd F' t6 (.tup [.int k.1, .int st.start, .int (k.2 - 1)]), outs ++ [.ref t6], some (.int k.1), some (.int k.2), some (.int st.total), ?_, (X5.lay nt6).put (.inl Ho) fo6, same_put (s5.trans (same_upd nt6)) go, fo6, upd_same, ?_⟩
          · rw [es]; rfl
          · rw [es]
            exact pr_snoc (pr_mono (fun _ _ r => kRow.mono (same_upd (X5.ffree nt6)) r) hpr) ⟨t6, rfl, upd_same⟩
        · have es : sweepM ws least (qs.take (i + 1)) = ⟨st.out, st.total + chg ws k, st.start⟩ := by
            rw [hst]; unfold stepM; rw [if_neg (fun z => c1 z.1), if_neg (fun z => c2 z.1)]
          refine ⟨_, rfl, _, rfl, _, _, rfl, rfl, _, rfl, ?_⟩
          rw [decide_eq_false c1]
          refine iteF ⟨_, rfl, iteF ⟨_, rfl, _, rfl, _, _, rfl, rfl, _, rfl, ?_⟩⟩
          rw [decide_eq_false c2]
          refine iteF ⟨_, rfl, iteF ⟨F', outs, some (.int k.1), some (.int k.2), some (.int st.total), ?_, X5, s5, fo, ho5, ?_⟩⟩
          · rw [es]; rfl
          · rw [es]; exact hpr
    · rintro σ H' ⟨F', outs, y6, y7, y8, rfl, X4, s4, fo, hout, hpr⟩
      rw [pr_len hys3, List.take_length] at hpr
      obtain ⟨a1, a2⟩ := sweep hle hok hsort (fun x hx => ⟨hperm.mem_iff.mpr (hh x hx).1, hperm.mem_iff.mpr (hh x hx).2⟩) 0
      refine ⟨_, rfl, q F' H' o outs _ X4 Ho fo hout hpr ⟨a1, a2⟩⟩
end
end Rw
namespace Rw
open PySem L2
/-! ### how long what is told can be; its rows are rows -/
theorem nodup_sub {α : Type} [DecidableEq α] : ∀ (l D : List α), l.Nodup → (∀ x ∈ l, x ∈ D) → l.length ≤ D.length
  | [], _, _, _ => Nat.zero_le _
  | x :: l, D, hn, h => by
    have h1 := List.nodup_cons.mp hn
    have hx := h x List.mem_cons_self
    have ih := nodup_sub l (D.erase x) h1.2 fun y hy => by
      have ne : y ≠ x := fun e => h1.1 (e ▸ hy)
      exact (List.mem_erase_of_ne ne).mpr (h y (List.mem_cons_of_mem _ hy))
    rw [List.length_erase_of_mem hx] at ih
    have : 0 < D.length := List.length_pos_of_mem hx
    rw [List.length_cons]
    omega
theorem S_drop {f g : Row → Int} : ∀ {ws : List WRow}, S f ws < S g ws → ∃ x ∈ ws, x.2 * f x.1 < x.2 * g x.1
  | [], h => by simp [S] at h
  | (r, w) :: ws, h => by
    by_cases c : w * f r < w * g r
    · exact ⟨_, List.mem_cons_self, c⟩
    · have h' : w * f r + S f ws < w * g r + S g ws := h
      obtain ⟨x, hx, e⟩ := S_drop (f := f) (g := g) (ws := ws) (by omega)
      exact ⟨x, List.mem_cons_of_mem _ hx, e⟩
/-- where a weighed row can end a told one -/
def stopP (x : WRow) : Pt := if 0 < x.2 then endP x.1 else fstP x.1
theorem Canon.ends {out : List Row} (c : Canon out) : (out.map endP).Nodup := by
  refine List.pairwise_map.mpr (c.ord.imp_of_mem fun {r s} hr hs b e => ?_)
  have o := c.ok s hs
  have e1 := congrArg Prod.fst e
  have e2 := congrArg Prod.snd e
  unfold endP at e1 e2
  simp only at e1 e2
  unfold before at b
  omega
theorem Canon.gap {out : List Row} (c : Canon out) {r : Row} (hr : r ∈ out) : ¬ mem out (endP r) := by
  rintro ⟨s, hs, i1, i2, i3⟩
  unfold endP at i1 i2 i3
  simp only at i1 i2 i3
  rcases Classical.em (r = s) with e | e
  · subst e; omega
  · have key : before r s ∨ before s r := by
      obtain ⟨i, hi, ei⟩ := List.getElem_of_mem hr
      obtain ⟨j, hj, ej⟩ := List.getElem_of_mem hs
      have p := List.pairwise_iff_getElem.mp c.ord
      rcases Nat.lt_trichotomy i j with l | l | l
      · exact .inl (by have := p i j hi hj l; rw [ei, ej] at this; exact this)
      · subst l; exact absurd (ei.symm.trans ej) e
      · exact .inr (by have := p j i hj hi l; rw [ei, ej] at this; exact this)
    have o := c.ok r hr
    have o2 := c.ok s hs
    unfold before at key
    omega
theorem Canon.last {out : List Row} (c : Canon out) {r : Row} (hr : r ∈ out) : mem out (r.1, r.2.2) := ⟨r, hr, rfl, c.ok r hr, Int.le_refl _⟩
theorem Canon.first {out : List Row} (c : Canon out) {r : Row} (hr : r ∈ out) : mem out (r.1, r.2.1) := ⟨r, hr, rfl, Int.le_refl _, c.ok r hr⟩
theorem Told.len {ws : List WRow} {least : Int} {out : List Row} (t : Told ws least out) : out.length ≤ ws.length := by
  have h := nodup_sub (out.map endP) (ws.map stopP) t.can.ends fun p hp => by
    obtain ⟨r, hr, rfl⟩ := List.mem_map.mp hp
    have a := (t.mem _).mp (t.can.last hr)
    have b : ¬ least ≤ cover ws (endP r) := fun z => t.can.gap hr ((t.mem _).mpr z)
    obtain ⟨x, hx, e⟩ := S_drop (f := fun s => ind (inRow s (endP r))) (g := fun s => ind (inRow s (r.1, r.2.2))) (ws := ws) (by unfold cover at a b; omega)
    refine List.mem_map.mpr ⟨x, hx, ?_⟩
    obtain ⟨s, w⟩ := x
    simp only at e
    unfold stopP
    rcases ind_or (inRow s (endP r)) with ⟨u1, e1⟩ | ⟨u1, e1⟩ <;> rcases ind_or (inRow s (r.1, r.2.2)) with ⟨u2, e2⟩ | ⟨u2, e2⟩ <;> rw [e1, e2] at e
    · omega
    · rw [if_neg (show ¬ 0 < w by omega)]
      unfold inRow endP at u1
      unfold inRow at u2
      unfold fstP endP
      simp only at u1 u2 ⊢
      exact Prod.ext (by simp only; omega) (by simp only; omega)
    · rw [if_pos (show 0 < w by omega)]
      unfold inRow endP at u1
      unfold inRow at u2
      unfold endP
      simp only at u1 u2 ⊢
      exact Prod.ext (by simp only; omega) (by simp only; omega)
    · omega
  rw [List.length_map, List.length_map] at h
  exact h
def InBox (p : Pt) : Prop := 0 ≤ p.1 ∧ p.1 ≤ 7 ∧ 1 ≤ p.2 ∧ p.2 ≤ LIM
theorem RowOk.box {r : Row} (h : RowOk r) {p : Pt} (i : inRow r p) : InBox p := by
  obtain ⟨a, b, c, d, e⟩ := h
  obtain ⟨i1, i2, i3⟩ := i
  unfold InBox
  omega
theorem rows_box {rs : List Row} (h : ∀ r ∈ rs, RowOk r) {p : Pt} (m : mem rs p) : InBox p := by
  obtain ⟨r, hr, i⟩ := m
  exact (h r hr).box i
theorem canon_ok {out : List Row} (c : Canon out) (h : ∀ p, mem out p → InBox p) : ∀ r ∈ out, RowOk r := fun r hr => by
  have a := h _ (c.last hr)
  have b := h _ (c.first hr)
  have o := c.ok r hr
  unfold InBox at a b
  unfold RowOk
  simp only at a b
  omega
/-! ### what the sums come to -/
def once (rs : List Row) : List WRow := rs.map fun r => (r, 1)
theorem cover_once (rs : List Row) (p : Pt) : 0 ≤ cover (once rs) p ∧ (1 ≤ cover (once rs) p ↔ mem rs p) := by
  induction rs with
  | nil => exact ⟨Int.le_refl _, fun h => absurd h (by show ¬ (1 : Int) ≤ 0; omega), fun h => absurd h mem_nil⟩
  | cons r rs ih =>
    have e : cover (once (r :: rs)) p = 1 * ind (inRow r p) + cover (once rs) p := rfl
    rw [e, mem_cons]
    rcases ind_or (inRow r p) with ⟨u, eu⟩ | ⟨u, eu⟩ <;> rw [eu]
    · exact ⟨by omega, fun _ => .inl u, fun _ => by omega⟩
    · refine ⟨by omega, fun h => .inr (ih.2.mp (by omega)), fun h => ?_⟩
      have := ih.2.mpr (h.resolve_left u)
      omega
instance (rs : List Row) (p : Pt) : Decidable (mem rs p) := by unfold mem; infer_instance
/-- of a canonical list each point is covered at most once -/
theorem cover_canon {rs : List Row} (c : Canon rs) (p : Pt) : cover (once rs) p = ind (mem rs p) := by
  induction rs with
  | nil => exact (ind_neg mem_nil).symm
  | cons r rs ih =>
    have e : cover (once (r :: rs)) p = 1 * ind (inRow r p) + cover (once rs) p := rfl
    rw [e, ih c.tail]
    rcases ind_or (inRow r p) with ⟨u, eu⟩ | ⟨u, eu⟩ <;> rw [eu]
    · have n : ¬ mem rs p := fun m => by
        have := c.later m
        obtain ⟨i1, i2, i3⟩ := u
        omega
      rw [ind_neg n, ind_pos (mem_cons.mpr (.inl u))]
      omega
    · by_cases m : mem rs p
      · rw [ind_pos m, ind_pos (mem_cons.mpr (.inr m))]; omega
      · rw [ind_neg m, ind_neg (fun z => (mem_cons.mp z).elim u m)]; omega
end Rw
namespace Rw
open PySem L2
/-! ### loops of comprehensions, by a walk -/
theorem it_by {J : It} {n : Nat} {G : Hp → Prop} {Y : Nat → Hp → V → Hp → Prop} (w : Walk J n G Y) {B : (Hp → Prop) → V → Hp → Prop} {H0 : Hp} {Qd : Hp → Prop} (Pv : Nat → Hp → Prop) (h0 : Pv 0 H0)
    (hG : ∀ i H, i ≤ n → Pv i H → G H) (hs : ∀ i x H H', i < n → Pv i H → Y i H x H' → B (Pv (i + 1)) x H') (hd : ∀ H, Pv n H → Qd H) :
    ∃ W : Nat → Nat → Hp → Prop, (∃ m, W 0 m H0) ∧ ∀ i m H, W i m H →
      (J.stop i H ∧ Qd H) ∨ (J.go i H ∧ ∃ Nx : Hp → Prop, (∀ H', Nx H' → ∃ m', m' < m ∧ W (i + 1) m' H') ∧ ∀ x H', J.yld i H x H' → B Nx x H') := by
  refine ⟨fun i m H => m = n - i ∧ i ≤ n ∧ Pv i H, ⟨n, by simp, Nat.zero_le _, h0⟩, ?_⟩
  rintro i m H ⟨rfl, hi, p⟩
  have g := hG i H hi p
  by_cases c : i < n
  · exact .inr ⟨w.goes i H c g, Pv (i + 1), fun H' p' => ⟨n - (i + 1), by omega, rfl, c, p'⟩, fun x H' y => hs i x H H' c p (w.yields i H x H' c g y)⟩
  · obtain rfl : i = n := by omega
    exact .inl ⟨w.stops H g, hd H p⟩
theorem RetL.step {α : Type} {M : Addr → Prop} {F H F1 H1 : Hp} {k : Kd α} {φ ψ : List α → Prop} {Q : VK} (X : Ext M F H F1 H1) (q : RetL M F H k ψ Q) (h : ∀ xs, φ xs → ψ xs) : RetL M0 F1 H1 k φ Q :=
  fun F' H' a vs xs X' ha fa hl hp hx => q F' H' a vs xs (X.trans X'.up) (X.free ha) fa hl hp (h xs hx)
/-- how many of some sets hold a point -/
def cnt : List (List Row) → Pt → Int
  | [], _ => 0
  | rs :: sets, p => ind (mem rs p) + cnt sets p
def total : List (List Row) → Nat
  | [] => 0
  | rs :: sets => rs.length + total sets
theorem cnt_snoc (p : Pt) (rs : List Row) : ∀ sets : List (List Row), cnt (sets ++ [rs]) p = cnt sets p + ind (mem rs p)
  | [] => by show ind _ + 0 = 0 + ind _; omega
  | x :: sets => by
    show ind _ + cnt (sets ++ [rs]) p = ind _ + cnt sets p + ind _
    rw [cnt_snoc p rs sets]; omega
theorem total_snoc (rs : List Row) : ∀ sets : List (List Row), total (sets ++ [rs]) = total sets + rs.length
  | [] => by show rs.length + 0 = 0 + rs.length; omega
  | x :: sets => by
    show x.length + total (sets ++ [rs]) = x.length + total sets + rs.length
    rw [total_snoc rs sets]; omega
theorem total_take (sets : List (List Row)) (i : Nat) : total (sets.take i) ≤ total sets := by
  induction sets generalizing i with
  | nil => simp [total]
  | cons x sets ih =>
    cases i with
    | zero => simp [total]
    | succ i =>
      have := ih i
      show x.length + total (sets.take i) ≤ x.length + total sets
      omega
def Valid (rs : List Row) : Prop := ∀ r ∈ rs, r.2.1 ≤ r.2.2
theorem wok_once {rs : List Row} (h : Valid rs) : Wok (once rs) := fun x hx => by
  obtain ⟨r, hr, rfl⟩ := List.mem_map.mp hx
  exact h r hr
structure Fewest (rs out : List Row) : Prop where
  can : Canon out
  mem : ∀ p, mem out p ↔ mem rs p
  len : out.length ≤ rs.length
def spFewest : Sp := fun vs H Q _ => ∃ (F : Hp) (v : V) (rs : List Row), vs = [v] ∧ Same F H ∧ (kL kRow).is F v rs ∧ Valid rs ∧ rs.length ≤ 100000 ∧ RetL M0 F H kRow (Fewest rs) Q
structure Held (sets : List (List Row)) (least : Int) (out : List Row) : Prop where
  can : Canon out
  mem : ∀ p, mem out p ↔ least ≤ cnt sets p
  len : out.length ≤ total sets
def spHeld : Sp := fun vs H Q _ => ∃ (F : Hp) (v : V) (sets : List (List Row)) (least : Int), vs = [v, .int least] ∧ Same F H ∧ (kL (kL kRow)).is F v sets ∧ (∀ rs ∈ sets, Valid rs) ∧ total sets ≤ 100000 ∧ 0 < least ∧ RetL M0 F H kRow (Held sets least) Q
structure Without (one other out : List Row) : Prop where
  can : Canon out
  mem : ∀ p, mem out p ↔ mem one p ∧ ¬ mem other p
  len : out.length ≤ one.length + other.length
def spWithout : Sp := fun vs H Q _ => ∃ (F : Hp) (v u : V) (one other : List Row), vs = [v, u] ∧ Same F H ∧ (kL kRow).is F v one ∧ (kL kRow).is F u other ∧ Valid one ∧ Valid other ∧ one.length ≤ 50000 ∧ other.length ≤ 50000 ∧ RetL M0 F H kRow (Without one other) Q
theorem once_len (rs : List Row) : (once rs).length = rs.length := List.length_map ..
theorem told_fewest {rs out : List Row} (t : Told (once rs) 1 out) : Fewest rs out := ⟨t.can, fun p => (t.mem p).trans (cover_once rs p).2, by have := t.len; rw [once_len] at this; exact this⟩
section
variable {P : Program} {w : World} {K : PySem.W.Frag} {mg : Str → Option Value} {base : Heap}
theorem ok_fewest {f : Addr} {fd : FuncData} (F0 : Fun K "fewest" "fewest" s_fewest f fd) (CR : Cal P w K mg base 2 "reaching" ["weighed", "least"] spReaching) : FnOk P w K mg base CX0 3 f fd ["rows"] spFewest := by
  obtain ⟨f1, fd1, G1, g1, kp1, b1⟩ := CR
  refine F0.ok sc_fewest (fun vs H Q E h => ?_) (fun cdv A outer s H vs Q E hr h => ?_)
  · obtain ⟨F, v, rs, rfl, _⟩ := h
    rfl
  · obtain ⟨F, v, rs, rfl, fh, ⟨a, xs, rfl, ha, hp⟩, hval, hlen, q⟩ := h
    refine ⟨_, pss_one (ps_ret (pe_call G1 hr (by rfl) g1 kp1 b1 .nil pass0 (pa_cons (pe_lc (own := [("row", 1)]) (g := gName 1) (tt := tYes) (by rfl) sc_fewest.nd (pi_list (pv 0))
      (blkOk_by (own := [("row", 1)]) (N := ["rows", "row"]) (sc := defScope s_fewest) (by decide +kernel)) (fun _ _ _ _ _ => pg_name (i := 1) sc_fewest.nd rfl (Or.inl rfl)) (fun _ _ _ _ _ => pts_nil)
      (fun _ _ _ _ _ => pe_tup (pa_cons (pv 1) (pa_cons pe_int pa_nil)))) (pa_cons pe_int pa_nil)))), ?_⟩
    refine ⟨_, rfl, a, rfl, ⟨_, SqL.of (fh _ _ ha)⟩, fun D nD => ?_⟩
    have fD : F D = none := fh.free nD
    refine it_by (walk_list (K := K) (a := a) (xs := xs)) (fun i H' => ∃ F' acc, Ext M0 F H F' H' ∧ H' D = some (.lst acc) ∧ F' D = none ∧ Paired (kW.is F') acc (once (rs.take i)))
      ⟨F, [], (Ext.refl fh).tmp nD, upd_same, fD, .nil⟩ (fun i H' _ ⟨_, _, X1, _⟩ => SqL.of (X1.fh _ _ (X1.ff _ _ ha))) ?_ ?_
    · rintro i x H1 _ hi ⟨F', acc, X1, hD, fD', hacc⟩ ⟨rfl, hx⟩
      obtain ⟨r, hri, hr1⟩ := pr_get hp hx
      refine ⟨rfl, ?_⟩
      refine ⟨_, rfl, (by show 2 ≤ sizeLine; decide), fun t nt => ?_⟩
      have Dt : D ≠ t := ne_of_none hD nt
      have la : acc.length ≤ rs.length := by rw [pr_len hacc, once_len]; exact List.length_take_le' i rs
      refine ⟨acc, by rw [upd_ne Dt]; exact hD, by rw [sizeLine_eq]; omega, ?_⟩
      have fD2 : upd F' t (.tup [x, .int 1]) D = none := by rw [upd_ne Dt]; exact fD'
      refine ⟨upd F' t (.tup [x, .int 1]), acc ++ [.ref t], (X1.lay nt).put (.inl nD) fD2, upd_same, fD2, ?_⟩
      rw [List.take_add_one, hri]
      have e : once (rs.take i ++ [r]) = once (rs.take i) ++ [(r, 1)] := List.map_append ..
      show Paired _ _ (once (rs.take i ++ [r]))
      rw [e]
      have sm : Same F' (upd F' t (.tup [x, .int 1])) := same_upd (X1.ffree nt)
      exact pr_snoc (pr_mono (fun _ _ z => kW.mono sm z) hacc) ⟨t, x, rfl, upd_same, kRow.mono (X1.ff.trans sm) hr1⟩
    · rintro H1 ⟨F', acc, X1, hD, fD', hacc⟩
      rw [pr_len hp, List.take_length] at hacc
      have X2 := X1.frz nD fD' hD
      refine ⟨upd F' D (.lst acc), .ref D, once rs, 1, rfl, X2.fh, kL_new fD' hacc, wok_once hval, by rw [once_len]; omega, by decide, RetL.step X2 q fun out t => told_fewest t⟩
end
end Rw
namespace Rw
open PySem L2
theorem kLL_get {α : Type} {k : Kd α} {F : Hp} {vs : List V} {xss : List (List α)} {i : Nat} {v : V} (h : Paired ((kL k).is F) vs xss) (e : vs[i]? = some v) : ∃ xs, xss[i]? = some xs ∧ (kL k).is F v xs := pr_get h e
theorem cover_append (as bs : List WRow) (p : Pt) : cover (as ++ bs) p = cover as p + cover bs p := S_append _ as bs
theorem wok_append {as bs : List WRow} (h : Wok as) (h' : Wok bs) : Wok (as ++ bs) := fun x hx => (List.mem_append.mp hx).elim (h x) (h' x)
theorem once_snoc (rs : List Row) (r : Row) : once (rs ++ [r]) = once rs ++ [(r, 1)] := List.map_append ..
theorem valid_canon {rs : List Row} (c : Canon rs) : Valid rs := c.ok
def anti (rs : List Row) : List WRow := rs.map fun r => (r, -1)
theorem cover_anti (rs : List Row) (p : Pt) : cover (anti rs) p = - cover (once rs) p := by
  induction rs with
  | nil => rfl
  | cons r rs ih =>
    have e1 : cover (anti (r :: rs)) p = -1 * ind (inRow r p) + cover (anti rs) p := rfl
    have e2 : cover (once (r :: rs)) p = 1 * ind (inRow r p) + cover (once rs) p := rfl
    rw [e1, e2, ih]; omega
theorem wok_anti {rs : List Row} (h : Valid rs) : Wok (anti rs) := fun x hx => by
  obtain ⟨r, hr, rfl⟩ := List.mem_map.mp hx
  exact h r hr
theorem told_without {one other kept out : List Row} (k : Fewest one kept) (t : Told (once kept ++ anti other) 1 out) : Without one other out := by
  refine ⟨t.can, fun p => ?_, ?_⟩
  · rw [t.mem p, cover_append, cover_anti, cover_canon k.can, ← k.mem p]
    have c := cover_once other p
    rcases ind_or (mem kept p) with ⟨u, eu⟩ | ⟨u, eu⟩ <;> rw [eu]
    · constructor
      · intro h; exact ⟨u, fun z => by have := c.2.mpr z; omega⟩
      · intro h
        have : ¬ 1 ≤ cover (once other) p := fun z => h.2 (c.2.mp z)
        omega
    · exact ⟨fun h => by omega, fun h => absurd h.1 u⟩
  · have h := t.len
    rw [List.length_append, once_len] at h
    have e : (anti other).length = other.length := List.length_map ..
    have := k.len
    omega
section
variable {P : Program} {w : World} {K : PySem.W.Frag} {mg : Str → Option Value} {base : Heap}
theorem ok_without {f : Addr} {fd : FuncData} (F0 : Fun K "without" "without" s_without f fd) (CR : Cal P w K mg base 2 "reaching" ["weighed", "least"] spReaching) (CF : Cal P w K mg base 3 "fewest" ["rows"] spFewest) :
    FnOk P w K mg base CX0 4 f fd ["one", "other"] spWithout := by
  obtain ⟨f1, fd1, G1, g1, kp1, b1⟩ := CR
  obtain ⟨f2, fd2, G2, g2, kp2, b2⟩ := CF
  refine F0.ok sc_without (fun vs H Q E h => ?_) (fun cdv A outer s H vs Q E hr h => ?_)
  · obtain ⟨F, v, u, one, other, rfl, _⟩ := h
    rfl
  · obtain ⟨F, v, u, one, other, rfl, fh, hv, ⟨b, ys, rfl, hb, hpb⟩, val1, val2, len1, len2, q⟩ := h
    have hr1 : Room 2 _ := hr.mono (by decide)
    refine ⟨_, pss_cons (ps_setLc (i := 2) (own := [("row", 4)]) (g := gName 4) (tt := tYes) (by rfl) sc_without.nd rfl rfl (sw_true rfl rfl rfl (by decide +kernel)) (pi_list (pe_call G2 hr (by rfl) g2 kp2 b2 .nil pass0 (pa_cons (pv 0) pa_nil)))
        (blkOk_by (own := [("row", 4)]) (N := ["one", "other", "kept", "barred", "row"]) (sc := defScope s_without) (by decide +kernel)) (fun _ _ _ _ _ => pg_name (i := 4) sc_without.nd rfl (Or.inl rfl)) (fun _ _ _ _ _ => pts_nil)
        (fun _ _ _ _ _ => pe_tup (pa_cons (pv 4) (pa_cons pe_int pa_nil))))
      (pss_cons (ps_setLc (i := 3) (own := [("row", 4)]) (g := gName 4) (tt := tYes) (by rfl) sc_without.nd rfl rfl (sw_true rfl rfl rfl (by decide +kernel)) (pi_list (pv 1))
        (blkOk_by (own := [("row", 4)]) (N := ["one", "other", "kept", "barred", "row"]) (sc := defScope s_without) (by decide +kernel)) (fun _ _ _ _ _ => pg_name (i := 4) sc_without.nd rfl (Or.inl rfl)) (fun _ _ _ _ _ => pts_nil)
        (fun _ _ _ _ _ => pe_tup (pa_cons (pv 4) (pa_cons (pe_un un_neg pe_int) pa_nil))))
      (pss_one (ps_ret (pe_call G1 hr1 (by rfl) g1 kp1 b1 .nil pass0 (pa_cons (pe_op op_cat (pv 2) (pv 3)) (pa_cons pe_int pa_nil)))))), ?_⟩
    have hr3 : Room 3 _ := hr.mono (by decide)
    refine ⟨_, rfl, F, v, one, rfl, fh, hv, val1, by omega, fun F1 H1 c vs out X1 nc fc hc hout fw => ?_⟩
    refine ⟨c, rfl, ⟨vs, SqL.of hc⟩, fun D nD => ?_⟩
    have HD : H D = none := X1.free nD
    have cD : c ≠ D := ne_of_none hc nD
    have lo : out.length ≤ 50000 := Nat.le_trans fw.len len1
    refine it_by (walk_list (K := K) (a := c) (xs := vs)) (fun i H' => ∃ F' acc, Ext M0 F H F' H' ∧ H' D = some (.lst acc) ∧ F' D = none ∧ H' c = some (.lst vs) ∧ Paired (kRow.is F') vs out ∧ Paired (kW.is F') acc (once (out.take i)))
      ⟨F1, [], X1.tmp nD, upd_same, X1.ffree nD, by rw [upd_ne cD]; exact hc, hout, .nil⟩ (fun i H' _ ⟨_, _, _, _, _, z, _⟩ => SqL.of z) ?_ ?_
    · rintro i x H2 _ hi ⟨F', acc, X2, hD, fD, hc2, hout2, hacc⟩ ⟨rfl, hx⟩
      obtain ⟨r, hri, hr2⟩ := pr_get hout2 hx
      refine ⟨rfl, _, rfl, (by show 2 ≤ sizeLine; decide), fun t nt => ?_⟩
      have Dt : D ≠ t := ne_of_none hD nt
      have ct : c ≠ t := ne_of_none hc2 nt
      have la : acc.length ≤ 50000 := by
        rw [pr_len hacc, once_len]
        have h1 := List.length_take_le' i out
        omega
      refine ⟨acc, by rw [upd_ne Dt]; exact hD, by rw [sizeLine_eq]; omega, ?_⟩
      have fD2 : upd F' t (.tup [x, .int 1]) D = none := by rw [upd_ne Dt]; exact fD
      have sm : Same F' (upd F' t (.tup [x, .int 1])) := same_upd (X2.ffree nt)
      refine ⟨upd F' t (.tup [x, .int 1]), acc ++ [.ref t], (X2.lay nt).put (.inl HD) fD2, upd_same, fD2, by rw [upd_ne cD, upd_ne ct]; exact hc2, pr_mono (fun _ _ z => kRow.mono sm z) hout2, ?_⟩
      have eo : once (out.take (i + 1)) = once (out.take i) ++ [(r, 1)] := by rw [List.take_add_one, hri]; exact once_snoc _ _
      rw [eo]
      exact pr_snoc (pr_mono (fun _ _ z => kW.mono sm z) hacc) ⟨t, x, rfl, upd_same, kRow.mono sm hr2⟩
    · rintro H2 ⟨F', acc, X2, hD, fD, hc2, hout2, hacc⟩
      rw [pr_len hout2, List.take_length] at hacc
      refine ⟨_, rfl, b, rfl, ⟨_, SqL.of (X2.fh _ _ (X2.ff _ _ hb))⟩, fun D2 nD2 => ?_⟩
      have HD2 : H D2 = none := X2.free nD2
      have DD : D ≠ D2 := ne_of_none hD nD2
      refine it_by (walk_list (K := K) (a := b) (xs := ys)) (fun i H' => ∃ F' acc2, Ext M0 F H F' H' ∧ H' D2 = some (.lst acc2) ∧ F' D2 = none ∧ H' D = some (.lst acc) ∧ F' D = none ∧ Paired (kW.is F') acc (once out) ∧ Paired (kW.is F') acc2 (anti (other.take i)))
        ⟨F', [], X2.tmp nD2, upd_same, X2.ffree nD2, by rw [upd_ne DD]; exact hD, fD, hacc, .nil⟩ (fun i H' _ ⟨_, _, z, _⟩ => SqL.of (z.fh _ _ (z.ff _ _ hb))) ?_ ?_
      · rintro i x H3 _ hi ⟨F3, acc2, X3, hD2, fD2, hD3, fD3, hacc3, hacc2⟩ ⟨rfl, hx⟩
        obtain ⟨r, hri, hr2⟩ := pr_get hpb hx
        refine ⟨rfl, _, rfl, 1, rfl, (by show 2 ≤ sizeLine; decide), fun t nt => ?_⟩
        have Dt : D2 ≠ t := ne_of_none hD2 nt
        have ct : D ≠ t := ne_of_none hD3 nt
        have la : acc2.length ≤ 50000 := by
          have e : (anti (other.take i)).length = (other.take i).length := List.length_map ..
          rw [pr_len hacc2, e]
          have h1 := List.length_take_le' i other
          omega
        refine ⟨acc2, by rw [upd_ne Dt]; exact hD2, by rw [sizeLine_eq]; omega, ?_⟩
        have fD4 : upd F3 t (.tup [x, .int (-1)]) D2 = none := by rw [upd_ne Dt]; exact fD2
        have sm : Same F3 (upd F3 t (.tup [x, .int (-1)])) := same_upd (X3.ffree nt)
        refine ⟨upd F3 t (.tup [x, .int (-1)]), acc2 ++ [.ref t], (X3.lay nt).put (.inl HD2) fD4, upd_same, fD4, by rw [upd_ne DD, upd_ne ct]; exact hD3, by rw [upd_ne ct]; exact fD3, pr_mono (fun _ _ z => kW.mono sm z) hacc3, ?_⟩
        have eo : anti (other.take (i + 1)) = anti (other.take i) ++ [(r, -1)] := by rw [List.take_add_one, hri]; exact List.map_append ..
        rw [eo]
        exact pr_snoc (pr_mono (fun _ _ z => kW.mono sm z) hacc2) ⟨t, x, rfl, upd_same, kRow.mono (X3.ff.trans sm) hr2⟩
      · rintro H3 ⟨F3, acc2, X3, hD2, fD2, hD3, fD3, hacc3, hacc2⟩
        rw [pr_len hpb, List.take_length] at hacc2
        have l1 : acc.length = out.length := by rw [pr_len hacc3, once_len]
        have l2 : acc2.length = other.length := by rw [pr_len hacc2]; exact List.length_map ..
        refine ⟨_, rfl, _, rfl, D, D2, acc, acc2, rfl, rfl, hD3, hD2, by rw [sizeLine_eq]; omega, fun p np => ?_⟩
        have X4 := X3.lay (o := .lst (acc ++ acc2)) np
        refine ⟨upd F3 p (.lst (acc ++ acc2)), .ref p, once out ++ anti other, 1, rfl, X4.fh, kL_new (X3.ffree np) (pr_append hacc3 hacc2), wok_append (wok_once (valid_canon fw.can)) (wok_anti val2), ?_, by decide, RetL.step X4 q fun o t => told_without fw t⟩
        have e : (anti other).length = other.length := List.length_map ..
        rw [List.length_append, once_len, e]
        omega
end
end Rw
namespace Rw
open PySem L2
theorem eqv_row (r s : Row) : PyData.eqv (dRow r) (dRow s) = decide (r = s) := by
  obtain ⟨a, b, c⟩ := r
  obtain ⟨a', b', c'⟩ := s
  unfold dRow
  simp only [PyData.eqv, PyData.eqvAll, Bool.and_true]
  by_cases e1 : a = a' <;> by_cases e2 : b = b' <;> by_cases e3 : c = c' <;> simp [e1, e2, e3]
theorem eqvAll_rows : ∀ xs ys : List Row, PyData.eqvAll (xs.map dRow) (ys.map dRow) = decide (xs = ys)
  | [], [] => rfl
  | [], _ :: _ => by simp [PyData.eqvAll]
  | _ :: _, [] => by simp [PyData.eqvAll]
  | x :: xs, y :: ys => by
    rw [List.map_cons, List.map_cons, PyData.eqvAll, eqv_row, eqvAll_rows xs ys]
    by_cases e1 : x = y <;> by_cases e2 : xs = ys <;> simp [e1, e2]
theorem eqv_rows (xs ys : List Row) : PyData.eqv (dL dRow xs) (dL dRow ys) = decide (xs = ys) := by
  unfold dL
  rw [PyData.eqv]
  exact eqvAll_rows xs ys
theorem canLay_rows : ∀ xs : List Row, PyData.canLayAll0 (xs.map dRow) = true
  | [] => rfl
  | x :: xs => by
    rw [List.map_cons, PyData.canLayAll0, canLay_rows xs]
    simp [dRow, PyData.canLay0, PyData.canLayAll0]
theorem depth_rows : ∀ xs : List Row, PyData.depthAll (xs.map dRow) ≤ 1
  | [] => by simp [PyData.depthAll]
  | x :: xs => by
    rw [List.map_cons, PyData.depthAll]
    have := depth_rows xs
    have h : (dRow x).depth ≤ 1 := by simp [dRow, PyData.depth, PyData.depthAll]
    omega
theorem shaped_rows (xs : List Row) : SeqAt.shaped (dL dRow xs) = true := by
  unfold SeqAt.shaped dL
  rw [PyData.canLay0, canLay_rows, PyData.depth]
  have := depth_rows xs
  simp
  omega
end Rw
namespace Rw
open PySem L2
theorem rows_valid {rs : List Row} (h : ∀ r ∈ rs, RowOk r) : Valid rs := fun r hr => (h r hr).2.2.2.1
def spPlain : Sp := fun vs H Q _ => ∃ (F : Hp) (v : V) (rs : List Row), vs = [v] ∧ Same F H ∧ (kL kRow).is F v rs ∧ RowsOk rs ∧ RetL M0 F H kRow (Fewest rs) Q
/-- of two sets: which points are told -/
structure Of2 (one other : List Row) (φ : Prop → Prop → Prop) (out : List Row) : Prop where
  can : Canon out
  mem : ∀ p, mem out p ↔ φ (mem one p) (mem other p)
  len : out.length ≤ one.length + other.length
def sp2 (φ : Prop → Prop → Prop) : Sp := fun vs H Q _ => ∃ (F : Hp) (v u : V) (one other : List Row), vs = [v, u] ∧ Same F H ∧ (kL kRow).is F v one ∧ (kL kRow).is F u other ∧ RowsOk one ∧ RowsOk other ∧ RetL M0 F H kRow (Of2 one other φ) Q
abbrev fOr : Prop → Prop → Prop := fun a b => a ∨ b
abbrev fAnd : Prop → Prop → Prop := fun a b => a ∧ b
abbrev fLess : Prop → Prop → Prop := fun a b => a ∧ ¬ b
def spByMany : Sp := fun vs H Q _ => ∃ (F : Hp) (v : V) (sets : List (List Row)) (least : Int), vs = [v, .int least] ∧ Same F H ∧ (kL (kL kRow)).is F v sets ∧ (∀ rs ∈ sets, RowsOk rs) ∧ sets.length ≤ 100 ∧ 1 ≤ least ∧ least ≤ sets.length ∧ RetL M0 F H kRow (Held sets least) Q
def fore (rs : List Row) : List Row := rs.map fun r => (r.1, 1, r.2.2)
def spGaps : Sp := fun vs H Q _ => ∃ (F : Hp) (v : V) (rs : List Row), vs = [v] ∧ Same F H ∧ (kL kRow).is F v rs ∧ RowsOk rs ∧ RetL M0 F H kRow (Without (fore rs) rs) Q
def spWithin : Sp := fun vs H Q _ => ∃ (F : Hp) (v u : V) (one other : List Row), vs = [v, u] ∧ Same F H ∧ (kL kRow).is F v one ∧ (kL kRow).is F u other ∧ RowsOk one ∧ RowsOk other ∧
  ∀ (b : Bool) (F' H' : Hp), Ext M0 F H F' H' → (b = true ↔ ∀ p, mem one p → mem other p) → Q (.bl b) H'
/-- up to where there is no gap -/
structure Whole (rs : List Row) (h z : Int) : Prop where
  nn : 0 ≤ z
  all : ∀ n, 1 ≤ n → n ≤ z → mem rs (h, n)
  stop : ¬ mem rs (h, z + 1)
def spWholeTo : Sp := fun vs H Q _ => ∃ (F : Hp) (v : V) (rs : List Row) (h : Int), vs = [v, .int h] ∧ Same F H ∧ (kL kRow).is F v rs ∧ RowsOk rs ∧ 0 ≤ h ∧ h ≤ 7 ∧ ∀ (z : Int) (F' H' : Hp), Ext M0 F H F' H' → Whole rs h z → Q (.int z) H'
theorem ext_of_same {F H H' : Hp} (s : Same F H) (t : Same H H') : Ext M0 F H F H' :=
  ⟨Same.refl F, s.trans t, fun b o h _ => t b o h, fun b h e => h (t.free e), fun _ _ => rfl⟩
section
variable {P : Program} {w : World} {K : PySem.W.Frag} {mg : Str → Option Value} {base : Heap}
abbrev CalCheck (P : Program) (w : World) (K : PySem.W.Frag) (mg : Str → Option Value) (base : Heap) := Cal P w K mg base 5 "check_rows" ["rows"] spCheckRows
theorem two_sets {F' : Hp} {v u : V} {one other : List Row} (h1 : (kL kRow).is F' v one) (h2 : (kL kRow).is F' u other) : Paired ((kL kRow).is F') [v, u] [one, other] := .cons h1 (.cons h2 .nil)
end
end Rw
namespace Rw
open PySem L2
theorem total_le {n : Nat} : ∀ {sets : List (List Row)}, (∀ rs ∈ sets, rs.length ≤ n) → total sets ≤ n * sets.length
  | [], _ => Nat.zero_le _
  | rs :: sets, h => by
    have h1 := h rs List.mem_cons_self
    have h2 := total_le (sets := sets) fun x hx => h x (List.mem_cons_of_mem _ hx)
    show rs.length + total sets ≤ n * (sets.length + 1)
    rw [Nat.mul_add]; omega
section
variable {P : Program} {w : World} {K : PySem.W.Frag} {mg : Str → Option Value} {base : Heap}
def spWholeIn : Sp := fun vs H Q _ => ∃ (F : Hp) (v : V) (rs : List Row) (h : Int), vs = [v, .int h] ∧ Same F H ∧ (kL kRow).is F v rs ∧ Valid rs ∧ (∀ r ∈ rs, 1 ≤ r.2.1) ∧ rs.length ≤ 100000 ∧ ∀ (z : Int) (F' H' : Hp), Ext M0 F H F' H' → Whole rs h z → Q (.int z) H'
end
end Rw
namespace Rw
open PySem L2
/-! ### the law's dice -/
def dice (s : Addr) (i m r : Int) : HO := .lst [.ref s, .int i, .int m, .int r]
structure Good (i m r : Int) : Prop where
  i0 : 0 ≤ i
  m0 : 0 ≤ m
  m1 : m < 2147483647
  r0 : 0 ≤ r
def spDice (K : PySem.W.Frag) : Sp := fun vs H Q _ => ∃ (s : Addr) (ns : List Int), vs = [.ref s] ∧ SqL K H s (ns.map V.int) ∧ ∀ (d : Addr) (m : Int), H d = none → Good 0 m 0 → Q (.ref d) (upd H d (dice s 0 m 0))
/-- the dice at d over the script at s -/
structure DiceAt (K : PySem.W.Frag) (F H : Hp) (d s : Addr) (ns : List Int) : Prop where
  fh : Same F H
  fd : F d = none
  sc : SqL K F s (ns.map V.int)
  ex : ∃ i m r : Int, H d = some (dice s i m r) ∧ Good i m r
/-- what a draw may do -/
def RetN (K : PySem.W.Frag) (F H : Hp) (d s : Addr) (ns : List Int) (many : Int) (Q : VK) : Prop := ∀ (z : Int) (H' : Hp), 0 ≤ z → z < many → Ext (· = d) F H F H' → DiceAt K F H' d s ns → Q (.int z) H'
def spNext (K : PySem.W.Frag) : Sp := fun vs H Q _ => ∃ (F : Hp) (d s : Addr) (ns : List Int) (many : Int), vs = [.ref d, .int many] ∧ DiceAt K F H d s ns ∧ 1 ≤ many ∧ many < 2 ^ 64 ∧ RetN K F H d s ns many Q
structure TxL (mg : Str → Option Value) : Prop where
  int : mg "int" = none
  len : mg "len" = none
  range : mg "range" = none
  min : mg "min" = none
theorem atI_int {ns : List Int} {i : Int} (h0 : 0 ≤ i) (h1 : i < ns.length) : ∃ c, atI (ns.map V.int) i = some (.int c) := by
  obtain ⟨j, rfl⟩ : ∃ j : Nat, i = (j : Int) := ⟨i.toNat, by omega⟩
  have hl : j < ns.length := by omega
  exact ⟨ns[j], atI_nat (by rw [List.getElem?_map, List.getElem?_eq_getElem hl]; rfl)⟩
theorem DiceAt.put {K : PySem.W.Frag} {F H : Hp} {d s : Addr} {ns : List Int} (D : DiceAt K F H d s ns) {i m r : Int} (g : Good i m r) : Ext (· = d) F H F (upd H d (dice s i m r)) ∧ DiceAt K F (upd H d (dice s i m r)) d s ns :=
  ⟨(Ext.refl D.fh).put (.inr rfl) D.fd, ⟨same_put D.fh D.fd, D.fd, D.sc, ⟨i, m, r, upd_same, g⟩⟩⟩
section
variable {P : Program} {w : World} {K : PySem.W.Frag} {mg : Str → Option Value} {base : Heap}
theorem ok_law_dice {f : Addr} {fd : FuncData} (F0 : Fun K "_law_dice" "_law_dice" s_law_dice f fd) (T : TxL mg) : FnOk P w K mg base CX0 1 f fd ["_law_script"] (spDice K) := by
  refine F0.ok sc_law_dice (fun vs H Q E h => ?_) (fun cdv A outer s H vs Q E hr h => ?_)
  · obtain ⟨s, ns, rfl, _⟩ := h
    rfl
  · obtain ⟨s, ns, rfl, hs, q⟩ := h
    refine ⟨_, pss_cons (ps_set (i := 1) sc_law_dice.nd rfl (.inl rfl) pe_int)
      (pss_cons (ps_for PassesOwn.never rfl (pi_list (pv 0)) (pg_name (i := 2) sc_law_dice.nd rfl (.inl rfl))
        (pss_one (ps_set (i := 1) sc_law_dice.nd rfl (.inl rfl) (pe_op op_mod (pe_op op_add (pe_op op_add (pe_op op_mul (pv 1) pe_int) (pe_op op_mul (pe_op op_mod (pv 2) pe_int) pe_int)) pe_int) pe_int))))
      (pss_one (ps_ret (pe_lst (pa_cons (pv 0) (pa_cons pe_int (pa_cons (pe_op op_mul (pv 1) (pe_callTy call_int1 (by rfl) T.int (by decide +kernel) (pa_cons (pe_cmpR op_gt (pe_callB call_len (by rfl) T.len PySem.boot_len (pa_cons (pv 0) pa_nil)) pe_int (nomark _)) pa_nil))) (pa_cons pe_int pa_nil)))))))), ?_⟩
    refine ⟨_, rfl, s, rfl, ⟨_, hs⟩, for_list (K := K) (a := s) (xs := ns.map V.int) (fun i σ H' => ∃ (m : Int) (y : Option V), σ = [some (.ref s), some (.int m), y] ∧ 0 ≤ m ∧ m < 2147483647 ∧ H' = H) ⟨0, none, rfl, by decide, by decide, rfl⟩ (fun i σ H' _ ⟨_, _, _, _, _, e⟩ => e ▸ hs) ?_ ?_⟩
    · rintro i x σ H' hi ⟨m, y, rfl, h0, h1, rfl⟩
      obtain ⟨c, hc, rfl⟩ : ∃ c, ns[i]? = some c ∧ x = .int c := by
        rw [List.getElem?_map] at hi
        cases e : ns[i]? with
        | none => rw [e] at hi; cases hi
        | some c => rw [e] at hi; exact ⟨c, rfl, (Option.some.inj hi).symm⟩
      have p1 : (0 : Int) < 2147483647 := by decide
      refine ⟨_, rfl, _, _, rfl, rfl, .inl ⟨by omega, by omega⟩, _, rfl, _, _, rfl, rfl, p1, _, _, rfl, rfl, .inr ⟨by decide, by decide⟩, _, _, rfl, rfl, _, _, rfl, rfl, _, _, rfl, rfl, p1, ?_⟩
      exact ⟨_, _, rfl, Int.emod_nonneg _ (by decide), Int.emod_lt_of_pos _ p1, rfl⟩
    · rintro σ H' ⟨m, y, rfl, h0, h1, rfl⟩
      refine ⟨_, rfl, _, rfl, _, rfl, _, _, rfl, .inl ⟨_, hs, rfl⟩, _, _, rfl, rfl, .inr ⟨_, rfl, _, _, rfl, rfl, .inl ⟨by omega, by omega⟩, ?_⟩⟩
      refine ⟨by show 4 ≤ sizeLine; decide, fun d nd => ?_⟩
      refine q d _ nd ⟨Int.le_refl _, ?_, ?_, Int.le_refl _⟩
      · split <;> omega
      · split <;> omega
theorem ok_law_next {f : Addr} {fd : FuncData} (F0 : Fun K "_law_next" "_law_next" s_law_next f fd) (T : TxL mg) : FnOk P w K mg base CX0 1 f fd ["_law_dice_here", "_law_many"] (spNext K) := by
  refine F0.ok sc_law_next (fun vs H Q E h => ?_) (fun cdv A outer s H vs Q E hr h => ?_)
  · obtain ⟨F, d, s, ns, many, rfl, _⟩ := h
    rfl
  · obtain ⟨F, d, s, ns, many, rfl, D, m1, m2, q⟩ := h
    obtain ⟨i, m, r, hd, g⟩ := D.ex
    have hdv : many.natAbs < 2 ^ 64 := by omega
    refine ⟨_, pss_cons (ps_if (pt_cmpR op_gt (pe_ix ix_list (pv 0) pe_int (fun _ _ => rfl)) pe_int (nomark _))
        (pss_cons (ps_set (i := 2) sc_law_next.nd rfl (.inl rfl) (pe_op op_mod (pe_ix ix_list (pv 0) pe_int (fun _ _ => rfl)) (pv 1)))
        (pss_cons (ps_asg (pe_op op_fdivW (pe_ix ix_list (pv 0) pe_int (fun _ _ => rfl)) (pv 1)) (pg_sub (pv 0) pe_int set_list))
        (pss_one (ps_ret (pv 2))))) pss_nil)
      (pss_cons (ps_asg (pe_op op_add (pe_ix ix_list (pv 0) pe_int (fun _ _ => rfl)) pe_int) (pg_sub (pv 0) pe_int set_list))
      (pss_cons (ps_if (pt_cmpR op_le (pe_ix ix_list (pv 0) pe_int (fun _ _ => rfl)) (pe_callB call_len (by rfl) T.len PySem.boot_len (pa_cons (pe_ix ix_list (pv 0) pe_int (fun _ _ => rfl)) pa_nil)) (nomark _))
        (pss_cons (ps_set (i := 3) sc_law_next.nd rfl (.inl rfl) (pe_ix ix_list (pe_ix ix_list (pv 0) pe_int (fun _ _ => rfl)) (pe_op op_sub (pe_ix ix_list (pv 0) pe_int (fun _ _ => rfl)) pe_int) (fun _ _ => rfl)))
        (pss_cons (ps_asg (pe_ifExp (pt_cmpR op_ge (pv 3) (pe_op op_pow pe_int pe_int) (nomark _)) (pe_op op_fdivW (pv 3) (pv 1)) pe_int) (pg_sub (pv 0) pe_int set_list))
        (pss_one (ps_ret (pe_op op_mod (pv 3) (pv 1)))))) pss_nil)
      (pss_cons (ps_asg (pe_op op_mod (pe_op op_mul (pe_ix ix_list (pv 0) pe_int (fun _ _ => rfl)) pe_int) pe_int) (pg_sub (pv 0) pe_int set_list))
      (pss_one (ps_ret (pe_op op_mod (pe_op op_fdiv (pe_ix ix_list (pv 0) pe_int (fun _ _ => rfl)) pe_int) (pv 1))))))), ?_⟩
    have p1 : (0 : Int) < 2147483647 := by decide
    have pm : 0 < many := by omega
    refine ⟨_, rfl, d, _, 3, .int r, rfl, rfl, SqL.of hd, rfl, _, _, rfl, rfl, _, rfl, ite2 (fun c => ?_) (fun c => ?_)⟩
    · -- some digits are left
      refine ⟨_, rfl, d, _, 3, .int r, rfl, rfl, SqL.of hd, rfl, _, rfl, _, _, rfl, rfl, pm, ?_⟩
      refine ⟨_, rfl, d, _, 3, .int r, rfl, rfl, SqL.of hd, rfl, _, rfl, _, _, rfl, rfl, wide_div pm hdv (by decide) (by decide), ?_⟩
      refine ⟨_, rfl, d, _, 3, 3, rfl, rfl, hd, rfl, ?_⟩
      have g' : Good i m (r / many) := ⟨g.i0, g.m0, g.m1, Int.ediv_nonneg g.r0 (by omega)⟩
      exact ⟨_, rfl, q _ _ (Int.emod_nonneg _ (by omega)) (Int.emod_lt_of_pos _ pm) (D.put g').1 (D.put g').2⟩
    · refine ⟨_, rfl, d, _, 1, .int i, rfl, rfl, SqL.of hd, rfl, _, _, rfl, rfl, ?_⟩
      refine ⟨_, rfl, d, _, 1, 1, rfl, rfl, hd, rfl, ?_⟩
      have g1 : Good (i + 1) m r := ⟨by have := g.i0; omega, g.m0, g.m1, g.r0⟩
      have D1 := (D.put g1).2
      have X1 := (D.put g1).1
      have hs1 : SqL K (upd H d (dice s (i + 1) m r)) s (ns.map V.int) := D1.fh.seq D.sc
      have go2 : ∀ {i' m' r' z : Int}, Good i' m' r' → 0 ≤ z → z < many → Q (.int z) (upd (upd H d (dice s (i + 1) m r)) d (dice s i' m' r')) := fun g' h0 h1 =>
        q _ _ h0 h1 (X1.trans (D1.put g').1) (D1.put g').2
      refine ⟨_, rfl, d, _, 1, .int (i + 1), rfl, rfl, SqL.of upd_same, rfl, _, rfl, d, _, 0, .ref s, rfl, rfl, SqL.of upd_same, rfl, _, _, rfl, .inl ⟨_, hs1, rfl⟩, _, _, rfl, rfl, _, rfl, ite2 (fun c2 => ?_) (fun c2 => ?_)⟩
      · have c2 := of_decide_eq_true c2
        rw [List.length_map] at c2
        obtain ⟨cell, hc⟩ := atI_int (ns := ns) (i := i + 1 - 1) (by have := g.i0; omega) (by omega)
        refine ⟨_, rfl, d, _, 0, .ref s, rfl, rfl, SqL.of upd_same, rfl, _, rfl, d, _, 1, .int (i + 1), rfl, rfl, SqL.of upd_same, rfl, _, _, rfl, rfl, s, _, _, .int cell, rfl, rfl, hs1, hc, ?_⟩
        refine ⟨_, rfl, _, _, rfl, rfl, ⟨by decide, by decide, by decide⟩, _, _, rfl, rfl, _, rfl, ite2 (fun c3 => ?_) (fun c3 => ?_)⟩
        · have c3 := of_decide_eq_true c3
          have cp : 0 ≤ cell := by
            have e : (10 : Int) ^ (18 : Int).toNat = 1000000000000000000 := by decide
            rw [e] at c3
            omega
          refine ⟨_, rfl, _, rfl, _, _, rfl, rfl, wide_div pm hdv (by decide) (by decide), _, rfl, d, _, 3, 3, rfl, rfl, upd_same, rfl, ?_⟩
          refine ⟨_, rfl, _, rfl, _, _, rfl, rfl, pm, ?_⟩
          exact go2 ⟨g1.i0, g1.m0, g1.m1, Int.ediv_nonneg cp (by omega)⟩ (Int.emod_nonneg _ (by omega)) (Int.emod_lt_of_pos _ pm)
        · refine ⟨_, rfl, d, _, 3, 3, rfl, rfl, upd_same, rfl, ?_⟩
          refine ⟨_, rfl, _, rfl, _, _, rfl, rfl, pm, ?_⟩
          exact go2 ⟨g1.i0, g1.m0, g1.m1, Int.le_refl _⟩ (Int.emod_nonneg _ (by omega)) (Int.emod_lt_of_pos _ pm)
      · have gm0 := g.m0
        have gm1 := g.m1
        refine ⟨_, rfl, d, _, 2, .int m, rfl, rfl, SqL.of upd_same, rfl, _, _, rfl, rfl, .inl ⟨by omega, by omega⟩, _, _, rfl, rfl, p1, _, rfl, d, _, 2, 2, rfl, rfl, upd_same, rfl, ?_⟩
        have g2 : Good (i + 1) (m * 48271 % 2147483647) r := ⟨g1.i0, Int.emod_nonneg _ (by decide), Int.emod_lt_of_pos _ p1, g1.r0⟩
        refine ⟨_, rfl, d, _, 2, .int (m * 48271 % 2147483647), rfl, rfl, SqL.of upd_same, rfl, _, _, rfl, rfl, ⟨by decide, by decide⟩, _, rfl, _, _, rfl, rfl, pm, ?_⟩
        exact go2 g2 (Int.emod_nonneg _ (by omega)) (Int.emod_lt_of_pos _ pm)
end
end Rw
namespace Rw
open PySem L2
/-- a drawn row -/
def Drawn (houses far : Int) (r : Row) : Prop := 0 ≤ r.1 ∧ r.1 < houses ∧ 1 ≤ r.2.1 ∧ r.2.1 ≤ r.2.2 ∧ r.2.2 ≤ far
def spRows (K : PySem.W.Frag) : Sp := fun vs H Q _ => ∃ (F : Hp) (d s : Addr) (ns : List Int) (houses far most : Int), vs = [.ref d, .int houses, .int far, .int most] ∧ DiceAt K F H d s ns ∧ 1 ≤ houses ∧ houses ≤ 8 ∧ 1 ≤ far ∧ far ≤ LIM ∧ 0 ≤ most ∧ most ≤ 1000 ∧
  ∀ (F' H' : Hp) (a : Addr) (xs : List V) (rows : List Row), Ext (· = d) F H F' H' → DiceAt K F' H' d s ns → H a = none → F' a = none → H' a = some (.lst xs) → Paired (kRow.is F') xs rows → (rows.length : Int) ≤ most → (∀ r ∈ rows, Drawn houses far r) → Q (.ref a) H'
theorem DiceAt.step {K : PySem.W.Frag} {F H F' H' : Hp} {d s : Addr} {ns : List Int} (D : DiceAt K F H d s ns) (X : Ext M0 F H F' H') : DiceAt K F' H' d s ns := by
  obtain ⟨i, m, r, hd, g⟩ := D.ex
  exact ⟨X.fh, by rw [X.new d (by rw [hd]; simp)]; exact D.fd, X.ff.seq D.sc, ⟨i, m, r, X.same _ _ hd, g⟩⟩
theorem DiceAt.ne {K : PySem.W.Frag} {F H : Hp} {d s p : Addr} {ns : List Int} (D : DiceAt K F H d s ns) (h : H p = none) : d ≠ p := by
  obtain ⟨i, m, r, hd, g⟩ := D.ex
  exact ne_of_none hd h
theorem DiceAt.lay {K : PySem.W.Frag} {F H : Hp} {d s p : Addr} {ns : List Int} {o : HO} (D : DiceAt K F H d s ns) (h : H p = none) : DiceAt K (upd F p o) (upd H p o) d s ns :=
  D.step ((Ext.refl D.fh).lay h)
theorem DiceAt.tmp {K : PySem.W.Frag} {F H : Hp} {d s p : Addr} {ns : List Int} {o : HO} (D : DiceAt K F H d s ns) (h : H p = none) : DiceAt K F (upd H p o) d s ns :=
  D.step ((Ext.refl D.fh).tmp h)
theorem DiceAt.set {K : PySem.W.Frag} {F H : Hp} {d s p : Addr} {ns : List Int} {o : HO} (D : DiceAt K F H d s ns) (h : d ≠ p) (f : F p = none) : DiceAt K F (upd H p o) d s ns := by
  obtain ⟨i, m, r, hd, g⟩ := D.ex
  exact ⟨same_put D.fh f, D.fd, D.sc, ⟨i, m, r, by rw [upd_ne h]; exact hd, g⟩⟩
section
variable {P : Program} {w : World} {K : PySem.W.Frag} {mg : Str → Option Value} {base : Heap}
theorem ok_law_rows {f : Addr} {fd : FuncData} (F0 : Fun K "_law_rows" "_law_rows" s_law_rows f fd) (T : TxL mg) (CN : Cal P w K mg base 1 "_law_next" ["_law_dice_here", "_law_many"] (spNext K)) : FnOk P w K mg base CX0 2 f fd ["_law_d", "_law_houses", "_law_far", "_law_most"] (spRows K) := by
  obtain ⟨f1, fd1, G1, g1, kp1, b1⟩ := CN
  refine F0.ok sc_law_rows (fun vs H Q E h => ?_) (fun cdv A outer s0 H vs Q E hr h => ?_)
  · obtain ⟨F, d, s, ns, houses, far, most, rfl, _⟩ := h
    rfl
  · obtain ⟨F, d, s, ns, houses, far, most, rfl, D0, h1, h8, f1', fL, m0, m1, q⟩ := h
    have eL : LIM = 1000000000000 := rfl
    refine ⟨_, pss_cons (ps_set (i := 4) sc_law_rows.nd rfl (.inl rfl) (pe_lst pa_nil))
      (pss_cons (ps_for PassesOwn.never rfl (pi_range1 (by rfl) T.range (pa_cons (pe_call G1 hr (by rfl) g1 kp1 b1 .nil pass0 (pa_cons (pv 0) (pa_cons (pe_op op_add (pv 3) pe_int) pa_nil))) pa_nil)) (pg_name (i := 5) sc_law_rows.nd rfl (.inl rfl))
        (pss_cons (ps_set (i := 6) sc_law_rows.nd rfl (.inl rfl) (pe_op op_add pe_int (pe_call G1 hr (by rfl) g1 kp1 b1 .nil pass0 (pa_cons (pv 0) (pa_cons (pv 2) pa_nil)))))
        (pss_cons (ps_set (i := 7) sc_law_rows.nd rfl (.inl rfl) (pe_ix ix_list (pe_lst (pa_cons pe_int (pa_cons (pe_call G1 hr (by rfl) g1 kp1 b1 .nil pass0 (pa_cons (pv 0) (pa_cons pe_int pa_nil))) (pa_cons (pe_call G1 hr (by rfl) g1 kp1 b1 .nil pass0 (pa_cons (pv 0) (pa_cons (pv 2) pa_nil))) pa_nil))))
            (pe_call G1 hr (by rfl) g1 kp1 b1 .nil pass0 (pa_cons (pv 0) (pa_cons pe_int pa_nil))) (fun _ _ => rfl)))
        (pss_one (ps_expr (pe_bm PySem.F.plainAttrs_list PySem.F.slot_list_append PySem.F.type_list_append mt_append (pv 4) (pa_cons (pe_tup (pa_cons (pe_call G1 hr (by rfl) g1 kp1 b1 .nil pass0 (pa_cons (pv 0) (pa_cons (pv 1) pa_nil))) (pa_cons (pv 6)
            (pa_cons (pe_callB (call_min2 (by rfl)) (by rfl) T.min (by decide +kernel) (pa_cons (pv 2) (pa_cons (pe_op op_add (pv 6) (pv 7)) pa_nil))) pa_nil)))) pa_nil)))))))
      (pss_one (ps_ret (pv 4)))), ?_⟩
    refine ⟨Nat.zero_le _, fun o no => ?_⟩
    have Fo : F o = none := D0.fh.free no
    have dO : d ≠ o := D0.ne no
    have X0 : Ext (· = d) F H F (upd H o (.lst [])) := (Ext.refl D0.fh).tmp no
    have ho0 : upd H o (.lst []) o = some (.lst []) := upd_same
    have D1 : DiceAt K F (upd H o (.lst [])) d s ns := D0.tmp no
    revert X0 ho0 D1
    generalize upd H o (.lst []) = H1
    intro X0 ho0 D1
    refine ⟨_, rfl, _, rfl, _, _, rfl, rfl, F, d, s, ns, most + 1, rfl, D1, by omega, by omega, fun z H2 z0 z1 X1 D2 => ?_⟩
    have ho2 : H2 o = some (.lst []) := X1.hh _ _ ho0 fun e => dO e.symm
    have X2 := X0.trans X1
    refine ⟨z, rfl, by omega, by omega, for_range (lo := 0) (n := z.toNat) (fun i σ H' => ∃ F' acc rows y5 y6 y7, σ = [some (.ref d), some (.int houses), some (.int far), some (.int most), some (.ref o), y5, y6, y7] ∧ Ext (· = d) F H F' H' ∧ DiceAt K F' H' d s ns ∧ H' o = some (.lst acc) ∧ F' o = none ∧ Paired (kRow.is F') acc rows ∧ rows.length = i ∧ ∀ r ∈ rows, Drawn houses far r)
      ⟨F, [], [], none, none, none, rfl, X2, D2, ho2, Fo, .nil, rfl, fun r h => absurd h (by simp)⟩ ?_ ?_⟩
    · rintro i σ H3 hi ⟨F', acc, rows, y5, y6, y7, rfl, X3, D3, ho3, fo3, hpr, hlen, hdr⟩
      -- first = 1 + next(d, far)
      refine ⟨_, rfl, _, rfl, F', d, s, ns, far, rfl, D3, f1', by omega, fun a H4 a0 a1 Y4 D4 => ?_⟩
      refine ⟨_, _, rfl, rfl, ?_⟩
      -- wide
      refine ⟨_, rfl, F', d, s, ns, 3, rfl, D4, by decide, by decide, fun b H5 b0 b1 Y5 D5 => ?_⟩
      refine ⟨_, rfl, _, rfl, F', d, s, ns, far, rfl, D5, f1', by omega, fun c H6 c0 c1 Y6 D6 => ?_⟩
      refine ⟨by show 3 ≤ sizeLine; decide, fun p np => ?_⟩
      have D6' : DiceAt K F' (upd H6 p (.lst [.int 0, .int b, .int c])) d s ns := D6.tmp np
      have dp : d ≠ p := D6.ne np
      refine ⟨_, rfl, F', d, s, ns, 3, rfl, D6', by decide, by decide, fun e H7 e0 e1 Y7 D7 => ?_⟩
      have hp7 : H7 p = some (.lst [.int 0, .int b, .int c]) := Y7.hh _ _ upd_same fun z => dp z.symm
      obtain ⟨wd, w0, hw⟩ : ∃ wd : Int, 0 ≤ wd ∧ atI [V.int 0, V.int b, V.int c] e = some (.int wd) := by
        rcases (show e = 0 ∨ e = 1 ∨ e = 2 by omega) with z | z | z
        · exact ⟨0, Int.le_refl _, by rw [z]; rfl⟩
        · exact ⟨b, b0, by rw [z]; rfl⟩
        · exact ⟨c, c0, by rw [z]; rfl⟩
      have Y : Ext (· = d) F' H3 F' H7 := ((Y4.trans Y5).trans Y6 |>.tmp np).trans Y7
      have ho7 : H7 o = some (.lst acc) := Y.hh _ _ ho3 fun z => dO z.symm
      refine ⟨p, _, e, _, rfl, rfl, SqL.of hp7, hw, ?_⟩
      -- append
      refine ⟨_, rfl, .inl ⟨rfl, _, SqL.of ho7⟩, _, rfl, _, rfl, F', d, s, ns, houses, rfl, D7, h1, by omega, fun h H8 hh0 hh1 Y8 D8 => ?_⟩
      have ho8 : H8 o = some (.lst acc) := Y8.hh _ _ ho7 fun z => dO z.symm
      refine ⟨_, rfl, _, rfl, _, rfl, _, rfl, _, _, rfl, rfl, _, _, rfl, by show 3 ≤ sizeLine; decide, fun t nt => ?_⟩
      have ot : o ≠ t := ne_of_none ho8 nt
      have la : acc.length = i := by rw [pr_len hpr]; exact hlen
      refine ⟨o, acc, _, rfl, rfl, by rw [upd_ne ot]; exact ho8, by rw [sizeLine_eq]; omega, ?_⟩
      have XT := (X3.trans Y).trans Y8
      have fo9 : upd F' t (.tup [.int h, .int (1 + a), .int (if 1 + a + wd < far then 1 + a + wd else far)]) o = none := by rw [upd_ne ot]; exact fo3
      have sm : Same F' (upd F' t (.tup [.int h, .int (1 + a), .int (if 1 + a + wd < far then 1 + a + wd else far)])) := same_upd (XT.ffree nt)
      refine ⟨upd F' t (.tup [.int h, .int (1 + a), .int (if 1 + a + wd < far then 1 + a + wd else far)]), acc ++ [.ref t], rows ++ [(h, 1 + a, if 1 + a + wd < far then 1 + a + wd else far)], _, _, _, rfl,
        (XT.lay nt).put (.inl no) fo9, (D8.lay nt).set dO fo9, upd_same, fo9, pr_snoc (pr_mono (fun _ _ z => kRow.mono sm z) hpr) ⟨t, rfl, upd_same⟩, by rw [List.length_append, hlen]; rfl, fun r hr => ?_⟩
      rcases List.mem_append.mp hr with hr | hr
      · exact hdr r hr
      · rw [List.mem_singleton.mp hr]
        refine ⟨hh0, hh1, ?_, ?_, ?_⟩
        · show 1 ≤ 1 + a; omega
        · show 1 + a ≤ if 1 + a + wd < far then 1 + a + wd else far
          split <;> omega
        · show (if 1 + a + wd < far then 1 + a + wd else far) ≤ far
          split <;> omega
    · rintro σ H3 ⟨F', acc, rows, y5, y6, y7, rfl, X3, D3, ho3, fo3, hpr, hlen, hdr⟩
      exact ⟨_, rfl, q F' H3 o acc rows X3 D3 no fo3 ho3 hpr (by omega) hdr⟩
end
end Rw
namespace Rw
open PySem L2
/-! ### alike: the law's own comparing, sort by sort -/
def sc0 (v u : V) : Prop := (∃ i, v = .int i ∧ u = .int i) ∨ (∃ b, v = .bl b ∧ u = .bl b) ∨ (∃ z, v = .str z ∧ u = .str z) ∨ (v = .non ∧ u = .non)
def Twin (H : Hp) : Nat → V → V → Prop
  | 0, _, _ => False
  | n + 1, v, u => sc0 v u ∨ ∃ a b xs ys, v = .ref a ∧ u = .ref b ∧ ((H a = some (.tup xs) ∧ H b = some (.tup ys)) ∨ (H a = some (.lst xs) ∧ H b = some (.lst ys))) ∧ ys.length ≤ 100000 ∧ xs.length = ys.length ∧ ∀ (i : Nat) (x y : V), xs[i]? = some x → ys[i]? = some y → Twin H n x y
theorem Twin.mono {H H' : Hp} (s : Same H H') : ∀ {n : Nat} {v u : V}, Twin H n v u → Twin H' n v u
  | 0, _, _, h => h
  | n + 1, v, u, .inl h => .inl h
  | n + 1, v, u, .inr ⟨a, b, xs, ys, ev, eu, h, l, e, p⟩ => .inr ⟨a, b, xs, ys, ev, eu, h.imp (fun ⟨x, y⟩ => ⟨s _ _ x, s _ _ y⟩) (fun ⟨x, y⟩ => ⟨s _ _ x, s _ _ y⟩), l, e, fun i x y hx hy => (p i x y hx hy).mono s⟩
def spLike (n : Nat) : Sp := fun vs H Q _ => ∃ (v u : V), vs = [v, u] ∧ Twin H n v u ∧ Q (.bl true) H
structure TxK (mg : Str → Option Value) : Prop where
  isinst : mg "isinstance" = none
  int : mg "int" = none
  bool : mg "bool" = none
  str : mg "str" = none
  tuple : mg "tuple" = none
  list : mg "list" = none
  len : mg "len" = none
  range : mg "range" = none
theorem bt_str : bootBuiltins "str" = some (.type "str") := by decide +kernel
theorem bt_list : bootBuiltins "list" = some (.type "list") := by decide +kernel
theorem isi_use {K : PySem.W.Frag} {H : Hp} {x : V} {t n : String} {r : Bool} {Q : VK} (ty : TyX K H x (.type t)) (k : kitB t n = some r) (q : Q (.bl r) H) : rIsi K [x, .ty n] H Q :=
  ⟨_, .ty n, _, _, _, rfl, .ty _, ty, kit_ty k, q⟩
section
variable {P : Program} {w : World} {K : PySem.W.Frag} {mg : Str → Option Value} {base : Heap}
theorem ok_law_like {f : Addr} {fd : FuncData} {n : Nat} (F0 : Fun K "_law_like" "_law_like" s_law_like f fd) (T : TxK mg) (CL : Cal P w K mg base (n + 1) "_law_like" ["_law_found", "_law_due"] (spLike n)) :
    FnOk P w K mg base CX0 (n + 2) f fd ["_law_found", "_law_due"] (spLike (n + 1)) := by
  obtain ⟨f1, fd1, G1, g1, kp1, b1⟩ := CL
  refine F0.ok sc_law_like (fun vs H Q E h => ?_) (fun cdv A outer s H vs Q E hr h => ?_)
  · obtain ⟨v, u, rfl, _⟩ := h
    rfl
  · obtain ⟨v, u, rfl, t, q⟩ := h
    refine ⟨_, pss_cons (ps_if (pt_val (pe_callB call_isi (by rfl) T.isinst (by decide +kernel) (pa_cons (pv 1) (pa_cons (pe_bty (by rfl) T.bool bt_bool) pa_nil))))
        (pss_one (ps_ret (pe_and (pe_callB call_isi (by rfl) T.isinst (by decide +kernel) (pa_cons (pv 0) (pa_cons (pe_bty (by rfl) T.bool bt_bool) pa_nil))) (pe_one (pe_cmpR op_eq (pv 0) (pv 1) (nomark _)))))) pss_nil)
      (pss_cons (ps_if (pt_val (pe_callB call_isi (by rfl) T.isinst (by decide +kernel) (pa_cons (pv 1) (pa_cons (pe_bty (by rfl) T.str bt_str) pa_nil))))
        (pss_one (ps_ret (pe_and (pe_callB call_isi (by rfl) T.isinst (by decide +kernel) (pa_cons (pv 0) (pa_cons (pe_bty (by rfl) T.str bt_str) pa_nil))) (pe_one (pe_cmpR op_eq (pv 0) (pv 1) (nomark _)))))) pss_nil)
      (pss_cons (ps_if (pt_val (pe_callB call_isi (by rfl) T.isinst (by decide +kernel) (pa_cons (pv 1) (pa_cons (pe_bty (by rfl) T.int bt_int) pa_nil))))
        (pss_one (ps_ret (pe_and (pe_callB call_isi (by rfl) T.isinst (by decide +kernel) (pa_cons (pv 0) (pa_cons (pe_bty (by rfl) T.int bt_int) pa_nil))) (pe_and (pe_not (pe_callB call_isi (by rfl) T.isinst (by decide +kernel) (pa_cons (pv 0) (pa_cons (pe_bty (by rfl) T.bool bt_bool) pa_nil)))) (pe_one (pe_cmpR op_eq (pv 0) (pv 1) (nomark _))))))) pss_nil)
      (pss_cons (ps_if (pt_cmp (pc_isN (pv 1))) (pss_one (ps_ret (pe_cmp (pc_isN (pv 0))))) pss_nil)
      (pss_cons (ps_if (PW.pt (pw_or (pt_cmpR op_ne (pe_callB call_isi (by rfl) T.isinst (by decide +kernel) (pa_cons (pv 1) (pa_cons (pe_bty (by rfl) T.tuple bt_tuple) pa_nil))) (pe_callB call_isi (by rfl) T.isinst (by decide +kernel) (pa_cons (pv 0) (pa_cons (pe_bty (by rfl) T.tuple bt_tuple) pa_nil))) (nomark _))
          (pw_or1 (pt_cmpR op_ne (pe_callB call_isi (by rfl) T.isinst (by decide +kernel) (pa_cons (pv 1) (pa_cons (pe_bty (by rfl) T.list bt_list) pa_nil))) (pe_callB call_isi (by rfl) T.isinst (by decide +kernel) (pa_cons (pv 0) (pa_cons (pe_bty (by rfl) T.list bt_list) pa_nil))) (nomark _))))) (pss_one (ps_ret pe_bl)) pss_nil)
      (pss_cons (ps_if (pt_cmpR op_ne (pe_callB call_len (by rfl) T.len PySem.boot_len (pa_cons (pv 0) pa_nil)) (pe_callB call_len (by rfl) T.len PySem.boot_len (pa_cons (pv 1) pa_nil)) (nomark _)) (pss_one (ps_ret pe_bl)) pss_nil)
      (pss_cons (ps_for PassesOwn.never rfl (pi_range1 (by rfl) T.range (pa_cons (pe_callB call_len (by rfl) T.len PySem.boot_len (pa_cons (pv 1) pa_nil)) pa_nil)) (pg_name (i := 2) sc_law_like.nd rfl (.inl rfl))
        (pss_one (ps_if (pt_not (pt_val (pe_call G1 hr (by rfl) g1 kp1 b1 .nil pass0 (pa_cons (pe_ix ix_seq (pv 0) (pv 2) (fun _ _ => rfl)) (pa_cons (pe_ix ix_seq (pv 1) (pv 2) (fun _ _ => rfl)) pa_nil))))) (pss_one (ps_ret pe_bl)) pss_nil)))
      (pss_one (ps_ret pe_bl)))))))), ?_⟩
    obtain (⟨i, rfl, rfl⟩ | ⟨b, rfl, rfl⟩ | ⟨z, rfl, rfl⟩ | ⟨rfl, rfl⟩) | ⟨a, b, xs, ys, rfl, rfl, hab, hl, hlen, hp⟩ := t
    · refine ⟨_, rfl, _, .ty "bool", _, _, _, rfl, .ty _, .base (.int i), kit_ib, false, rfl, iteF ?_⟩
      refine ⟨_, rfl, _, .ty "str", _, _, _, rfl, .ty _, .base (.int i), kit_ty (r := false) (by decide +kernel), false, rfl, iteF ?_⟩
      refine ⟨_, rfl, _, .ty "int", _, _, _, rfl, .ty _, .base (.int i), kit_ii, true, rfl, iteT ?_⟩
      refine ⟨_, rfl, _, .ty "int", _, _, _, rfl, .ty _, .base (.int i), kit_ii, true, rfl, iteT ?_⟩
      refine ⟨_, rfl, _, .ty "bool", _, _, _, rfl, .ty _, .base (.int i), kit_ib, false, rfl, true, rfl, iteT ?_⟩
      refine ⟨_, rfl, _, rfl, rfl, ?_⟩
      rw [decide_eq_true rfl]
      exact q
    · refine ⟨_, rfl, _, .ty "bool", _, _, _, rfl, .ty _, .base (.bl b), kit_ty (r := true) (by decide +kernel), true, rfl, iteT ?_⟩
      refine ⟨_, rfl, _, .ty "bool", _, _, _, rfl, .ty _, .base (.bl b), kit_ty (r := true) (by decide +kernel), true, rfl, iteT ?_⟩
      refine ⟨_, rfl, _, rfl, rfl, ?_⟩
      rw [decide_eq_true rfl]
      exact q
    · refine ⟨_, rfl, _, .ty "bool", _, _, _, rfl, .ty _, .base (.str z), kit_ty (r := false) (by decide +kernel), false, rfl, iteF ?_⟩
      refine ⟨_, rfl, _, .ty "str", _, _, _, rfl, .ty _, .base (.str z), kit_ty (r := true) (by decide +kernel), true, rfl, iteT ?_⟩
      refine ⟨_, rfl, _, .ty "str", _, _, _, rfl, .ty _, .base (.str z), kit_ty (r := true) (by decide +kernel), true, rfl, iteT ?_⟩
      refine ⟨_, rfl, _, rfl, rfl, ?_⟩
      rw [decide_eq_true rfl]
      exact q
    · refine ⟨_, rfl, _, .ty "bool", _, _, _, rfl, .ty _, .base .non, kit_ty (r := false) (by decide +kernel), false, rfl, iteF ?_⟩
      refine ⟨_, rfl, _, .ty "str", _, _, _, rfl, .ty _, .base .non, kit_ty (r := false) (by decide +kernel), false, rfl, iteF ?_⟩
      refine ⟨_, rfl, _, .ty "int", _, _, _, rfl, .ty _, .base .non, kit_ty (r := false) (by decide +kernel), false, rfl, iteF ?_⟩
      exact ⟨_, rfl, _, rfl, iteT ⟨_, rfl, q⟩⟩
    · -- a list or a tuple
      obtain ⟨T', c1, c2, ta, tb, k1, k2, k3, k4, k5, hs⟩ : ∃ (T' : String) (c1 c2 : Bool), TyX K H (.ref a) (.type T') ∧ TyX K H (.ref b) (.type T') ∧ kitB T' "bool" = some false ∧ kitB T' "str" = some false ∧ kitB T' "int" = some false ∧ kitB T' "tuple" = some c1 ∧ kitB T' "list" = some c2 ∧
          ((SqL K H a xs ∧ SqL K H b ys) ∨ (SqT K H a xs ∧ SqT K H b ys)) := by
        rcases hab with ⟨ha, hb⟩ | ⟨ha, hb⟩
        · exact ⟨"tuple", true, false, tyx_tup ha, tyx_tup hb, by decide +kernel, by decide +kernel, by decide +kernel, by decide +kernel, by decide +kernel, .inr ⟨SqT.of ha, SqT.of hb⟩⟩
        · exact ⟨"list", false, true, tyx_lst ha, tyx_lst hb, by decide +kernel, by decide +kernel, by decide +kernel, by decide +kernel, by decide +kernel, .inl ⟨SqL.of ha, SqL.of hb⟩⟩
      have la : LenV K (.ref a) H xs.length := hs.imp (fun z => ⟨xs, z.1, rfl⟩) fun z => ⟨xs, z.1, rfl⟩
      have lb : LenV K (.ref b) H ys.length := hs.imp (fun z => ⟨ys, z.2, rfl⟩) fun z => ⟨ys, z.2, rfl⟩
      refine ⟨_, rfl, _, .ty "bool", _, _, _, rfl, .ty _, tb, kit_ty k1, false, rfl, iteF ?_⟩
      refine ⟨_, rfl, _, .ty "str", _, _, _, rfl, .ty _, tb, kit_ty k2, false, rfl, iteF ?_⟩
      refine ⟨_, rfl, _, .ty "int", _, _, _, rfl, .ty _, tb, kit_ty k3, false, rfl, iteF ?_⟩
      refine ⟨_, rfl, _, rfl, iteF ?_⟩
      refine ⟨_, rfl, _, .ty "tuple", _, _, _, rfl, .ty _, tb, kit_ty k4, _, rfl, _, .ty "tuple", _, _, _, rfl, .ty _, ta, kit_ty k4, rfl, _, rfl, iteNS rfl ?_⟩
      refine ⟨_, rfl, _, .ty "list", _, _, _, rfl, .ty _, tb, kit_ty k5, _, rfl, _, .ty "list", _, _, _, rfl, .ty _, ta, kit_ty k5, rfl, _, rfl, iteNS rfl ?_⟩
      refine ⟨_, rfl, _, _, rfl, la, _, rfl, _, _, rfl, lb, rfl, _, rfl, iteNS (by rw [hlen]) ?_⟩
      refine ⟨_, rfl, _, _, rfl, lb, _, rfl, by omega, by omega, for_range (lo := 0) (n := ys.length) (fun i σ H' => ∃ y2, σ = [some (.ref a), some (.ref b), y2] ∧ H' = H) ⟨none, rfl, rfl⟩ ?_ ?_⟩
      · rintro i σ H' hi ⟨y2, rfl, rfl⟩
        obtain ⟨x, hx⟩ : ∃ x, xs[i]? = some x := ⟨_, List.getElem?_eq_getElem (by omega)⟩
        obtain ⟨y, hy⟩ : ∃ y, ys[i]? = some y := ⟨_, List.getElem?_eq_getElem hi⟩
        have ax : atI xs (0 + (i : Int)) = some x := by rw [Int.zero_add]; exact atI_nat hx
        have ay : atI ys (0 + (i : Int)) = some y := by rw [Int.zero_add]; exact atI_nat hy
        refine ⟨_, rfl, _, rfl, ?_⟩
        have ix : ∀ (Q : VK), (Q x H' → rIx K (.ref a) (.int (0 + (i : Int))) H' Q) := fun Q q => hs.elim (fun z => .inl ⟨a, xs, _, x, rfl, rfl, z.1, ax, q⟩) fun z => .inr (.inl ⟨a, xs, _, x, rfl, rfl, z.1, ax, q⟩)
        have iy : ∀ (Q : VK), (Q y H' → rIx K (.ref b) (.int (0 + (i : Int))) H' Q) := fun Q q => hs.elim (fun z => .inl ⟨b, ys, _, y, rfl, rfl, z.2, ay, q⟩) fun z => .inr (.inl ⟨b, ys, _, y, rfl, rfl, z.2, ay, q⟩)
        refine ix _ ⟨_, rfl, _, rfl, iy _ ⟨x, y, rfl, hp i x y hx hy, true, rfl, iteF ⟨_, rfl, rfl⟩⟩⟩
      · rintro σ H' ⟨y2, rfl, rfl⟩
        exact q
end
end Rw
namespace Rw
open PySem L2
/-! ### rows moved along -/
def mv1 (by' : Int) (r : Row) : Row := (r.1, r.2.1 + by', r.2.2 + by')
def moved (by' : Int) (rs : List Row) : List Row := rs.map (mv1 by')
def spMoved : Sp := fun vs H Q _ => ∃ (F : Hp) (v : V) (rs : List Row) (b : Int), vs = [v, .int b] ∧ Same F H ∧ (kL kRow).is F v rs ∧ rs.length ≤ 100000 ∧ RetL M0 F H kRow (· = moved b rs) Q
section
variable {P : Program} {w : World} {K : PySem.W.Frag} {mg : Str → Option Value} {base : Heap}
theorem ok_law_moved {f : Addr} {fd : FuncData} (F0 : Fun K "_law_moved" "_law_moved" s_law_moved f fd) : FnOk P w K mg base CX0 1 f fd ["_law_rows_here", "_law_by"] spMoved := by
  refine F0.ok sc_law_moved (fun vs H Q E h => ?_) (fun cdv A outer s H vs Q E hr h => ?_)
  · obtain ⟨F, v, rs, b, rfl, _⟩ := h
    rfl
  · obtain ⟨F, v, rs, b, rfl, fh, ⟨a, xs, rfl, ha, hp⟩, hl, q⟩ := h
    refine ⟨_, pss_one (ps_ret (pe_lc (own := [("_law_house", 2), ("_law_first", 3), ("_law_last", 4)]) (g := gTup K 3 (gCons (gName 2) (gCons (gName 3) (gCons (gName 4) gNil)))) (tt := tYes) (by rfl) sc_law_moved.nd (pi_list (pv 0))
        (blkOk_by (own := [("_law_house", 2), ("_law_first", 3), ("_law_last", 4)]) (N := ["_law_rows_here", "_law_by", "_law_house", "_law_first", "_law_last"]) (sc := defScope s_law_moved) (by decide +kernel))
        (fun _ _ _ _ _ => pg_tup (by rfl) (pgs_cons (pg_name (i := 2) sc_law_moved.nd rfl (Or.inl rfl)) (pgs_cons (pg_name (i := 3) sc_law_moved.nd rfl (Or.inl rfl)) (pgs_cons (pg_name (i := 4) sc_law_moved.nd rfl (Or.inl rfl)) pgs_nil)))) (fun _ _ _ _ _ => pts_nil)
        (fun _ _ _ _ _ => pe_tup (pa_cons (pv 2) (pa_cons (pe_op op_add (pv 3) (pv 1)) (pa_cons (pe_op op_add (pv 4) (pv 1)) pa_nil)))))), ?_⟩
    have X1 : Ext M0 F H F H := Ext.refl fh
    refine ⟨_, rfl, a, rfl, ⟨_, SqL.of (X1.fh _ _ ha)⟩, fun D nD => ?_⟩
    have HD : H D = none := nD
    refine it_by (walk_list (K := K) (a := a) (xs := xs)) (fun i H' => ∃ F' acc, Ext M0 F H F' H' ∧ H' D = some (.lst acc) ∧ F' D = none ∧ Paired (kRow.is F') acc (moved b (rs.take i)))
      ⟨F, [], X1.tmp nD, upd_same, X1.ffree nD, .nil⟩ (fun i H' _ ⟨_, _, z, _⟩ => SqL.of (z.fh _ _ (z.ff _ _ ha))) ?_ ?_
    · rintro i x H2 _ hi ⟨F', acc, X2, hD, fD, hacc⟩ ⟨rfl, hx⟩
      obtain ⟨r, hri, tr, rfl, htr⟩ := pr_get hp hx
      refine ⟨tr, _, rfl, SqT.of (X2.fh _ _ (X2.ff _ _ htr)), rfl, _, _, rfl, _, _, rfl, _, _, rfl, rfl, rfl, _, rfl, _, rfl, _, rfl, _, _, rfl, rfl, _, rfl, _, rfl, _, _, rfl, rfl, (by show 3 ≤ sizeLine; decide), fun t nt => ?_⟩
      have Dt : D ≠ t := ne_of_none hD nt
      have la : acc.length ≤ 100000 := by
        have e : (moved b (rs.take i)).length = (rs.take i).length := List.length_map ..
        rw [pr_len hacc, e]
        have h1 := List.length_take_le' i rs
        omega
      refine ⟨acc, by rw [upd_ne Dt]; exact hD, by rw [sizeLine_eq]; omega, ?_⟩
      have fD2 : upd F' t (.tup [.int r.1, .int (r.2.1 + b), .int (r.2.2 + b)]) D = none := by rw [upd_ne Dt]; exact fD
      have sm : Same F' (upd F' t (.tup [.int r.1, .int (r.2.1 + b), .int (r.2.2 + b)])) := same_upd (X2.ffree nt)
      refine ⟨upd F' t (.tup [.int r.1, .int (r.2.1 + b), .int (r.2.2 + b)]), acc ++ [.ref t], (X2.lay nt).put (.inl HD) fD2, upd_same, fD2, ?_⟩
      have eo : moved b (rs.take (i + 1)) = moved b (rs.take i) ++ [mv1 b r] := by rw [List.take_add_one, hri]; exact List.map_append ..
      rw [eo]
      exact pr_snoc (pr_mono (fun _ _ z => kRow.mono sm z) hacc) ⟨t, rfl, upd_same⟩
    · rintro H2 ⟨F', acc, X2, hD, fD, hacc⟩
      rw [pr_len hp, List.take_length] at hacc
      exact q F' H2 D acc _ X2 HD fD hD hacc rfl
end
end Rw
namespace Rw
open PySem L2
/-! ### the names of rows, one by one -/
structure DKy (kvs : List (List Key × V)) (ps : List Pt) : Prop where
  keys : kvs.map (·.1) = ps.map kk
  nd : ps.Nodup
theorem DKy.nil : DKy [] [] := ⟨rfl, .nil⟩
theorem DKy.len {kvs : List (List Key × V)} {ps : List Pt} (d : DKy kvs ps) : kvs.length = ps.length := by
  have h := congrArg List.length d.keys
  rw [List.length_map, List.length_map] at h
  exact h
theorem DKy.put {kvs : List (List Key × V)} {ps : List Pt} (d : DKy kvs ps) (q : Pt) (v : V) : ∃ ps', DKy (putK kvs (kk q) v) ps' ∧ (∀ p, p ∈ ps' ↔ p ∈ ps ∨ p = q) ∧ ps'.length ≤ ps.length + 1 := by
  by_cases m : q ∈ ps
  · refine ⟨ps, ⟨?_, d.nd⟩, fun p => ⟨.inl, fun h => h.elim id fun e => e ▸ m⟩, Nat.le_succ _⟩
    have a : (kvs.any fun kv => decide (kv.1 = kk q)) = true := by
      have h1 : kk q ∈ kvs.map (·.1) := by rw [d.keys]; exact List.mem_map.mpr ⟨q, m, rfl⟩
      obtain ⟨kv, hkv, e⟩ := List.mem_map.mp h1
      exact List.any_eq_true.mpr ⟨kv, hkv, decide_eq_true e⟩
    unfold putK
    rw [if_pos a, List.map_map, ← d.keys]
    refine List.map_congr_left fun kv _ => ?_
    by_cases e : kv.1 = kk q
    · simp only [Function.comp, if_pos e]
    · simp only [Function.comp, if_neg e]
  · refine ⟨ps ++ [q], ⟨?_, ?_⟩, fun p => by simp, by simp⟩
    · have a : ¬ (kvs.any fun kv => decide (kv.1 = kk q)) = true := fun h => by
        obtain ⟨kv, hkv, e⟩ := List.any_eq_true.mp h
        have h1 : kv.1 ∈ ps.map kk := by rw [← d.keys]; exact List.mem_map.mpr ⟨kv, hkv, rfl⟩
        rw [of_decide_eq_true e] at h1
        obtain ⟨p, hp, e2⟩ := List.mem_map.mp h1
        rw [kk_inj e2] at hp
        exact m hp
      unfold putK
      rw [if_neg a, List.map_append, List.map_append, d.keys]
      rfl
    · exact List.nodup_append.mpr ⟨d.nd, by simp, fun a ha b hb e => by rw [List.mem_singleton.mp hb] at e; exact m (e ▸ ha)⟩
/-- a frame that has all tuples -/
def Full (F H : Hp) : Prop := ∀ t xs, H t = some (.tup xs) → F t = some (.tup xs)
def absb (F H : Hp) : Hp := fun b => match H b with
  | some (.tup xs) => some (.tup xs)
  | _ => F b
theorem absb_tup {F H : Hp} {b : Addr} {xs : List V} (h : H b = some (.tup xs)) : absb F H b = some (.tup xs) := by unfold absb; rw [h]
theorem absb_ne {F H : Hp} {b : Addr} (h : ∀ xs, H b ≠ some (.tup xs)) : absb F H b = F b := by
  unfold absb
  split
  · rename_i xs e; exact absurd e (h xs)
  · rfl
theorem absb_or {F H : Hp} (b : Addr) : (∃ xs, H b = some (.tup xs) ∧ absb F H b = some (.tup xs)) ∨ ((∀ xs, H b ≠ some (.tup xs)) ∧ absb F H b = F b) := by
  by_cases h : ∃ xs, H b = some (.tup xs)
  · obtain ⟨xs, h⟩ := h
    exact .inl ⟨xs, h, absb_tup h⟩
  · have h' : ∀ xs, H b ≠ some (.tup xs) := fun xs e => h ⟨xs, e⟩
    exact .inr ⟨h', absb_ne h'⟩
theorem absb_full {F H : Hp} : Full (absb F H) H := fun _ _ h => absb_tup h
theorem absb_same {F H : Hp} (s : Same F H) : Same (absb F H) H := fun b o e => by
  rcases absb_or (F := F) (H := H) b with ⟨xs, h, e'⟩ | ⟨_, e'⟩
  · rw [e'] at e; rw [h]; exact e
  · rw [e'] at e; exact s _ _ e
theorem absb_sub {F H : Hp} (s : Same F H) : Same F (absb F H) := fun b o e => by
  rcases absb_or (F := F) (H := H) b with ⟨xs, h, e'⟩ | ⟨_, e'⟩
  · rw [e', ← h]; exact s _ _ e
  · rw [e']; exact e
/-- the old frame where there was something, the new heap but for one place elsewhere -/
def lift (F H G : Hp) : Hp := fun b => match H b with
  | some _ => F b
  | none => G b
theorem lift_old {F H G : Hp} {b : Addr} (h : H b ≠ none) : lift F H G b = F b := by
  unfold lift
  split
  · rfl
  · rename_i e; exact absurd e h
theorem lift_new {F H G : Hp} {b : Addr} (h : H b = none) : lift F H G b = G b := by unfold lift; rw [h]
theorem lift_ext {F H F1 H' G : Hp} (s0 : Same F H) (X : Ext M0 F H F1 H') (s : Same G H') : Ext M0 F H (lift F H G) H' := by
  refine ⟨fun b o e => ?_, fun b o e => ?_, X.hh, X.tr, fun b e => lift_old e⟩
  · rw [lift_old (by rw [s0 _ _ e]; simp)]; exact e
  · by_cases h : H b = none
    · rw [lift_new h] at e; exact s _ _ e
    · rw [lift_old h] at e; exact X.fh _ _ (X.ff _ _ e)
theorem lift_pt {F H F1 H' G : Hp} (X : Ext M0 F H F1 H') (fu : Full F H) (s : Same G H') {v : V} {p : Pt} (h : kPt.is G v p) : kPt.is (lift F H G) v p := by
  obtain ⟨t, e, ht⟩ := h
  refine ⟨t, e, ?_⟩
  cases q : H t with
  | none => rw [lift_new q]; exact ht
  | some o =>
    rw [lift_old (by rw [q]; simp)]
    have h1 := X.same _ _ q
    rw [s _ _ ht] at h1
    rw [← Option.some.inj h1] at q
    exact fu _ _ q
structure NamesOf (rs : List Row) (qs : List Pt) : Prop where
  sort : qs.Pairwise lt2
  mem : ∀ p, p ∈ qs ↔ mem rs p
  len : qs.length ≤ 400 * rs.length
def Small (rs : List Row) : Prop := rs.length ≤ 250 ∧ ∀ r ∈ rs, 1 ≤ r.2.1 ∧ r.2.1 ≤ r.2.2 ∧ r.2.2 ≤ 400
def spNames : Sp := fun vs H Q _ => ∃ (F : Hp) (v : V) (rs : List Row), vs = [v] ∧ Same F H ∧ Full F H ∧ (kL kRow).is F v rs ∧ Small rs ∧ RetL M0 F H kPt (NamesOf rs) Q
structure TxN (mg : Str → Option Value) : Prop where
  range : mg "range" = none
  sorted : mg "sorted" = none
theorem mem_take {rs : List Row} {i : Nat} {r : Row} (h : rs[i]? = some r) (p : Pt) : mem (rs.take (i + 1)) p ↔ mem (rs.take i) p ∨ inRow r p := by
  have eT : rs.take (i + 1) = rs.take i ++ [r] := by rw [List.take_add_one, h]; rfl
  rw [eT, mem_append]
  constructor
  · rintro (z | ⟨s, hs, z⟩)
    · exact .inl z
    · rw [List.mem_singleton.mp hs] at z; exact .inr z
  · rintro (z | z)
    · exact .inl z
    · exact .inr ⟨r, List.mem_singleton.mpr rfl, z⟩
section
variable {P : Program} {w : World} {K : PySem.W.Frag} {mg : Str → Option Value} {base : Heap}
theorem ok_law_names {f : Addr} {fd : FuncData} (F0 : Fun K "_law_names" "_law_names" s_law_names f fd) (T : TxN mg) : FnOk P w K mg base CX0 1 f fd ["_law_rows_here"] spNames := by
  refine F0.ok sc_law_names (fun vs H Q E h => ?_) (fun cdv A outer s H vs Q E hr h => ?_)
  · obtain ⟨F, v, rs, rfl, _⟩ := h
    rfl
  · obtain ⟨F, v, rs, rfl, fh, fu, ⟨a, xs, rfl, ha, hp⟩, ⟨hl, hsm⟩, q⟩ := h
    have hu := hu_of hr
    refine ⟨_, pss_cons (ps_set (i := 1) sc_law_names.nd rfl (.inl rfl) pe_dnewT)
      (pss_cons (ps_for PassesOwn.never rfl (pi_list (pv 0))
          (pg_tup rfl (pgs_cons (pg_name (i := 2) sc_law_names.nd rfl (.inl rfl)) (pgs_cons (pg_name (i := 3) sc_law_names.nd rfl (.inl rfl)) (pgs_cons (pg_name (i := 4) sc_law_names.nd rfl (.inl rfl)) pgs_nil))))
        (pss_one (ps_for PassesOwn.never rfl (pi_range2 (by rfl) T.range (pa_cons (pv 3) (pa_cons (pe_op op_add (pv 4) pe_int) pa_nil))) (pg_name (i := 5) sc_law_names.nd rfl (.inl rfl))
          (pss_one (ps_dput hu (pv 1) (pe_tup (pa_cons (pv 2) (pa_cons (pv 5) pa_nil))) pe_bl rfl)))))
      (pss_one (ps_ret (pe_callB (cr_sortedDT (by rfl)) (by rfl) T.sorted (by decide +kernel) (pa_cons (pv 1) pa_nil))))), ?_⟩
    intro d nd
    have fd0 : F d = none := fh.free nd
    refine ⟨_, rfl, a, rfl, ⟨xs, SqL.of ((same_upd nd) _ _ (fh _ _ ha))⟩, for_list (K := K) (a := a) (xs := xs) (fun i σ H1 => ∃ kvs ps y2 y3 y4 y5, σ = [some (.ref a), some (.ref d), y2, y3, y4, y5] ∧ Ext M0 F H F H1 ∧ H1 d = some (.dT kvs) ∧ DKy kvs ps ∧ (∀ p, p ∈ ps ↔ mem (rs.take i) p) ∧ ps.length ≤ 400 * i)
      ⟨[], [], none, none, none, none, rfl, (Ext.refl fh).put (.inl nd) fd0, upd_same, DKy.nil, fun p => ⟨fun h => absurd h (by simp), fun h => absurd h mem_nil⟩, Nat.le_refl _⟩ (fun i σ H1 _ ⟨_, _, _, _, _, _, _, X1, _⟩ => SqL.of (X1.fh _ _ ha)) ?_ ?_⟩
    · rintro i x σ H1 hi ⟨kvs, ps, y2, y3, y4, y5, rfl, X1, hd, hk, hm, hn⟩
      obtain ⟨r, hri, t, rfl, ht⟩ := pr_get hp hi
      obtain ⟨r1, r2, r3⟩ := hsm _ (List.mem_of_getElem? hri)
      have i250 : i < 250 := by
        have := (List.getElem?_eq_some_iff.mp hri).1
        omega
      refine ⟨t, _, rfl, SqT.of (X1.fh _ _ ht), rfl, _, _, rfl, _, _, rfl, _, _, rfl, rfl, ?_⟩
      refine ⟨_, rfl, _, rfl, _, _, rfl, rfl, r.2.1, r.2.2 + 1, rfl, ⟨by omega, by omega, by omega, by omega⟩, for_range (lo := r.2.1) (n := (r.2.2 + 1 - r.2.1).toNat) (fun j σ H' => ∃ kvs ps y5, σ = [some (.ref a), some (.ref d), some (.int r.1), some (.int r.2.1), some (.int r.2.2), y5] ∧ Ext M0 F H F H' ∧ H' d = some (.dT kvs) ∧ DKy kvs ps ∧ (∀ p, p ∈ ps ↔ mem (rs.take i) p ∨ (p.1 = r.1 ∧ r.2.1 ≤ p.2 ∧ p.2 < r.2.1 + (j : Int))) ∧ ps.length ≤ 400 * i + j)
        ⟨kvs, ps, y5, rfl, X1, hd, hk, fun p => by rw [hm p]; exact ⟨.inl, fun z => z.elim id fun z => absurd z (by omega)⟩, hn⟩ ?_ ?_⟩
      · rintro j σ H2 hj ⟨kvs2, ps2, y5', rfl, X2, hd2, hk2, hm2, hn2⟩
        have hj4 : j < 400 := by omega
        refine ⟨_, rfl, _, rfl, _, rfl, (by show 2 ≤ sizeLine; decide), fun k1 nk1 => ?_⟩
        have dk1 : d ≠ k1 := ne_of_none hd2 nk1
        have hd3 : upd H2 k1 (.tup [.int r.1, .int (r.2.1 + (j : Int))]) d = some (.dT kvs2) := by rw [upd_ne dk1]; exact hd2
        obtain ⟨ps3, hk3, hm3, hn3⟩ := hk2.put (r.1, r.2.1 + (j : Int)) (.bl true)
        refine ⟨d, _, rfl, DPut.t (k := kk (r.1, r.2.1 + (j : Int))) hd3 upd_same (by rw [hk2.len, sizeLine_eq]; omega), ?_⟩
        refine ⟨_, ps3, _, rfl, (X2.tmp nk1).put (.inl nd) fd0, upd_same, hk3, fun p => ?_, by omega⟩
        rw [hm3 p, hm2 p]
        constructor
        · rintro ((z | z) | z)
          · exact .inl z
          · exact .inr (by omega)
          · rw [z]; exact .inr ⟨rfl, by simp only; omega, by simp only; omega⟩
        · rintro (z | z)
          · exact .inl (.inl z)
          · by_cases e : p.2 = r.2.1 + (j : Int)
            · exact .inr (Prod.ext z.1 e)
            · exact .inl (.inr (by omega))
      · rintro σ H2 ⟨kvs2, ps2, y5', rfl, X2, hd2, hk2, hm2, hn2⟩
        refine ⟨kvs2, ps2, _, _, _, _, rfl, X2, hd2, hk2, fun p => ?_, by omega⟩
        rw [hm2 p, mem_take hri p]
        refine or_congr Iff.rfl ?_
        unfold inRow
        constructor
        · rintro ⟨z1, z2, z3⟩; exact ⟨z1.symm, z2, by omega⟩
        · rintro ⟨z1, z2, z3⟩; exact ⟨z1.symm, z2, by omega⟩
    · rintro σ H1 ⟨kvs, ps, y2, y3, y4, y5, rfl, X1, hd, hk, hm, hn⟩
      rw [pr_len hp, List.take_length] at hm
      refine ⟨_, rfl, d, kvs, ps, rfl, hd, hk.keys, hk.nd, fun ys qs p hys hperm hsort np => ?_⟩
      have X2 := lift_ext fh X1 (Same.refl H1)
      have X3 := X2.tmp (o := .lst ys) np
      have fp : lift F H H1 p = none := X2.ffree np
      refine q _ _ p ys qs X3 (X1.free np) fp upd_same (pr_mono (fun _ _ z => lift_pt X1 fu (Same.refl H1) z) hys) ⟨hsort, fun p => by rw [hperm.mem_iff, hm p], ?_⟩
      rw [hperm.length_eq]
      have := pr_len hp
      omega
end
end Rw
namespace Rw
open PySem L2
/-! ### names told as rows -/
structure ToldOf (ps : List Pt) (out : List Row) : Prop where
  can : Canon out
  mem : ∀ p, mem out p ↔ p ∈ ps
  len : out.length ≤ ps.length
theorem ToldOf.nil : ToldOf [] [] := ⟨.nil, fun p => ⟨fun h => absurd h mem_nil, fun h => absurd h (by simp)⟩, Nat.le_refl _⟩
theorem ToldOf.behind {ps : List Pt} {out : List Row} {k : Pt} (t : ToldOf ps out) (h : ∀ p ∈ ps, lt2 p k) {r : Row} (hr : r ∈ out) : r.1 < k.1 ∨ (r.1 = k.1 ∧ r.2.2 < k.2) := by
  have m := h _ ((t.mem (r.1, r.2.2)).mp (t.can.last hr))
  unfold lt2 at m
  simp only at m
  omega
theorem ToldOf.grow {ps : List Pt} {init : List Row} {r : Row} {k : Pt} (t : ToldOf ps (init ++ [r])) (h : ∀ p ∈ ps, lt2 p k) (e1 : r.1 = k.1) (e2 : r.2.2 + 1 = k.2) : ToldOf (ps ++ [k]) (init ++ [(k.1, r.2.1, k.2)]) := by
  have hr : r ∈ init ++ [r] := by simp
  have o := t.can.ok r hr
  have pw := List.pairwise_append.mp t.can.ord
  have ci : Canon init := ⟨fun s hs => t.can.ok s (List.mem_append_left _ hs), pw.1⟩
  refine ⟨ci.snoc (by simp only; omega) fun s hs => ?_, fun p => ?_, by have := t.len; simp at this ⊢; omega⟩
  · have b := pw.2.2 s hs r (by simp)
    unfold before at b ⊢
    simp only at b ⊢
    omega
  · have m := t.mem p
    rw [mem_append] at m ⊢
    rw [List.mem_append, List.mem_singleton, ← m]
    have one : Rw.mem [(k.1, r.2.1, k.2)] p ↔ Rw.mem [r] p ∨ p = k := by
      unfold Rw.mem inRow
      simp only [List.mem_singleton, exists_eq_left]
      constructor
      · rintro ⟨a, b, c⟩
        by_cases z : p.2 = k.2
        · exact .inr (Prod.ext a.symm z)
        · exact .inl ⟨by omega, b, by omega⟩
      · rintro (⟨a, b, c⟩ | rfl)
        · exact ⟨by omega, b, by omega⟩
        · exact ⟨rfl, by omega, Int.le_refl _⟩
    rw [one, or_assoc]
theorem ToldOf.more {ps : List Pt} {out : List Row} {k : Pt} (t : ToldOf ps out) (h : ∀ p ∈ ps, lt2 p k) (hn : ∀ init r, out = init ++ [r] → ¬ (r.1 = k.1 ∧ r.2.2 + 1 = k.2)) : ToldOf (ps ++ [k]) (out ++ [(k.1, k.2, k.2)]) := by
  refine ⟨t.can.snoc (Int.le_refl _) fun s hs => ?_, fun p => ?_, by have := t.len; simp; omega⟩
  · have b := t.behind h hs
    unfold before
    simp only
    by_cases e : s.1 = k.1 ∧ s.2.2 + 1 = k.2
    · exfalso
      rcases List.eq_nil_or_concat out with z | ⟨init, r, z⟩
      · rw [z] at hs; simp at hs
      · rw [List.concat_eq_append] at z
        have nr := hn init r z
        rw [z] at hs
        rcases List.mem_append.mp hs with hs | hs
        · have c := t.can.ord
          rw [z] at c
          have q := (List.pairwise_append.mp c).2.2 s hs r (by simp)
          have br := t.behind h (r := r) (by rw [z]; simp)
          have o := t.can.ok r (by rw [z]; simp)
          unfold before at q
          omega
        · rw [List.mem_singleton.mp hs] at e
          exact nr e
    · omega
  · rw [mem_append, List.mem_append, List.mem_singleton, t.mem p]
    refine or_congr Iff.rfl ?_
    unfold Rw.mem inRow
    simp only [List.mem_singleton, exists_eq_left]
    constructor
    · rintro ⟨a, b, c⟩
      exact Prod.ext a.symm (by omega)
    · rintro rfl
      exact ⟨rfl, Int.le_refl _, Int.le_refl _⟩
theorem ixN_last (n : Nat) : ixN (n + 1) (-1) = some n := by
  unfold ixN
  rw [if_neg (by decide), if_pos (by omega)]
  congr 1
  omega
def spTold : Sp := fun vs H Q _ => ∃ (F : Hp) (v : V) (ps : List Pt), vs = [v] ∧ Same F H ∧ (kL kPt).is F v ps ∧ ps.Pairwise lt2 ∧ ps.length ≤ 1000000 ∧ RetL M0 F H kRow (ToldOf ps) Q
theorem pr_concat {α : Type} {R : V → α → Prop} {vs : List V} {xs : List α} {x : α} (h : Paired R vs (xs ++ [x])) : ∃ us u, vs = us ++ [u] ∧ Paired R us xs ∧ R u x := by
  have hl := pr_len h
  rw [List.length_append, List.length_singleton] at hl
  obtain ⟨u, hu, ru⟩ := pr_get' (i := xs.length) (x := x) h (by simp)
  refine ⟨vs.take xs.length, u, ?_, ?_, ru⟩
  · have e : vs.take (xs.length + 1) = vs.take xs.length ++ [u] := by rw [List.take_add_one, hu]; rfl
    rw [← e, ← hl, List.take_length]
  · have := pr_take xs.length h
    rw [List.take_left'] at this
    · exact this
    · rfl
theorem set_last {α : Type} (xs : List α) (x y : α) : (xs ++ [x]).set xs.length y = xs ++ [y] := by
  rw [List.set_append_right _ _ (Nat.le_refl _), Nat.sub_self]
  rfl
section
variable {P : Program} {w : World} {K : PySem.W.Frag} {mg : Str → Option Value} {base : Heap}
theorem ok_law_told_rows {f : Addr} {fd : FuncData} (F0 : Fun K "_law_told_rows" "_law_told_rows" s_law_told_rows f fd) : FnOk P w K mg base CX0 1 f fd ["_law_names_here"] spTold := by
  refine F0.ok sc_law_told_rows (fun vs H Q E h => ?_) (fun cdv A outer s H vs Q E hr h => ?_)
  · obtain ⟨F, v, ps, rfl, _⟩ := h
    rfl
  · obtain ⟨F, v, ps, rfl, fh, ⟨a, xs, rfl, ha, hp⟩, hsort, hl, q⟩ := h
    have hu := hr.units
    refine ⟨_, pss_cons (ps_set (i := 1) sc_law_told_rows.nd rfl (.inl rfl) (pe_lst pa_nil))
      (pss_cons (ps_for PassesOwn.never rfl (pi_list (pv 0)) (pg_tup rfl (pgs_cons (pg_name (i := 2) sc_law_told_rows.nd rfl (.inl rfl)) (pgs_cons (pg_name (i := 3) sc_law_told_rows.nd rfl (.inl rfl)) pgs_nil)))
        (pss_one (ps_if (PW.pt (pw_and (pt_cmpR (op_neD hu) (pv 1) (pe_lst pa_nil) (nomark _))
            (pw_and (pt_cmpR op_eq (pe_ix ix_tup (pe_ix ix_list (pv 1) (pe_un un_neg pe_int) (fun _ _ => rfl)) pe_int (fun _ _ => rfl)) (pv 2) (nomark _))
            (pw_and1 (pt_cmpR op_eq (pe_op op_add (pe_ix ix_tup (pe_ix ix_list (pv 1) (pe_un un_neg pe_int) (fun _ _ => rfl)) pe_int (fun _ _ => rfl)) pe_int) (pv 3) (nomark _))))))
          (pss_one (ps_asg (pe_tup (pa_cons (pv 2) (pa_cons (pe_ix ix_tup (pe_ix ix_list (pv 1) (pe_un un_neg pe_int) (fun _ _ => rfl)) pe_int (fun _ _ => rfl)) (pa_cons (pv 3) pa_nil)))) (pg_sub (pv 1) (pe_un un_neg pe_int) set_list)))
          (pss_one (ps_expr (pe_bm PySem.F.plainAttrs_list PySem.F.slot_list_append PySem.F.type_list_append mt_append (pv 1) (pa_cons (pe_tup (pa_cons (pv 2) (pa_cons (pv 3) (pa_cons (pv 3) pa_nil)))) pa_nil)))))))
      (pss_one (ps_ret (pv 1)))), ?_⟩
    refine ⟨Nat.zero_le _, fun o no => ?_⟩
    have Fo : F o = none := fh.free no
    have X0 : Ext M0 F H F (upd H o (.lst [])) := (Ext.refl fh).tmp no
    have ho0 : upd H o (.lst []) o = some (.lst []) := upd_same
    revert X0 ho0
    generalize upd H o (.lst []) = H0
    intro X0 ho0
    refine ⟨_, rfl, a, rfl, ⟨xs, SqL.of (X0.fh _ _ ha)⟩, for_list (K := K) (a := a) (xs := xs) (fun i σ H' => ∃ F' acc out y2 y3, σ = [some (.ref a), some (.ref o), y2, y3] ∧ Ext M0 F H F' H' ∧ F' o = none ∧ H' o = some (.lst acc) ∧ Paired (kRow.is F') acc out ∧ ToldOf (ps.take i) out)
      ⟨F, [], [], none, none, rfl, X0, Fo, ho0, .nil, ToldOf.nil⟩ (fun i σ H' _ ⟨_, _, _, _, _, _, X, _⟩ => SqL.of (X.fh _ _ (X.ff _ _ ha))) ?_ ?_⟩
    · rintro i x σ H1 hi ⟨F1, acc, out, y2, y3, rfl, X1, fo, ho1, hac, ht⟩
      obtain ⟨k, hk, t, rfl, htk⟩ := pr_get hp hi
      have htk1 := X1.fh _ _ (X1.ff _ _ htk)
      have eT : ps.take (i + 1) = ps.take i ++ [k] := by rw [List.take_add_one, hk]; rfl
      have hik : i < ps.length := (List.getElem?_eq_some_iff.mp hk).1
      have hlt : ∀ p ∈ ps.take i, lt2 p k := fun p hpm => by
        obtain ⟨j, hj, e⟩ := List.getElem_of_mem hpm
        have hji : j < i := by
          have := List.length_take_le i ps
          omega
        rw [List.getElem_take] at e
        have ek : ps[i] = k := by
          have := List.getElem?_eq_getElem hik
          rw [hk] at this
          exact (Option.some.inj this).symm
        rw [← e, ← ek]
        exact List.pairwise_iff_getElem.mp hsort j i (by omega) hik hji
      have la : acc.length ≤ 1000000 := by
        have h1 := List.length_take_le' i ps
        have := ht.len
        rw [pr_len hac]
        omega
      rw [eT]
      refine ⟨t, _, rfl, SqT.of htk1, rfl, _, _, rfl, _, _, rfl, rfl, ?_⟩
      refine ⟨_, rfl, Nat.zero_le _, fun p np => ?_⟩
      have op : o ≠ p := ne_of_none ho1 np
      have X2 := X1.tmp (o := .lst []) np
      have ho2 : upd H1 p (.lst []) o = some (.lst acc) := by rw [upd_ne op]; exact ho1
      refine ⟨dL dRow out, dL dRow [], (enc_L enc_row).dp (X2.frz no fo ho2).fh (kL_new fo hac), (enc_L enc_row).dp (k := kL kRow) (Same.refl _) ⟨p, [], rfl, upd_same, .nil⟩, shaped_rows _, shaped_rows _, ?_⟩
      rw [eqv_rows]
      revert X2 ho2
      generalize upd H1 p (.lst []) = H2
      intro X2 ho2
      by_cases z : ∃ init r, out = init ++ [r] ∧ r.1 = k.1 ∧ r.2.2 + 1 = k.2
      · obtain ⟨init, r, rfl, e1, e2⟩ := z
        obtain ⟨us, u, rfl, hus, tu, rfl, htu⟩ := pr_concat hac
        have lu : us.length = init.length := pr_len hus
        have htu2 := X2.fh _ _ htu
        have ne : (!decide (init ++ [r] = [])) = true := by rw [decide_eq_false (by simp)]; rfl
        rw [ne]
        refine ⟨_, rfl, iteT ?_⟩
        refine ⟨_, rfl, _, rfl, o, _, -1, .ref tu, rfl, rfl, SqL.of ho2, atI_last us _, tu, _, 0, _, rfl, rfl, SqT.of htu2, rfl, _, rfl, rfl, _, rfl, ?_⟩
        rw [decide_eq_true (show V.int r.1 = V.int k.1 by rw [e1])]
        refine iteT ?_
        refine ⟨_, rfl, _, rfl, o, _, -1, .ref tu, rfl, rfl, SqL.of ho2, atI_last us _, tu, _, 2, _, rfl, rfl, SqT.of htu2, rfl, _, _, rfl, rfl, _, rfl, rfl, _, rfl, ?_⟩
        rw [decide_eq_true (show V.int (r.2.2 + 1) = V.int k.2 by rw [e2])]
        refine iteT ?_
        -- found[-1] = (house, found[-1][1], number)
        refine ⟨_, rfl, _, rfl, _, rfl, o, _, -1, .ref tu, rfl, rfl, SqL.of ho2, atI_last us _, tu, _, 1, _, rfl, rfl, SqT.of htu2, rfl, _, rfl, (by show 3 ≤ sizeLine; decide), fun t2 nt2 => ?_⟩
        have ot : o ≠ t2 := ne_of_none ho2 nt2
        refine ⟨_, rfl, _, rfl, o, us ++ [.ref tu], -1, us.length, rfl, rfl, by rw [upd_ne ot]; exact ho2, by rw [List.length_append, List.length_singleton]; exact ixN_last _, ?_⟩
        rw [set_last]
        have fo9 : upd F1 t2 (.tup [.int k.1, .int r.2.1, .int k.2]) o = none := by rw [upd_ne ot]; exact fo
        have sm : Same F1 (upd F1 t2 (.tup [.int k.1, .int r.2.1, .int k.2])) := same_upd (X2.ffree nt2)
        exact ⟨upd F1 t2 (.tup [.int k.1, .int r.2.1, .int k.2]), us ++ [.ref t2], init ++ [(k.1, r.2.1, k.2)], _, _, rfl, (X2.lay nt2).put (.inl no) fo9, fo9, upd_same, pr_snoc (pr_mono (fun _ _ z => kRow.mono sm z) hus) ⟨t2, rfl, upd_same⟩, ht.grow hlt e1 e2⟩
      · have hn : ∀ init r, out = init ++ [r] → ¬ (r.1 = k.1 ∧ r.2.2 + 1 = k.2) := fun init r e q => z ⟨init, r, e, q⟩
        have fin := ht.more hlt hn
        rcases List.eq_nil_or_concat out with c | ⟨init, r, c⟩
        · have ne : (!decide (out = [])) = false := by rw [decide_eq_true c]; rfl
          rw [ne]
          refine ⟨_, rfl, iteF (iteF ?_)⟩
          refine ⟨_, rfl, .inl ⟨rfl, _, SqL.of ho2⟩, _, rfl, _, rfl, _, rfl, (by show 3 ≤ sizeLine; decide), fun t2 nt2 => ?_⟩
          have ot : o ≠ t2 := ne_of_none ho2 nt2
          refine ⟨o, acc, _, rfl, rfl, by rw [upd_ne ot]; exact ho2, by rw [sizeLine_eq]; omega, ?_⟩
          have fo9 : upd F1 t2 (.tup [.int k.1, .int k.2, .int k.2]) o = none := by rw [upd_ne ot]; exact fo
          have sm : Same F1 (upd F1 t2 (.tup [.int k.1, .int k.2, .int k.2])) := same_upd (X2.ffree nt2)
          exact ⟨upd F1 t2 (.tup [.int k.1, .int k.2, .int k.2]), acc ++ [.ref t2], out ++ [(k.1, k.2, k.2)], _, _, rfl, (X2.lay nt2).put (.inl no) fo9, fo9, upd_same, pr_snoc (pr_mono (fun _ _ z => kRow.mono sm z) hac) ⟨t2, rfl, upd_same⟩, fin⟩
        · rw [List.concat_eq_append] at c
          subst c
          have hac' := hac
          obtain ⟨us, u, rfl, hus, tu, rfl, htu⟩ := pr_concat hac
          have htu2 := X2.fh _ _ htu
          have ne : (!decide (init ++ [r] = [])) = true := by rw [decide_eq_false (by simp)]; rfl
          rw [ne]
          refine ⟨_, rfl, iteT ?_⟩
          refine ⟨_, rfl, _, rfl, o, _, -1, .ref tu, rfl, rfl, SqL.of ho2, atI_last us _, tu, _, 0, _, rfl, rfl, SqT.of htu2, rfl, _, rfl, rfl, _, rfl, ?_⟩
          by_cases e1 : r.1 = k.1
          · have e2 : ¬ r.2.2 + 1 = k.2 := fun e2 => hn init r rfl ⟨e1, e2⟩
            rw [decide_eq_true (show V.int r.1 = V.int k.1 by rw [e1])]
            refine iteT ?_
            refine ⟨_, rfl, _, rfl, o, _, -1, .ref tu, rfl, rfl, SqL.of ho2, atI_last us _, tu, _, 2, _, rfl, rfl, SqT.of htu2, rfl, _, _, rfl, rfl, _, rfl, rfl, _, rfl, ?_⟩
            rw [decide_eq_false (show ¬ V.int (r.2.2 + 1) = V.int k.2 from fun z => e2 (V.int.inj z))]
            refine iteF ?_
            refine ⟨_, rfl, .inl ⟨rfl, _, SqL.of ho2⟩, _, rfl, _, rfl, _, rfl, (by show 3 ≤ sizeLine; decide), fun t2 nt2 => ?_⟩
            have ot : o ≠ t2 := ne_of_none ho2 nt2
            refine ⟨o, _, _, rfl, rfl, by rw [upd_ne ot]; exact ho2, by rw [sizeLine_eq]; omega, ?_⟩
            have fo9 : upd F1 t2 (.tup [.int k.1, .int k.2, .int k.2]) o = none := by rw [upd_ne ot]; exact fo
            have sm : Same F1 (upd F1 t2 (.tup [.int k.1, .int k.2, .int k.2])) := same_upd (X2.ffree nt2)
            exact ⟨upd F1 t2 (.tup [.int k.1, .int k.2, .int k.2]), _, _, _, _, rfl, (X2.lay nt2).put (.inl no) fo9, fo9, upd_same, pr_snoc (pr_mono (fun _ _ z => kRow.mono sm z) hac') ⟨t2, rfl, upd_same⟩, fin⟩
          · rw [decide_eq_false (show ¬ V.int r.1 = V.int k.1 from fun z => e1 (V.int.inj z))]
            refine iteF (iteF ?_)
            refine ⟨_, rfl, .inl ⟨rfl, _, SqL.of ho2⟩, _, rfl, _, rfl, _, rfl, (by show 3 ≤ sizeLine; decide), fun t2 nt2 => ?_⟩
            have ot : o ≠ t2 := ne_of_none ho2 nt2
            refine ⟨o, _, _, rfl, rfl, by rw [upd_ne ot]; exact ho2, by rw [sizeLine_eq]; omega, ?_⟩
            have fo9 : upd F1 t2 (.tup [.int k.1, .int k.2, .int k.2]) o = none := by rw [upd_ne ot]; exact fo
            have sm : Same F1 (upd F1 t2 (.tup [.int k.1, .int k.2, .int k.2])) := same_upd (X2.ffree nt2)
            exact ⟨upd F1 t2 (.tup [.int k.1, .int k.2, .int k.2]), _, _, _, _, rfl, (X2.lay nt2).put (.inl no) fo9, fo9, upd_same, pr_snoc (pr_mono (fun _ _ z => kRow.mono sm z) hac') ⟨t2, rfl, upd_same⟩, fin⟩
    · rintro σ H1 ⟨F1, acc, out, y2, y3, rfl, X1, fo, ho1, hac, ht⟩
      rw [pr_len hp, List.take_length] at ht
      exact ⟨_, rfl, q F1 H1 o acc out X1 no fo ho1 hac ht⟩
end
end Rw
namespace Rw
open PySem PySem.Spec PyProof.Rows L2
/-! ### sets of pairs, up to what a table of 128 places bears -/
/-- the hash of a pair, by itself -/
def pairHash (x y : Int) : Int := reduceHash (Builtin.Tuple.tupleHashOf [hashInt x, hashInt y])
theorem pairHash_is (P : Program) (w : World) (x y : Int) : thash P w [x, y] = pairHash x y := rfl
def field : List (Int × Int) := (List.range 3).flatMap fun x : Nat => (List.range 25).map fun y : Nat => ((x : Int), (y : Int) + 1)
def noTwin : List Int → Bool
  | [] => true
  | x :: xs => !(xs.any fun y => decide (x = y)) && noTwin xs
theorem field_apart : noTwin (field.map fun p => pairHash p.1 p.2) = true := by decide +kernel
theorem noTwin_nd : ∀ {xs : List Int}, noTwin xs = true → xs.Nodup
  | [], _ => .nil
  | x :: xs, h => by
    unfold noTwin at h
    rw [Bool.and_eq_true, Bool.not_eq_true'] at h
    refine List.nodup_cons.mpr ⟨fun m => ?_, noTwin_nd h.2⟩
    have := List.any_eq_false.mp h.1 x m
    simp at this
theorem field_mem {x y : Int} (h0 : 0 ≤ x) (h3 : x < 3) (h1 : 1 ≤ y) (h25 : y ≤ 25) : (x, y) ∈ field := by
  refine List.mem_flatMap.mpr ⟨x.toNat, List.mem_range.mpr (by omega), List.mem_map.mpr ⟨(y - 1).toNat, List.mem_range.mpr (by omega), ?_⟩⟩
  exact Prod.ext (by simp only; omega) (by simp only; omega)
/-- the pairs that are spoken of -/
def InField (k : List Int) : Prop := ∃ x y : Int, k = [x, y] ∧ 0 ≤ x ∧ x < 3 ∧ 1 ≤ y ∧ y ≤ 25
theorem nodup_inj {α β : Type} {f : α → β} : ∀ {l : List α}, (l.map f).Nodup → ∀ {a b : α}, a ∈ l → b ∈ l → f a = f b → a = b
  | [], _, _, _, h, _, _ => absurd h (by simp)
  | c :: l, nd, a, b, ha, hb, e => by
    rw [List.map_cons] at nd
    obtain ⟨n1, n2⟩ := List.nodup_cons.mp nd
    rcases List.mem_cons.mp ha with ea | ha2 <;> rcases List.mem_cons.mp hb with eb | hb2
    · rw [ea, eb]
    · exact absurd (List.mem_map.mpr ⟨b, hb2, by rw [← e, ea]⟩) n1
    · exact absurd (List.mem_map.mpr ⟨a, ha2, by rw [e, eb]⟩) n1
    · exact nodup_inj n2 ha2 hb2 e
theorem field_inj (P : Program) (w : World) {k k' : List Int} (h : InField k) (h' : InField k') (e : thash P w k = thash P w k') : k = k' := by
  obtain ⟨x, y, rfl, a1, a2, a3, a4⟩ := h
  obtain ⟨x', y', rfl, b1, b2, b3, b4⟩ := h'
  rw [pairHash_is, pairHash_is] at e
  have z := nodup_inj (noTwin_nd field_apart) (field_mem a1 a2 a3 a4) (field_mem b1 b2 b3 b4) e
  rw [(Prod.mk.inj z).1, (Prod.mk.inj z).2]
/-- a tracked set of pairs of the field -/
structure Big (P : Program) (w : World) (h : Heap) (a : Addr) (L : List (Addr × List Int)) (es : Array (Int × Value)) (ep : Nat) (t : SetTable) : Prop where
  obj : ∃ o, h.get? a = some o ∧ o.ExactSet ∧ o.data = .set es ep t
  ent : es.toList = rowsOf P w L
  lay : TabOk t (L.map fun p => thash P w p.2)
  apart : (L.map (·.2)).Nodup
  elt : ∀ p ∈ L, IsT P w h p.2 p.1
  pl : t.plain = true
  ld : w.params.followText "set-order" = true ∨ t.led = true
  free : L.length * 5 < t.mask * 3
  fld : ∀ p ∈ L, InField p.2
section
variable {P : Program} {w : World} {A : Around} {E : Value → Shared → Prop} {s : Shared} {a : Addr} {L : List (Addr × List Int)} {es : Array (Int × Value)} {ep : Nat} {t : SetTable}
theorem Big.small (B : Big P w s.heap a L es ep t) (h : L.length < 64) : SetTR P w s.heap a L es ep t := ⟨B.obj, B.ent, B.lay, B.apart, B.elt, B.pl, B.ld, B.free, h⟩
theorem Big.of {h : Heap} (R : SetTR P w h a L es ep t) (f : ∀ p ∈ L, InField p.2) : Big P w h a L es ep t := ⟨R.ob, R.rows, R.tab, R.nd, R.tup, R.plain, R.led, R.room, f⟩
theorem Big.most {h : Heap} (B : Big P w h a L es ep t) : t.mask ≤ 127 ∧ L.length ≤ 76 := by
  have r := B.free
  rcases B.lay.mok with e | e | e <;> omega
theorem Big.size {h : Heap} (B : Big P w h a L es ep t) : es.size = L.length := by
  rw [← Array.length_toList, B.ent, rowsOf, List.length_map]
theorem Big.fits {h : Heap} (B : Big P w h a L es ep t) : t.fits es.size = true := by
  have e1 : t.place.size = L.length := by rw [B.lay.sz, List.length_map]
  have e2 := B.size
  have r := B.free
  simp only [SetTable.fits, SetTable.fill, B.lay.dm, Bool.and_eq_true, beq_iff_eq, decide_eq_true_eq]
  have z : (#[] : Array Nat).size = 0 := rfl
  omega
theorem Big.at {h : Heap} (B : Big P w h a L es ep t) {i : Nat} {p : Addr × List Int} (e : L[i]? = some p) : es[i]? = some (thash P w p.2, .ref p.1) := by
  have z : es.toList[i]? = some (thash P w p.2, .ref p.1) := by rw [B.ent, rowsOf, List.getElem?_map, e]; rfl
  rw [← z, Array.getElem?_toList]
theorem Big.stays {h : Heap} (B : Big P w h a L es ep t) : ¬ t.gaveWay = true := by
  have o := mask_odd B.lay.mok
  simp [SetTable.gaveWay, o]
/-- the search: equal hashes are equal pairs, so one look is all -/
theorem Big.search (B : Big P w s.heap a L es ep t) {x : Addr} {k : List Int} (hx : IsT P w s.heap k x) (hk : InField k) (hu : A.units < cLine) {Q : SetFound → Shared → Prop}
    (yes : k ∈ L.map (·.2) → Q (.there none) s)
    (no : ∀ K, k ∉ L.map (·.2) → way t.mask (thash P w k) K ∉ t.place.toList → (∀ c, c < K → way t.mask (thash P w k) c ∈ t.place.toList) → Q (.free (way t.mask (thash P w k) K) false) s) :
    wpAny (model P w) A (setSearch a (.ref x) (thash P w k) true) Q E s := by
  obtain ⟨o, ho, _, hd⟩ := B.obj
  have r := B.free
  obtain ⟨K, k1, k2, k3⟩ := B.lay.first (h := thash P w k) (by rw [List.length_map]; omega)
  have len : t.place.toList.length = L.length := by rw [Array.length_toList, B.lay.sz, List.length_map]
  have key : ∀ {i : Nat} {p : Addr × List Int}, L[i]? = some p → (es[i]?.map (·.1)).getD 0 = thash P w p.2 := fun e => by rw [B.at e]; rfl
  have same : ∀ {i : Nat} {p : Addr × List Int}, L[i]? = some p → (es[i]?.map (·.1)).getD 0 = thash P w k → p.2 = k := fun e h =>
    field_inj P w (B.fld _ (List.mem_of_getElem? e)) hk ((key e).symm.trans h)
  have go := go_spec t B.lay.ris B.lay.dm (fun i => (es[i]?.map (·.1)).getD 0) (thash P w k) (10 * SetTable.turns t.mask) K (runAt t.mask (SetTable.bits (thash P w k) % (t.mask + 1)) (SetTable.bits (thash P w k))) rfl k1 k3 k2
  have met : t.probe (fun i => (es[i]?.map (·.1)).getD 0) (thash P w k) ((none : Option SetTable.Probe).getD (t.probeStart (thash P w k))) = SetTable.probe.go t (fun i => (es[i]?.map (·.1)).getD 0) (thash P w k) (10 * SetTable.turns t.mask) (runAt t.mask (SetTable.bits (thash P w k) % (t.mask + 1)) (SetTable.bits (thash P w k))) := rfl
  rw [setSearch, show (100000 : Nat) = 99999 + 1 from rfl, setSearchFrom_succ]
  refine wpAny_bind (wpAny_setState_of ho hd B.fits ?_)
  dsimp only
  refine wp_if_neg B.stays ?_
  try refine wpAny_bind (wpAny_pure ?_)
  rw [met]
  rcases go with ⟨q, i, _, q2, q3, _, q5⟩ | ⟨n1, n2⟩
  · have hi : i < L.length := by rw [← len]; exact (List.getElem?_eq_some_iff.mp q2).1
    obtain ⟨p, hp⟩ : ∃ p, L[i]? = some p := ⟨_, List.getElem?_eq_getElem hi⟩
    have e := same hp q3
    have hm := List.mem_of_getElem? hp
    rw [q5]
    dsimp only
    have found : wpAny (model P w) A (searchRest a (.ref x) (thash P w k) true 99999 es t (nth t.mask (runAt t.mask (SetTable.bits (thash P w k) % (t.mask + 1)) (SetTable.bits (thash P w k))) q).j i (nth t.mask (runAt t.mask (SetTable.bits (thash P w k) % (t.mask + 1)) (SetTable.bits (thash P w k))) (q + 1))) Q E s := by
      rw [searchRest, B.at hp]
      dsimp only
      refine wpAny_bind (wpAny_holding (wpAny_eqBool_tuple hu (B.elt p hm) hx (wpAny_bind (wpAny_setState_of ho hd B.fits ?_))))
      dsimp only
      exact wp_if_pos (by simp [e]) (wpAny_pure (yes (List.mem_map.mpr ⟨p, hm, e⟩)))
    cases hl : t.led with
    | true => exact wp_if_neg (by simp) found
    | false =>
      refine wp_if_pos (by simp) (wpAny_bind (seen_tup hx (fun y hy => ?_) (wp_if_neg (by decide) found)))
      obtain ⟨u, hu1, hu2⟩ := List.mem_map.mp hy
      have hu3 : u ∈ es.toList := by
        have := (Array.mem_filter.mp (Array.mem_toList_iff.mp hu1)).1
        exact Array.mem_toList_iff.mpr this
      rw [B.ent] at hu3
      obtain ⟨p2, hp2, e2⟩ := List.mem_map.mp hu3
      exact ⟨p2.2, p2.1, by rw [← hu2, ← e2], B.elt p2 hp2⟩
  · rw [n2]
    dsimp only
    refine wpAny_pure (no K (fun m => ?_) k2 k3)
    obtain ⟨p, hp, e⟩ := List.mem_map.mp m
    obtain ⟨i, hi, e0⟩ := List.getElem_of_mem hp
    have hp' : L[i]? = some p := by rw [List.getElem?_eq_getElem hi, e0]
    obtain ⟨j, hj⟩ : ∃ j, t.place.toList[i]? = some j := ⟨_, List.getElem?_eq_getElem (by rw [len]; exact hi)⟩
    obtain ⟨c, c1, c2⟩ := B.lay.before k2 (h := thash P w k) (i := i) (by rw [List.getElem?_map, hp', ← e]; rfl) hj
    exact n1 c i c1 (by rw [hj, ← c2]) (by rw [key hp', e])
end
end Rw
namespace Rw
open PySem PySem.Spec PyProof.Rows L2
theorem field_len : field.length = 75 := by decide +kernel
theorem len_of_nodup : ∀ (l D : List (Int × Int)), l.Nodup → (∀ x ∈ l, x ∈ D) → l.length ≤ D.length := fun l D n h => nodup_sub l D n h
/-- distinct pairs of the field are few -/
theorem infield_few {ks : List (List Int)} (nd : ks.Nodup) (h : ∀ k ∈ ks, InField k) : ks.length ≤ 75 := by
  have z : ((ks.map fun k => (k.getD 0 0, k.getD 1 0)) : List (Int × Int)).Nodup := by
    refine List.pairwise_map.mpr (List.Pairwise.imp_of_mem (fun {a b} ha hb ne e => ne ?_) nd)
    obtain ⟨x, y, rfl, _⟩ := h a ha
    obtain ⟨x', y', rfl, _⟩ := h b hb
    have e1 : x = x' := congrArg Prod.fst e
    have e2 : y = y' := congrArg Prod.snd e
    rw [e1, e2]
  have c := len_of_nodup _ field z fun p hp => by
    obtain ⟨k, hk, rfl⟩ := List.mem_map.mp hp
    obtain ⟨x, y, rfl, a1, a2, a3, a4⟩ := h k hk
    exact field_mem a1 a2 a3 a4
  rw [List.length_map, field_len] at c
  exact c
section
variable {P : Program} {w : World} {A : Around} {E : Value → Shared → Prop} {s : Shared} {a : Addr} {L : List (Addr × List Int)} {es : Array (Int × Value)} {ep : Nat} {t : SetTable}
/-- one pair more -/
theorem Big.add (B : Big P w s.heap a L es ep t) {x : Addr} {k : List Int} (hx : IsT P w s.heap k x) (hk : InField k) (hu : A.units < cLine) {Q : Bool → Shared → Prop}
    (then' : ∀ b h' L' es' ep' t', Heap.SameBut a s.heap h' → Big P w h' a L' es' ep' t' → (k ∈ L.map (·.2) → L' = L) → (k ∉ L.map (·.2) → L'.Perm ((x, k) :: L)) → Q b { s with heap := h' }) :
    wpAny (model P w) A (setAddHashed a (.ref x) (thash P w k)) Q E s := by
  by_cases few : L.length + 1 < 64
  · refine add_at (B.small (by omega)) hx hu few fun b h' L' es' ep' t' sb R c1 c2 => then' b h' L' es' ep' t' sb (Big.of R fun p hp => ?_) c1 c2
    by_cases m : k ∈ L.map (·.2)
    · rw [c1 m] at hp; exact B.fld p hp
    · rcases List.mem_cons.mp ((c2 m).mem_iff.mp hp) with e | hp
      · rw [e]; exact hk
      · exact B.fld p hp
  · have r := B.free
    have m127 : t.mask = 127 := by rcases B.lay.mok with e | e | e <;> omega
    obtain ⟨o, ho, hex, hd⟩ := B.obj
    rw [setAddHashed]
    refine wpAny_holding ?_
    rw [show (100000 : Nat) = 99999 + 1 from rfl, setAddHashedIn_succ]
    refine wpAny_bind (wpAny_setState_of ho hd B.fits ?_)
    dsimp only
    refine wp_if_neg (by simp [byScan, Value.scannable]) (wpAny_bind (B.search hx hk hu (fun m => ?_) fun K m k2 k3 => ?_))
    · exact wpAny_pure (then' false s.heap L es ep t (Heap.SameBut.refl a s.heap) B (fun _ => rfl) fun z => absurd m z)
    · dsimp only
      refine wpAny_bind (wpAny_setState_of ho hd B.fits ?_)
      dsimp only
      obtain ⟨p1, p2, p3, p4, p5, p6, _, _, p9⟩ := B.lay.put k2 k3
      have pl1 : (t.put (way t.mask (thash P w k) K)).1.plain = true := p6.trans B.pl
      have ld1 : w.params.followText "set-order" = true ∨ (t.put (way t.mask (thash P w k) K)).1.led = true := by rw [p5]; exact B.ld
      have bound : L.length + 1 ≤ 75 := by
        have nd : (k :: L.map (·.2)).Nodup := List.nodup_cons.mpr ⟨m, B.apart⟩
        have := infield_few nd fun q hq => by
          rcases List.mem_cons.mp hq with e | hq
          · rw [e]; exact hk
          · obtain ⟨p, hp, rfl⟩ := List.mem_map.mp hq
            exact B.fld p hp
        rw [List.length_cons, List.length_map] at this
        exact this
      have full : ¬ (t.put (way t.mask (thash P w k) K)).1.tooFull = true := fun z => by
        have e : (t.put (way t.mask (thash P w k) K)).1.fill * 5 ≥ (t.put (way t.mask (thash P w k) K)).1.mask * 3 := by simpa [SetTable.tooFull] using z
        rw [p9, p4, List.length_map] at e
        omega
      cases hput : t.put (way t.mask (thash P w k) K) with
      | mk t1 pos =>
        rw [hput] at p1 p3 p4 pl1 ld1 full
        dsimp only at p1 p3 p4 pl1 ld1 full ⊢
        rw [← p1] at p2 p3
        -- the rows with the new one at its place
        have perm : (L.take pos ++ (x, k) :: L.drop pos).Perm ((x, k) :: L) := put_perm L pos (x, k)
        have num : (L.take pos ++ (x, k) :: L.drop pos).length = L.length + 1 := by rw [perm.length_eq, List.length_cons]
        have ent1 : (SetTable.insertAt es pos (thash P w k, Value.ref x)).toList = rowsOf P w (L.take pos ++ (x, k) :: L.drop pos) := by
          rw [rows_put, ← B.ent]; exact SetTable.toList_insertAt ..
        have lay1 : TabOk t1 ((L.take pos ++ (x, k) :: L.drop pos).map fun p => thash P w p.2) := by
          rw [List.map_append, List.map_cons, List.map_take, List.map_drop]; exact p3
        have apart1 : ((L.take pos ++ (x, k) :: L.drop pos).map (·.2)).Nodup := (perm.map (·.2)).nodup_iff.mpr (List.nodup_cons.mpr ⟨m, B.apart⟩)
        have size1 : (SetTable.insertAt es pos (thash P w k, Value.ref x)).size = L.length + 1 := by
          rw [← Array.length_toList, ent1, rowsOf, List.length_map, num]
        revert perm num ent1 lay1 apart1 size1
        generalize L.take pos ++ (x, k) :: L.drop pos = L1
        generalize SetTable.insertAt es pos (thash P w k, Value.ref x) = es1
        intro perm num ent1 lay1 apart1 size1
        have sb : Heap.SameBut a s.heap (s.heap.update a (Obj.putSet es1 t1)) := Heap.SameBut.update ..
        have last : Q true { s with heap := s.heap.update a (Obj.putSet es1 t1) } := by
          refine then' true _ L1 es1 (ep + 1) t1 sb ⟨⟨_, store_at (es' := es1) (t' := t1) ho hd, hex, rfl⟩, ent1, lay1, apart1, fun p hp => ?_, pl1, ld1, by rw [num, p4]; omega, fun p hp => ?_⟩ (fun z => absurd z m) fun _ => perm
          · rcases List.mem_cons.mp (perm.mem_iff.mp hp) with e | hp
            · rw [e]; exact isT_same hx ho hd sb
            · exact isT_same (B.elt p hp) ho hd sb
          · rcases List.mem_cons.mp (perm.mem_iff.mp hp) with e | hp
            · rw [e]; exact hk
            · exact B.fld p hp
        refine wp_if_pos pl1 (wpAny_bind (hashBy_tup hx ?_))
        simp only [if_true, full]
        refine wpAny_bind (wpAny_storeSet_of ho hd ?_ (by rw [size1, sizeLine_eq]; omega))
        exact wp_if_neg (by simp) (wpAny_pure last)
end
end Rw
namespace Rw
open PySem PySem.Spec PyProof.Rows L2
section
variable {P : Program} {w : World} {A : Around} {E : Value → Shared → Prop} {s : Shared}
theorem Big.held {h h' : Heap} {a : Addr} {L : List (Addr × List Int)} {es : Array (Int × Value)} {ep : Nat} {t : SetTable} (B : Big P w h a L es ep t) (ha : ∀ o, h.get? a = some o → h'.get? a = some o) (ht : ∀ p ∈ L, IsT P w h' p.2 p.1) : Big P w h' a L es ep t := by
  obtain ⟨o, e, z⟩ := B.obj
  exact ⟨⟨o, ha o e, z⟩, B.ent, B.lay, B.apart, ht, B.pl, B.ld, B.free, B.fld⟩
theorem Big.fresh {h : Heap} {a : Addr} (e : h.get? a = some { cls := .type "set", dict := none, data := .set #[] 0 (.fresh 0 0 (!w.params.followText "set-order")) }) : Big P w h a [] #[] 0 (.fresh 0 0 (!w.params.followText "set-order")) :=
  Big.of (setTR_fresh e) fun p hp => absurd hp (by simp)
/-- all items of a walk go into the set -/
theorem Big.loop {I : Addr} {fp wr : List Addr} {G : Array GenState → Array GenState → Prop} {n : Nat} {Pv : Nat → Value → Prop} {St : Nat → Shared → Prop} {R : Result → Shared → Prop} (W : WalksS P w A.in1 I fp wr G n Pv St) {S : Addr} (out : S ∉ fp)
    {ks : List (Addr × List Int)} (hn : n = ks.length) (val : ∀ i v, Pv i v → ∃ p, ks[i]? = some p ∧ v = .ref p.1) {h0 : Heap} (tup : ∀ p ∈ ks, IsT P w h0 p.2 p.1) (fld : ∀ p ∈ ks, InField p.2) (S0 : h0.get? S = none) (w0 : ∀ b ∈ wr, h0.get? b = none) (hu : A.in1.units < cLine) :
    ∀ (left i : Nat) (s : Shared), i + left = n → St i s → (∀ b o, h0.get? b = some o → s.heap.get? b = some o) → ∀ (L : List (Addr × List Int)) (es : Array (Int × Value)) (ep : Nat) (t : SetTable), Big P w s.heap S L es ep t → Got ks i L →
      (∀ s' L es ep t, Moved (S :: wr) G s s' → Big P w s'.heap S L es ep t → Got ks n L → (∀ b o, h0.get? b = some o → s'.heap.get? b = some o) → R (.ok (.ret .none)) s') →
      codeAny (model P w) A (.builtin "set.update.loop" ⟨[.ref S, .ref I], []⟩) R s := by
  have off : S ∉ wr := fun z => out (W.sub _ z)
  have wide : ∀ b ∈ wr, b ∈ S :: wr := fun b z => List.mem_cons_of_mem _ z
  have keeps : ∀ {s s' : Shared}, Moved wr G s s' → (∀ b o, h0.get? b = some o → s.heap.get? b = some o) → ∀ b o, h0.get? b = some o → s'.heap.get? b = some o := fun mv old b o e =>
    mv.heap b o (fun z => by rw [w0 b z] at e; cases e) (old b o e)
  intro left
  induction left with
  | zero =>
    intro i s hi st old L es ep t B g fin
    have e : i = n := by omega
    refine codeAny_builtin F.entry_set_update_loop ?_
    rw [Around.under_plainId F.plain_set_update_loop]
    show wpAny (model P w) A.in1 (pyNext (.ref I) >>= _) _ _ s
    refine wpAny_bind (W.done s _ _ (e ▸ st) fun s' mv => wpAny_pure (fin s' L es ep t (mv.mono wide) (B.held (fun o z => mv.heap S o off z) fun p hp => isT_keep (tup p ?_) (keeps mv old)) (e ▸ g) (keeps mv old)))
    exact List.mem_of_mem_take (g.sub p hp)
  | succ left ih =>
    intro i s hi st old L es ep t B g fin
    refine codeAny_builtin F.entry_set_update_loop ?_
    rw [Around.under_plainId F.plain_set_update_loop]
    show wpAny (model P w) A.in1 (pyNext (.ref I) >>= _) _ _ s
    refine wpAny_bind (W.item i s _ _ (by omega) st fun v s' pv st' mv => ?_)
    obtain ⟨p, hp, rfl⟩ := val i v pv
    have pm := List.mem_of_getElem? hp
    have old' := keeps mv old
    have B' : Big P w s'.heap S L es ep t := B.held (fun o z => mv.heap S o off z) fun q hq => isT_keep (tup q (List.mem_of_mem_take (g.sub q hq))) old'
    have hx : IsT P w s'.heap p.2 p.1 := isT_keep (tup p pm) old'
    show wpAny (model P w) A.in1 (holding [Value.ref p.1] (setAdd S (.ref p.1)) >>= _) _ _ s'
    rw [setAdd]
    refine wpAny_bind (wpAny_holding (wpAny_holding (wpAny_bind (wpAny_pyHash_tuple hu hx ?_))))
    refine Big.add (s := { s' with toks := s'.toks + (p.2.length + 1) }) B' hx (fld p pm) hu fun b h' L' es' ep' t' sb B2 c1 c2 => wpAny_pure ⟨plainId_quiet F.plain_set_update_loop _, ?_⟩
    have g' : Got ks (i + 1) L' := by
      by_cases c : p.2 ∈ L.map (·.2)
      · rw [c1 c]; exact g.same hp c
      · exact g.more hp (c2 c)
    have apartS : ∀ b, b ≠ S → h'.get? b = s'.heap.get? b := fun b z => sb.2 b z
    refine ih (i + 1) _ (by omega) (W.frame _ s' _ _ st' (Nat.le_add_right _ _) fun b hb o e => (apartS b fun z => out (z ▸ hb)).trans e) (fun b o e => (apartS b fun z => by rw [z, S0] at e; cases e).trans (old' b o e)) L' es' ep' t' B2 g' fun s2 L2 es2 ep2 t2 mv2 B3 g3 old3 => ?_
    refine fin s2 L2 es2 ep2 t2 (Moved.trans W.gtrans ((mv.mono wide).then_heap (Nat.le_add_right _ _) fun b o hb e => (apartS b fun z => hb (z ▸ List.mem_cons_self)).trans e) mv2) B3 g3 old3
end
end Rw
namespace Rw
open PySem PySem.Spec PyProof.Rows L2
section
variable {P : Program} {w : World} {A : Around} {E : Value → Shared → Prop} {s : Shared}
/-- the object of a set that was just made -/
abbrev setObj (w : World) : Obj := { cls := .type "set", dict := none, data := .set #[] 0 (.fresh 0 0 (!w.params.followText "set-order")) }
set_option maxHeartbeats 3200000 in
/-- set(xs), xs a list of pairs of the field -/
theorem call_setBig {l : Addr} {items : Array Value} {ks : List (Addr × List Int)} {Q : Value → Shared → Prop} (calm : A.handled = none) (isl : s.heap.IsList l items) (eq : items.toList = ks.map fun p => Value.ref p.1)
    (tup : ∀ p ∈ ks, IsT P w s.heap p.2 p.1) (fld : ∀ p ∈ ks, InField p.2) (hu : A.units + 3 < cLine)
    (fin : ∀ (h' : Heap) (tk : Nat) L es ep t, Big P w h' s.heap.objs.size L es ep t → Got ks ks.length L → (∀ b o, s.heap.get? b = some o → h'.get? b = some o) → Q (.ref s.heap.objs.size) { s with heap := h', toks := tk }) :
    wpAny (model P w) A (call (.type "set") [.ref l]) Q E s := by
  have num : items.size = ks.length := by rw [← Array.length_toList, eq, List.length_map]
  obtain ⟨c0, tl0, hmro⟩ := F.called_set.mro
  have hmade := F.called_set.made
  have hsub := F.called_set.sub
  have hnt := F.called_set.notType
  have hcc := F.called_set.canCreate
  have htc := F.typeCall_set_1 (.ref l)
  refine wpAny_call (codeAny_of_tree (?_ : wpAny _ _ (callAny (.type "set") _) _ _ _))
  refine wpAny_pure ⟨Code.quiet_builtin _ (by decide +kernel), codeAny_builtin F.entry_type_call (?_)⟩
  rw [Around.under_plain (weight_type_call_type "set" [.ref l] []) rfl]
  repeat (any_goals (first | assumption | wp_step))
  refine codeAny_mono (code_set_led1 (.ref l) (E := E) (Q₁ := fun u s1 => u = .ref s.heap.objs.size ∧ s1 = { s with heap := s.heap.push (setObj w) }) ⟨rfl, rfl⟩) fun r s1 hr => ?_
  rcases r with e | fl
  · exact hr
  cases fl with
  | next => exact hr.elim
  | brk => exact hr.elim
  | cont => exact hr.elim
  | ret u =>
    obtain ⟨rfl, rfl⟩ := hr
    have new : (s.heap.push (setObj w)).get? s.heap.objs.size = some (setObj w) := Heap.get?_push_size _ rfl
    have isS : Shared.TypeIs { s with heap := s.heap.push (setObj w) } (.ref s.heap.objs.size) "set" := ⟨_, new, rfl⟩
    have hli := F.called_set.init.lookup
    have hbi := F.called_set.init.bind (.ref s.heap.objs.size)
    repeat (any_goals (first | assumption | wp_step))
    refine codeAny_mono (codeAny_call_builtin (R := wants (fun u s2 => u = .none ∧ ∃ h' tk L es ep t, s2 = { s with heap := h', toks := tk } ∧ Big P w h' s.heap.objs.size L es ep t ∧ Got ks ks.length L ∧ (∀ b o, s.heap.get? b = some o → h'.get? b = some o)) E)
      F.called_set.init.plain F.entry_set_init (check_set_init_1 isS ?_)) fun r2 s2 hr2 => ?_
    · -- set.__init__ goes through the list
      obtain ⟨lo, hlo, lc, n, ld⟩ := isl
      obtain ⟨lcls, ldict, ldata, lslots⟩ := lo
      simp only at lc ld
      subst lc ld
      have hls := F.sub_list_set
      have hlf := F.sub_list_frozenset
      have hne : (Value.type "list" == Value.type "dict") = false := by decide
      have hol : (s.heap.push (setObj w)).get? l = some { cls := .type "list", dict := ldict, data := .seq items n, slots := lslots } := Heap.get?_push_of_some _ hlo
      have isl1 : (s.heap.push (setObj w)).IsList l items := ⟨_, hol, rfl, n, rfl⟩
      unfold Builtin.«set.__init__» noKeywords Builtin.Frozenset.updateFrom
      generalize hIt : pyIter = It
      wp_walk
      subst hIt
      refine wpAny_pyIter_list isl1 (wpAny_bind (wpAny_runValue ?_))
      have small : l < s.heap.objs.size := Heap.lt_size hlo
      have calm3 : A.in1.in1.in1.handled = none := by simp [calm]
      have sz : (s.heap.push (setObj w)).objs.size = s.heap.objs.size + 1 := Heap.size_push ..
      have none_at : ∀ b, s.heap.objs.size ≤ b → s.heap.get? b = none := fun b hb => by
        cases q : s.heap.get? b with
        | none => rfl
        | some o => exact absurd (Nat.lt_of_lt_of_le (Heap.lt_size q) hb) (Nat.lt_irrefl _)
      refine Big.loop (ks := ks) (h0 := s.heap) ((Walks.list calm3 _ l (by rw [sz]; exact Nat.ne_of_lt (Nat.lt_succ_of_lt small)) items).toS) (S := s.heap.objs.size) (fun z => by rw [sz] at z; rcases List.mem_cons.mp z with z | z; exact Nat.ne_of_lt (Nat.lt_succ_self _) z; exact Nat.ne_of_gt small (List.mem_singleton.mp z)) num (fun i v hv => ?_) tup fld (none_at _ (Nat.le_refl _)) (fun b hb => none_at b (by rw [List.mem_singleton.mp hb, sz]; exact Nat.le_succ _)) hu items.size 0 _ (Nat.zero_add _)
        ⟨⟨_, Heap.get?_push_size _ rfl, rfl, rfl⟩, isl1.push _⟩ (fun b o e => Heap.get?_push_of_some _ (Heap.get?_push_of_some _ e)) [] #[] 0 _ (Big.fresh (Heap.get?_push_of_some _ new)) (Got.zero ks) fun s' L es ep t mv B g old => ?_
      · have q : items.toList[i]? = some v := by rw [Array.getElem?_toList]; exact hv
        rw [eq, List.getElem?_map] at q
        cases hq : ks[i]? with
        | none => rw [hq] at q; cases q
        | some p => rw [hq] at q; exact ⟨p, rfl, (Option.some.inj q).symm⟩
      · obtain ⟨h', g2, d', tk', os'⟩ := s'
        have eg : g2 = s.gens := mv.gens
        have ed : d' = s.drawn := mv.drawn
        have eo : os' = s.os := mv.os
        subst eg ed eo
        rw [num] at g
        show wpAny _ _ _ _ _ _
        refine wpAny_pure (?_ : wpAny _ _ (ret Value.none) _ _ _)
        exact wpAny_pure ⟨rfl, h', tk', L, es, ep, t, rfl, B, g, old⟩
    · rcases r2 with e | fl2
      · exact hr2
      cases fl2 with
      | next => exact hr2.elim
      | brk => exact hr2.elim
      | cont => exact hr2.elim
      | ret u =>
        obtain ⟨rfl, h', tk, L, es, ep, t, rfl, B, g, old⟩ := hr2
        repeat (any_goals (first | assumption | wp_step))
        exact fin _ _ _ _ _ _ B g old
end
end Rw
namespace Rw
open PySem PySem.Spec PyProof.Rows L2
section
variable {P : Program} {w : World} {A : Around} {E : Value → Shared → Prop} {s : Shared}
/-- sorted(set) -/
theorem sorted_big {a : Addr} {L : List (Addr × List Int)} {es : Array (Int × Value)} {ep : Nat} {t : SetTable} {k : Value → Int × Int} {Q : Value → Shared → Prop} (B : Big P w s.heap a L es ep t) (calm : A.handled = none)
    (pairs : ∀ p ∈ L, Srt.IsPair s.heap (.ref p.1) (k (.ref p.1)).1 (k (.ref p.1)).2)
    (fin : ∀ (s' : Shared) (h1 : Heap) (e : Addr) (vs out : List Value), SrtO.Srtd (fun v u => SrtO.lexB (k v) (k u)) out → SrtO.Stb (fun v u => SrtO.lexB (k v) (k u)) out vs → vs.Perm (L.map fun p => Value.ref p.1) → s'.gens = s.gens → s'.os = s.os →
      (∀ b o, s.heap.get? b = some o → s'.heap.get? b = some o) → s.heap.objs.size ≤ e → (∃ n, s'.heap.get? e = some (seqObj "list" out.toArray n)) → Q (.ref e) s') :
    wpAny (model P w) A (call (.builtin "sorted") [.ref a]) Q E s := by
  obtain ⟨o, ho, hex, hd⟩ := B.obj
  have few := B.most.2
  have size := B.size
  refine Calls.call_function_entry kind_sorted plain_sorted entry_sorted (args_sorted1 _) (?_ : wpAny _ _ (Builtin.«sorted» _) _ _ _)
  unfold Builtin.«sorted»
  refine wpAny_bind (m := checkCount "sorted" 1 1 _) (wpAny_pure (wpAny_bind (collect_set (A := A.in1) calm ⟨o, ho, hex.1, hd⟩ B.fits (by rw [size]; unfold scanBound; omega) B.lay.ris B.ld fun s1 vs k1 le g1 o1 pm => ?_)))
  have ev : es.toList.map (·.2) = L.map fun p => Value.ref p.1 := by rw [B.ent, rowsOf, List.map_map]; rfl
  rw [ev] at pm
  have num : vs.length ≤ 76 := by rw [pm.length_eq, List.length_map]; exact few
  have fit : vs.length ≤ sizeLine := by rw [sizeLine_eq]; omega
  refine wpAny_bind (wpAny_newList (?_ : wpAny _ _ _ _ _ { s1 with heap := s1.heap.push (seqObj "list" vs.toArray 0) }) fit)
  have lst : (s1.heap.push (seqObj "list" vs.toArray 0)).get? s1.heap.objs.size = some (seqObj "list" vs.toArray 0) := Heap.get?_push_size _ rfl
  have old : ∀ b o, s.heap.get? b = some o → (s1.heap.push (seqObj "list" vs.toArray 0)).get? b = some o := fun b o q => Heap.get?_push_of_some _ (k1 b o q)
  refine wpAny_bind (wpAny_holding (wpAny_call_entry slot_list_sort ⟨_, lst, rfl⟩ entry_list_sort
    (SrtO.list_sort_ord (s := { s1 with heap := s1.heap.push (seqObj "list" vs.toArray 0) }) (SrtO.swo_lex k) lst fit (fun h2 => ?_) fun out a1 a2 => ⟨_, rfl, ?_⟩) (args_list_sort _)))
  · refine SrtO.pairs_sortableO (s := { s1 with heap := s1.heap.push (seqObj "list" vs.toArray 0) }) (by omega) (fun v hm => ?_) fun o e' => ?_
    · obtain ⟨p, hp, rfl⟩ := List.mem_map.mp (pm.mem_iff.mp hm)
      exact (pairs p hp).keeps fun b o e _ => old b o e
    · cases e'.symm.trans lst
      exact fun c => absurd (Value.type.inj c) (by decide)
  · have at' := sortedHeap_at (vs := vs) (out := out.toArray) lst
    refine wpAny_pure ⟨_, rfl, fin { s1 with heap := sortedHeap (s1.heap.push (seqObj "list" vs.toArray 0)) s1.heap.objs.size vs out.toArray } s1.heap s1.heap.objs.size vs out a1 a2 pm g1 o1 (fun b o q => ?_) le at'⟩
    have lt := Heap.lt_size (k1 b o q)
    rw [sortedHeap_old (Nat.ne_of_lt lt) (by rw [size_push']; exact Nat.lt_succ_of_lt lt)]
    exact old b o q
end
/-- the set at a without its tuples -/
structure Bare (P : Program) (w : World) (h : Heap) (a : Addr) (L : List (Addr × List Int)) : Prop where
  ex : ∃ (es : Array (Int × Value)) (ep : Nat) (t : SetTable) (h0 : Heap), Big P w h0 a L es ep t ∧ ∃ o, h.get? a = some o ∧ o.ExactSet ∧ o.data = .set es ep t
theorem Bare.of {P : Program} {w : World} {h : Heap} {a : Addr} {L : List (Addr × List Int)} {es : Array (Int × Value)} {ep : Nat} {t : SetTable} (B : Big P w h a L es ep t) : Bare P w h a L := ⟨es, ep, t, h, B, B.obj⟩
theorem Bare.full {P : Program} {w : World} {h : Heap} {a : Addr} {L : List (Addr × List Int)} (R : Bare P w h a L) (tup : ∀ p ∈ L, IsT P w h p.2 p.1) : ∃ es ep t, Big P w h a L es ep t := by
  obtain ⟨es, ep, t, h0, B, o⟩ := R.ex
  exact ⟨es, ep, t, o, B.ent, B.lay, B.apart, tup, B.pl, B.ld, B.free, B.fld⟩
def BigO (P : Program) (w : World) (a : Addr) (L : List (Addr × List Int)) : HO := .ext fun h => Bare P w h a L
theorem bigO_new {P : Program} {w : World} {H : Hp} {h : Heap} {a : Addr} {L : List (Addr × List Int)} (R : Bare P w h a L) : ObjOk P w H h a (BigO P w a L) := by
  obtain ⟨es, ep, t, h0, B, o, ho, r⟩ := id R.ex
  refine ⟨R, ⟨o, ho⟩, fun h1 h2 p k => ?_⟩
  obtain ⟨es', ep', t', h0', B', o', ho', r'⟩ := Bare.ex p
  exact ⟨es', ep', t', h0', B', o', k o' ho', r'⟩
section
variable {X : Cx}
def rSetBig (K : PySem.W.Frag) (P : Program) (w : World) : List V → Hp → VK → Prop := fun xs H Q => ∃ (l : Addr) (ks : List (Addr × List Int)), xs = [V.ref l] ∧ SqL K H l (ks.map fun p => V.ref p.1) ∧ (∀ p ∈ ks, SqT K H p.1 (p.2.map V.int)) ∧ (∀ p ∈ ks, InField p.2) ∧
  ∀ a L, H a = none → (∀ p ∈ L, p ∈ ks) → (∀ p ∈ ks, p.2 ∈ L.map (·.2)) → Q (.ref a) (upd H a (BigO P w a L))
theorem cr_setBig (hc : X.calm = true) (hu : X.A.units + 64 < cLine) : CallR X (.type "set") (rSetBig X.K X.prog X.w) := by
  intro pins s σ H xs us Q I r h
  obtain ⟨l, ks, rfl, hl, tup, fld, q⟩ := h
  rw [Vals.ref1 r]
  obtain ⟨its, rv, pl, _⟩ := I.list hl
  have new : H s.heap.objs.size = none := I.hok.fresh (Nat.le_refl _)
  refine call_setBig (P := X.prog) (w := X.w) (ks := ks) (I.ok.hd hc) pl.isList (by simpa using refs_of_vals rv) (fun p hp => I.isT (tup p hp)) fld (by omega) fun h' tk L es ep t B g old => ?_
  exact ⟨.ref s.heap.objs.size, _, I.laid (t' := tk) old (Nat.le_refl _) (bigO_new (Bare.of B)), rfl, q _ L new (fun p hp => List.mem_of_mem_take (g.sub p hp)) fun p hp => g.all p (by rw [List.take_length]; exact hp)⟩
def rSortBig (P : Program) (w : World) : List V → Hp → VK → Prop := fun vs H Q => ∃ (a : Addr) (L : List (Addr × List Int)), vs = [V.ref a] ∧ H a = some (BigO P w a L) ∧ (∀ p ∈ L, ∃ q : Pt, p.2 = [q.1, q.2] ∧ kPt.is H (.ref p.1) q) ∧
  ∀ (ys : List V) (qs : List Pt) (p : Addr), Paired (kPt.is H) ys qs → qs.Pairwise lt2 → (∀ q : Pt, q ∈ qs ↔ [q.1, q.2] ∈ L.map (·.2)) → (∀ y ∈ ys, ∃ p ∈ L, y = V.ref p.1) → H p = none → Q (.ref p) (upd H p (.lst ys))
theorem cr_sortBig (hc : X.calm = true) : CallR X (.builtin "sorted") (rSortBig X.prog X.w) := by
  intro pins s σ H xs us Q I r h
  obtain ⟨a, L, rfl, ha, pts, q⟩ := h
  rw [Vals.ref1 r]
  have isq : ∀ p ∈ L, SqT X.K H p.1 (p.2.map V.int) := fun p hp => by
    obtain ⟨z, e, t, e', ht⟩ := pts p hp
    cases e'
    rw [e]
    exact SqT.of ht
  have R : Bare X.prog X.w s.heap a L := (I.hok a _ ha).1
  obtain ⟨es, ep, t, B⟩ := R.full fun p hp => I.isT (isq p hp)
  have back : ∀ p ∈ L, kPt.is H (.ref p.1) (ptOf H (backV (.ref p.1))) := fun p hp => by
    obtain ⟨z, _, hz⟩ := pts p hp
    have e : ptOf H (backV (Value.ref p.1)) = z := ptOf_eq hz
    rw [e]; exact hz
  refine sorted_big (k := fun u => ptOf H (backV u)) B (I.ok.hd hc) (fun p hp => isPair_of I (back p hp)) fun s' h1 e vs out a1 a2 pm g o old le at' => ?_
  have new : H e = none := I.hok.fresh le
  have refs : ∀ u ∈ out, ∃ p ∈ L, u = Value.ref p.1 := fun u hu => by
    obtain ⟨p, hp, e⟩ := List.mem_map.mp (pm.mem_iff.mp (a2.perm.mem_iff.mp hu))
    exact ⟨p, hp, e.symm⟩
  have perm : (out.map backV).Perm (L.map fun p => V.ref p.1) := by
    have z := (a2.perm.trans pm).map backV
    rw [List.map_map] at z
    exact z
  have hpp : Paired (kPt.is H) (L.map fun p => V.ref p.1) (L.map fun p => ptOf H (backV (.ref p.1))) := by
    have z : ∀ M : List (Addr × List Int), (∀ p ∈ M, p ∈ L) → Paired (kPt.is H) (M.map fun p => V.ref p.1) (M.map fun p => ptOf H (backV (.ref p.1))) := by
      intro M
      induction M with
      | nil => exact fun _ => .nil
      | cons p M ih => exact fun h => .cons (back p (h p List.mem_cons_self)) (ih fun q hq => h q (List.mem_cons_of_mem _ hq))
    exact z L fun _ h => h
  have key : ∀ p ∈ L, p.2 = [(ptOf H (backV (.ref p.1))).1, (ptOf H (backV (.ref p.1))).2] := fun p hp => by
    obtain ⟨z, e, hz⟩ := pts p hp
    rw [e, show ptOf H (backV (Value.ref p.1)) = z from ptOf_eq hz]
  have nd : (L.map fun p => ptOf H (backV (.ref p.1))).Nodup := by
    refine List.pairwise_map.mpr (List.Pairwise.imp_of_mem (fun {p q} hp hq ne e => ne ?_) (List.pairwise_map.mp B.apart))
    rw [key p hp, key q hq, e]
  have st : SrtO.Stb (ltP (ptOf H)) (out.map backV) (vs.map backV) := SrtO.Stb.map (ltP_swo (ptOf H)) backV a2
  have hpp2 : Paired (kPt.is H) (vs.map backV) ((vs.map backV).map (ptOf H)) := pr_of_all fun v hv => by
    obtain ⟨u, hu, rfl⟩ := List.mem_map.mp hv
    obtain ⟨p, hp, e⟩ := List.mem_map.mp (pm.mem_iff.mp hu)
    rw [← e]
    exact back p hp
  have pmv : ((vs.map backV).map (ptOf H)).Perm (L.map fun p => ptOf H (backV (.ref p.1))) := by
    have z := (pm.map backV).map (ptOf H)
    rw [List.map_map, List.map_map, List.map_map] at z
    rw [List.map_map]
    exact z
  obtain ⟨qs, b1, b2, b3⟩ := sorted_pts hpp2 (pmv.nodup_iff.mpr nd) (SrtO.srtd_map a1) st
  have memq : ∀ z : Pt, z ∈ qs ↔ [z.1, z.2] ∈ L.map (·.2) := fun z => by
    rw [b2.mem_iff, pmv.mem_iff]
    constructor
    · intro h
      obtain ⟨p, hp, e⟩ := List.mem_map.mp h
      exact List.mem_map.mpr ⟨p, hp, by rw [key p hp, e]⟩
    · intro h
      obtain ⟨p, hp, e⟩ := List.mem_map.mp h
      rw [key p hp] at e
      injection e with e1 e2
      injection e2 with e2 _
      exact List.mem_map.mpr ⟨p, hp, Prod.ext e1 e2⟩
  obtain ⟨n, hob⟩ := at'
  have len : (out.map backV).length ≤ sizeLine := by
    rw [perm.length_eq, List.length_map, sizeLine_eq]
    have := B.most.2
    omega
  have hv : Vals (out.map backV) out := vals_back fun u hu => by
    obtain ⟨p, _, e⟩ := refs u hu
    exact ⟨p.1, e⟩
  have es' : s' = { s with heap := s'.heap, gens := s'.gens, drawn := s'.drawn, toks := s'.toks } := by
    cases s'; cases s; cases o; rfl
  rw [es']
  have J : Inv X pins σ (upd H e (.lst (out.map backV))) { s with heap := s'.heap, gens := s'.gens, drawn := s'.drawn, toks := s'.toks } :=
    I.call (ch := []) (Un.laid old le new) (I.hok.laid old le ⟨len, out, n, hv, hob⟩) (by rw [g]; exact I.bare) fun _ z => nomatch z
  refine ⟨.ref e, _, J, rfl, q (out.map backV) qs e b1 b3 memq (fun y hy => ?_) new⟩
  obtain ⟨u, hu, rfl⟩ := List.mem_map.mp hy
  obtain ⟨p, hp, e⟩ := refs u hu
  exact ⟨p, hp, by rw [e]; rfl⟩
end
end Rw
namespace Rw
open PySem L2
/-! ### lists of lists of rows, and pairs, as data -/
theorem eqvAll_LL : ∀ xs ys : List (List Row), PyData.eqvAll (xs.map (dL dRow)) (ys.map (dL dRow)) = decide (xs = ys)
  | [], [] => rfl
  | [], _ :: _ => by simp [PyData.eqvAll]
  | _ :: _, [] => by simp [PyData.eqvAll]
  | x :: xs, y :: ys => by
    rw [List.map_cons, List.map_cons, PyData.eqvAll, eqv_rows, eqvAll_LL xs ys]
    by_cases e1 : x = y <;> by_cases e2 : xs = ys <;> simp [e1, e2]
theorem eqv_LL (xs ys : List (List Row)) : PyData.eqv (dL (dL dRow) xs) (dL (dL dRow) ys) = decide (xs = ys) := by
  rw [show dL (dL dRow) xs = .list (xs.map (dL dRow)) from rfl, show dL (dL dRow) ys = .list (ys.map (dL dRow)) from rfl, PyData.eqv]
  exact eqvAll_LL xs ys
theorem canLay_LL : ∀ xs : List (List Row), PyData.canLayAll0 (xs.map (dL dRow)) = true
  | [] => rfl
  | x :: xs => by
    rw [List.map_cons, PyData.canLayAll0, canLay_LL xs, show dL dRow x = .list (x.map dRow) from rfl, PyData.canLay0, canLay_rows x]
    rfl
theorem depth_LL : ∀ xs : List (List Row), PyData.depthAll (xs.map (dL dRow)) ≤ 2
  | [] => by simp [PyData.depthAll]
  | x :: xs => by
    rw [List.map_cons, PyData.depthAll]
    have := depth_LL xs
    have h : (dL dRow x).depth ≤ 2 := by
      rw [show dL dRow x = .list (x.map dRow) from rfl, PyData.depth]
      have := depth_rows x
      omega
    omega
theorem shaped_LL (xs : List (List Row)) : SeqAt.shaped (dL (dL dRow) xs) = true := by
  rw [show dL (dL dRow) xs = .list (xs.map (dL dRow)) from rfl, SeqAt.shaped, PyData.canLay0, canLay_LL, PyData.depth]
  have := depth_LL xs
  simp
  omega
theorem eqv_pt (p q : Pt) : PyData.eqv (dPt p) (dPt q) = decide (p = q) := by
  obtain ⟨a, b⟩ := p
  obtain ⟨a', b'⟩ := q
  unfold dPt
  simp only [PyData.eqv, PyData.eqvAll, Bool.and_true]
  by_cases e1 : a = a' <;> by_cases e2 : b = b' <;> simp [e1, e2]
theorem any_pts (p : Pt) : ∀ ps : List Pt, ((ps.map dPt).any fun z => PyData.eqv z (dPt p)) = decide (p ∈ ps)
  | [] => by simp
  | q :: ps => by
    rw [List.map_cons, List.any_cons, any_pts p ps, eqv_pt]
    by_cases e1 : q = p
    · simp [e1]
    · have e1' : ¬ p = q := fun z => e1 z.symm
      by_cases e2 : p ∈ ps <;> simp [e1, e1', e2]
theorem canLay_pts : ∀ ps : List Pt, PyData.canLayAll0 (ps.map dPt) = true
  | [] => rfl
  | x :: xs => by
    rw [List.map_cons, PyData.canLayAll0, canLay_pts xs]
    simp [dPt, PyData.canLay0, PyData.canLayAll0]
theorem depth_pts : ∀ ps : List Pt, PyData.depthAll (ps.map dPt) ≤ 1
  | [] => by simp [PyData.depthAll]
  | x :: xs => by
    rw [List.map_cons, PyData.depthAll]
    have := depth_pts xs
    have h : (dPt x).depth ≤ 1 := by simp [dPt, PyData.depth, PyData.depthAll]
    omega
theorem shaped_pts (ps : List Pt) : SeqAt.shaped (.list (ps.map dPt)) = true := by
  rw [SeqAt.shaped, PyData.canLay0, canLay_pts, PyData.depth]
  have := depth_pts ps
  simp
  omega
theorem shaped_pt (p : Pt) : SeqAt.shaped (dPt p) = true := by
  simp [SeqAt.shaped, dPt, PyData.canLay0, PyData.canLayAll0, PyData.depth, PyData.depthAll]
/-- two lists of the same rows are alike -/
theorem twin_rows {F G H : Hp} {v u : V} {rs : List Row} (s1 : Same F H) (s2 : Same G H) (h1 : (kL kRow).is F v rs) (h2 : (kL kRow).is G u rs) (hl : rs.length ≤ 100000) : Twin H 3 v u := by
  obtain ⟨a, xs, rfl, ha, pa⟩ := h1
  obtain ⟨b, ys, rfl, hb, pb⟩ := h2
  refine .inr ⟨a, b, xs, ys, rfl, rfl, .inr ⟨s1 _ _ ha, s2 _ _ hb⟩, by rw [pr_len pb]; exact hl, by rw [pr_len pa, pr_len pb], fun i x y hx hy => ?_⟩
  obtain ⟨r, er, t, rfl, ht⟩ := pr_get pa hx
  obtain ⟨r', er', t', rfl, ht'⟩ := pr_get pb hy
  rw [er] at er'
  cases er'
  refine .inr ⟨t, t', _, _, rfl, rfl, .inl ⟨s1 _ _ ht, s2 _ _ ht'⟩, by simp, rfl, fun j c e hc he => ?_⟩
  match j, hc, he with
  | 0, hc, he => cases hc; cases he; exact .inl (.inl ⟨_, rfl, rfl⟩)
  | 1, hc, he => cases hc; cases he; exact .inl (.inl ⟨_, rfl, rfl⟩)
  | 2, hc, he => cases hc; cases he; exact .inl (.inl ⟨_, rfl, rfl⟩)
  | n + 3, hc, he => simp at hc
theorem cut_first (xs : List V) : cutV xs none (some 1) = xs.take 1 := by
  unfold cutV HT.sIx
  cases xs with
  | nil => simp
  | cons x xs => simp
theorem Ext.absb {F H F' H' : Hp} (fu : Full F H) (X : Ext M0 F H F' H') : Ext M0 F H (absb F' H') H' := by
  refine ⟨X.ff.trans (absb_sub X.fh), absb_same X.fh, X.hh, X.tr, fun b hb => ?_⟩
  rcases absb_or (F := F') (H := H') b with ⟨xs, e, e'⟩ | ⟨_, e'⟩
  · cases q : H b with
    | none => exact absurd q hb
    | some o =>
      have z := X.same _ _ q
      rw [e] at z
      rw [← Option.some.inj z] at q
      rw [e', fu _ _ q]
  · rw [e']; exact X.new b hb
theorem DiceAt.absb {K : PySem.W.Frag} {F H : Hp} {d s : Addr} {ns : List Int} (D : DiceAt K F H d s ns) : DiceAt K (absb F H) H d s ns := by
  obtain ⟨i, m, r, hd, g⟩ := D.ex
  refine ⟨absb_same D.fh, ?_, (absb_sub D.fh).seq D.sc, i, m, r, hd, g⟩
  rw [absb_ne (fun xs e => by rw [hd] at e; cases e)]
  exact D.fd
theorem same_fz {F H : Hp} {o : Addr} {x : HO} (s : Same F H) (e : H o = some x) : Same (upd F o x) H := fun b u z => by
  by_cases hb : b = o
  · rw [hb, upd_same] at z; rw [hb, e]; exact z
  · rw [upd_ne hb] at z; exact s _ _ z
theorem DiceAt.fz {K : PySem.W.Frag} {F H : Hp} {d s o : Addr} {x : HO} {ns : List Int} (D : DiceAt K F H d s ns) (n : d ≠ o) (f : F o = none) (e : H o = some x) : DiceAt K (upd F o x) H d s ns :=
  ⟨same_fz D.fh e, by rw [upd_ne n]; exact D.fd, (same_upd f).seq D.sc, D.ex⟩
def Drawn3 (p : Pt) : Prop := 0 ≤ p.1 ∧ p.1 < 3 ∧ 1 ≤ p.2 ∧ p.2 ≤ 25
theorem drawn3 {rs : List Row} (h : ∀ r ∈ rs, Drawn 3 25 r) {p : Pt} (m : mem rs p) : Drawn3 p := by
  obtain ⟨r, hr, i1, i2, i3⟩ := m
  obtain ⟨a, b, c, d, e⟩ := h r hr
  exact ⟨by omega, by omega, by omega, by omega⟩
theorem pts_few {ps : List Pt} (nd : ps.Pairwise (· ≠ ·)) (h : ∀ p ∈ ps, Drawn3 p) : ps.length ≤ 75 := by
  have c := len_of_nodup ps field nd fun p hp => by
    obtain ⟨a, b, c, d⟩ := h p hp
    exact field_mem a b c d
  rw [field_len] at c
  exact c
/-- pairs by their places -/
theorem places {F : Hp} : ∀ {vs : List V} {ps : List Pt}, Paired (kPt.is F) vs ps → ∃ ks : List (Addr × List Int), vs = ks.map (fun p => V.ref p.1) ∧ ks.map (·.2) = ps.map (fun p => [p.1, p.2]) ∧ ∀ k ∈ ks, F k.1 = some (.tup (k.2.map V.int))
  | _, _, .nil => ⟨[], rfl, rfl, fun k h => absurd h (by simp)⟩
  | _, p :: _, .cons ⟨t, e, ht⟩ r => by
    obtain ⟨ks, e1, e2, e3⟩ := places r
    refine ⟨(t, [p.1, p.2]) :: ks, by rw [List.map_cons, ← e1, e], by rw [List.map_cons, List.map_cons, e2], fun k hk => ?_⟩
    rcases List.mem_cons.mp hk with rfl | hk
    · exact ht
    · exact e3 k hk
theorem pr_back {F H : Hp} (s : Same F H) : ∀ {vs : List V} {ps : List Pt}, Paired (kPt.is H) vs ps → (∀ v ∈ vs, ∃ t xs, v = V.ref t ∧ F t = some (.tup xs)) → Paired (kPt.is F) vs ps
  | _, _, .nil, _ => .nil
  | _, _, .cons ⟨t, e, ht⟩ r, h => by
    refine .cons ?_ (pr_back s r fun v hv => h v (List.mem_cons_of_mem _ hv))
    obtain ⟨t', xs, e', ht'⟩ := h _ List.mem_cons_self
    rw [e] at e'
    cases e'
    have z := s _ _ ht'
    rw [ht] at z
    rw [← Option.some.inj z] at ht'
    exact ⟨t, e, ht'⟩
/-- what the turns keep -/
structure B3 (K : PySem.W.Frag) (F H : Hp) (d s : Addr) (ns : List Int) (o : Addr) (sets : List (List Row)) (D : Addr) (nss : List (List Pt)) : Prop where
  dice : DiceAt K F H d s ns
  sets : (kL (kL kRow)).is F (.ref o) sets
  names : (kL (kL kPt)).is F (.ref D) nss
theorem B3.step {K : PySem.W.Frag} {F H F' H' : Hp} {d s o D : Addr} {ns : List Int} {sets : List (List Row)} {nss : List (List Pt)} (B : B3 K F H d s ns o sets D nss) (X : Ext M0 F H F' H') : B3 K F' H' d s ns o sets D nss :=
  ⟨B.dice.step X, (kL (kL kRow)).mono X.ff B.sets, (kL (kL kPt)).mono X.ff B.names⟩
theorem B3.mv {K : PySem.W.Frag} {F H F' H' : Hp} {d s o D : Addr} {ns : List Int} {sets : List (List Row)} {nss : List (List Pt)} (B : B3 K F H d s ns o sets D nss) (m : Same F F') (D' : DiceAt K F' H' d s ns) : B3 K F' H' d s ns o sets D nss :=
  ⟨D', (kL (kL kRow)).mono m B.sets, (kL (kL kPt)).mono m B.names⟩
/-! ### moved rows -/
theorem mem_moved {b : Int} {rs : List Row} {p : Pt} : mem (moved b rs) p ↔ mem rs (p.1, p.2 - b) := by
  constructor
  · rintro ⟨r, hr, i1, i2, i3⟩
    obtain ⟨s, hs, rfl⟩ := List.mem_map.mp hr
    simp only [mv1] at i1 i2 i3
    exact ⟨s, hs, i1, by simp only; omega, by simp only; omega⟩
  · rintro ⟨r, hr, i1, i2, i3⟩
    simp only at i1 i2 i3
    exact ⟨_, List.mem_map.mpr ⟨r, hr, rfl⟩, i1, by simp only [mv1]; omega, by simp only [mv1]; omega⟩
theorem canon_moved {b : Int} {rs : List Row} (c : Canon rs) : Canon (moved b rs) := by
  refine ⟨fun r hr => ?_, List.pairwise_map.mpr (c.ord.imp fun {r s} h => ?_)⟩
  · obtain ⟨s, hs, rfl⟩ := List.mem_map.mp hr
    have := c.ok s hs
    simp only [mv1]
    omega
  · unfold before at h ⊢
    simp only [mv1]
    omega
theorem ind_iff {A B : Prop} [Decidable A] [Decidable B] (h : A ↔ B) : ind A = ind B := by
  by_cases a : A
  · rw [ind_pos a, ind_pos (h.mp a)]
  · rw [ind_neg a, ind_neg fun b => a (h.mpr b)]
theorem cnt_moved (b : Int) (p : Pt) : ∀ sets : List (List Row), cnt (sets.map (moved b)) p = cnt sets (p.1, p.2 - b)
  | [] => rfl
  | rs :: sets => by
    show ind (mem (moved b rs) p) + cnt (sets.map (moved b)) p = ind (mem rs (p.1, p.2 - b)) + cnt sets (p.1, p.2 - b)
    rw [cnt_moved b p sets, ind_iff mem_moved]
theorem cnt_pos {p : Pt} : ∀ {sets : List (List Row)}, 1 ≤ cnt sets p → ∃ rs ∈ sets, mem rs p
  | [], h => absurd h (show ¬ (1 : Int) ≤ 0 by decide)
  | rs :: sets, h => by
    by_cases m : mem rs p
    · exact ⟨rs, List.mem_cons_self, m⟩
    · have e : cnt (rs :: sets) p = ind (mem rs p) + cnt sets p := rfl
      rw [e, ind_neg m] at h
      obtain ⟨q, hq, hm⟩ := cnt_pos (p := p) (sets := sets) (by omega)
      exact ⟨q, List.mem_cons_of_mem _ hq, hm⟩
theorem cnt_nn (p : Pt) : ∀ sets : List (List Row), 0 ≤ cnt sets p
  | [] => Int.le_refl _
  | rs :: sets => by
    have e : cnt (rs :: sets) p = ind (mem rs p) + cnt sets p := rfl
    rw [e]
    have := cnt_nn p sets
    rcases ind_or (mem rs p) with ⟨_, z⟩ | ⟨_, z⟩ <;> rw [z] <;> omega
theorem cnt_next {sets : List (List Row)} {i : Nat} {rs : List Row} (h : sets[i]? = some rs) (p : Pt) : cnt (sets.take (i + 1)) p = cnt (sets.take i) p + ind (mem rs p) := by
  have e : sets.take (i + 1) = sets.take i ++ [rs] := by rw [List.take_add_one, h]; rfl
  rw [e, cnt_snoc]
/-- what the law is about: by_many's telling is what counting each name gives -/
theorem held_told {sets : List (List Row)} {least b : Int} {every due : List Pt} {t out : List Row} (h1 : 1 ≤ least) (he : ∀ p, p ∈ every ↔ ∃ rs ∈ sets, mem rs p) (hd : ∀ p, p ∈ due ↔ p ∈ every ∧ least ≤ cnt sets p) (ht : ToldOf due t) (ho : Held (sets.map (moved b)) least out) : out = moved b t := by
  refine Canon.uniq ho.can (canon_moved ht.can) fun p => ?_
  rw [ho.mem p, mem_moved, ht.mem, hd, cnt_moved]
  exact ⟨fun z => ⟨(he _).mpr (cnt_pos (by omega)), z⟩, fun z => z.2⟩
end Rw
namespace Rw
open PySem L2
/-! ### pairs (number, list of rows), whose lists may still be changed -/
structure Item where
  k : Int
  b : Addr
  vs : List V
  out : List Row
def kItem : Kd Item := ⟨fun F v x => ∃ t, v = .ref t ∧ F t = some (.tup [.int x.k, .ref x.b]), fun s ⟨t, e, h⟩ => ⟨t, e, s _ _ h⟩⟩
structure ItOk (H0 F H : Hp) (x : Item) : Prop where
  fb : F x.b = none
  nb : H0 x.b = none
  hb : H x.b = some (.lst x.vs)
  rows : Paired (kRow.is F) x.vs x.out
theorem ItOk.step {H0 F H F' H' : Hp} {x : Item} (h : ItOk H0 F H x) (X : Ext M0 F H F' H') : ItOk H0 F' H' x :=
  ⟨by rw [X.new _ (by rw [h.hb]; simp)]; exact h.fb, h.nb, X.same _ _ h.hb, pr_mono (fun _ _ z => kRow.mono X.ff z) h.rows⟩
/-- the numbered of some lists that aren't empty -/
def some1 (outs : List (List Row)) (n : Nat) : List (Int × List Row) := match outs with
  | [] => []
  | o :: rest => (if o = [] then [] else [((n : Int), o)]) ++ some1 rest (n + 1)
theorem some1_append : ∀ (xs ys : List (List Row)) (n : Nat), some1 (xs ++ ys) n = some1 xs n ++ some1 ys (n + xs.length)
  | [], ys, n => rfl
  | x :: xs, ys, n => by
    show _ ++ some1 (xs ++ ys) (n + 1) = (_ ++ some1 xs (n + 1)) ++ _
    rw [some1_append xs ys (n + 1), List.append_assoc, List.length_cons, Nat.add_assoc, Nat.add_comm 1]
theorem some1_snoc (xs : List (List Row)) (o : List Row) : some1 (xs ++ [o]) 0 = some1 xs 0 ++ (if o = [] then [] else [((xs.length : Int), o)]) := by
  rw [some1_append]
  show _ ++ ((if o = [] then [] else [(((0 + xs.length : Nat) : Int), o)]) ++ []) = _
  rw [List.append_nil, Nat.zero_add]
theorem some1_len : ∀ (xs : List (List Row)) (n : Nat), (some1 xs n).length ≤ xs.length
  | [], _ => Nat.le_refl _
  | x :: xs, n => by
    have := some1_len xs (n + 1)
    show ((if x = [] then [] else [((n : Int), x)]) ++ some1 xs (n + 1)).length ≤ xs.length + 1
    split <;> simp <;> omega
def RetItems (F H : Hp) (φ : List (Int × List Row) → Prop) (Q : VK) : Prop :=
  ∀ (F' H' : Hp) (a : Addr) (acc : List V) (L : List Item), Ext M0 F H F' H' → H a = none → F' a = none → H' a = some (.lst acc) → Paired (kItem.is F') acc L → (∀ x ∈ L, ItOk H F' H' x ∧ x.b ≠ a) → (L.map (·.b)).Nodup → φ (L.map fun x => (x.k, x.out)) → Q (.ref a) H'
def Beyond (lead : List Row) (dones : List (List Row)) (L : List (Int × List Row)) : Prop :=
  ∃ outs : List (List Row), outs.length = dones.length ∧ (∀ (j : Nat) (rs o : List Row), dones[j]? = some rs → outs[j]? = some o → Without rs lead o) ∧ L = some1 outs 0
def spWrongly : Sp := fun vs H Q _ => ∃ (F : Hp) (v u : V) (lead : List Row) (dones : List (List Row)), vs = [v, u] ∧ Same F H ∧ (kL kRow).is F v lead ∧ (kL (kL kRow)).is F u dones ∧ RowsOk lead ∧ (∀ rs ∈ dones, RowsOk rs) ∧ dones.length ≤ 100 ∧
  RetItems F H (Beyond lead dones) Q
def tTru (K : PySem.W.Frag) (t : TE) : TT := fun σ H Q => t σ H fun x H' => ∃ k, TruV K x H' k ∧ Q k H'
abbrev NW : List Str := ["lead", "dones", "rows", "beyond", "house"]
section
variable {P : Program} {w : World} {K : PySem.W.Frag} {mg : Str → Option Value} {base : Heap}
theorem ok_wrongly {f : Addr} {fd : FuncData} (F0 : Fun K "wrongly" "wrongly" s_wrongly f fd) (T : TxA mg) (CC : CalCheck P w K mg base) (CW : Cal P w K mg base 4 "without" ["one", "other"] spWithout) : FnOk P w K mg base CX0 6 f fd ["lead", "dones"] spWrongly := by
  obtain ⟨f1, fd1, G1, g1, kp1, b1⟩ := CC
  obtain ⟨f2, fd2, G2, g2, kp2, b2⟩ := CW
  refine F0.ok sc_wrongly (fun vs H Q E h => ?_) (fun cdv A outer s H vs Q E hr h => ?_)
  · obtain ⟨F, v, u, lead, dones, rfl, _⟩ := h
    rfl
  · obtain ⟨F, v, u, lead, dones, rfl, fh, hv, ⟨a, xs, rfl, ha, hp⟩, okl, okd, hl, q⟩ := h
    have hr4 : Room 4 _ := hr.mono (by decide)
    refine ⟨_, pss_cons (ps_expr (pe_call G1 hr (by rfl) g1 kp1 b1 .nil pass0 (pa_cons (pv 0) pa_nil)))
      (pss_cons (ps_for PassesOwn.never rfl (pi_list (pv 1)) (pg_name (i := 2) sc_wrongly.nd rfl (.inl rfl)) (pss_one (ps_expr (pe_call G1 hr (by rfl) g1 kp1 b1 .nil pass0 (pa_cons (pv 2) pa_nil)))))
      (pss_cons (ps_setLc (i := 3) (own := [("house", 4), ("rows", 2)]) (g := gTup K 2 (gCons (gName 4) (gCons (gName 2) gNil))) (tt := tYes) (te := tTup (tCons (tVar 4) (tCons (tCall spWithout [] E0 (tCons (tVar 2) (tCons (tVar 0) tNil))) tNil))) (by rfl) sc_wrongly.nd rfl rfl (sw_true rfl rfl rfl (by decide +kernel)) (pi_enum (by rfl) T.enum (pa_cons (pv 1) pa_nil))
        (blkOk_by (own := [("house", 4), ("rows", 2)]) (N := NW) (sc := defScope s_wrongly) (by decide +kernel)) (fun _ _ _ _ _ => pg_tup (by rfl) (pgs_cons (pg_name (i := 4) sc_wrongly.nd rfl (Or.inl rfl)) (pgs_cons (pg_name (i := 2) sc_wrongly.nd rfl (Or.inl rfl)) pgs_nil))) (fun _ _ _ _ _ => pts_nil)
        (fun _ _ _ _ _ => pe_tup (pa_cons (pv 4) (pa_cons (pe_call G2 hr4 (by rfl) g2 kp2 b2 .nil pass0 (pa_cons (pv 2) (pa_cons (pv 0) pa_nil))) pa_nil))))
      (pss_one (ps_ret (pe_lc (own := [("house", 4), ("rows", 2)]) (g := gTup K 2 (gCons (gName 4) (gCons (gName 2) gNil))) (tt := tTru K (tVar 2)) (te := tTup (tCons (tVar 4) (tCons (tVar 2) tNil))) (by rfl) sc_wrongly.nd (pi_list (pv 3))
        (blkOk_by (own := [("house", 4), ("rows", 2)]) (N := NW) (sc := defScope s_wrongly) (by decide +kernel)) (fun _ _ _ _ _ => pg_tup (by rfl) (pgs_cons (pg_name (i := 4) sc_wrongly.nd rfl (Or.inl rfl)) (pgs_cons (pg_name (i := 2) sc_wrongly.nd rfl (Or.inl rfl)) pgs_nil))) (fun _ _ _ _ _ => pts_one (pt_truth (pv 2) (by intro _; rfl)))
        (fun _ _ _ _ _ => pe_tup (pa_cons (pv 4) (pa_cons (pv 2) pa_nil)))))))), ?_⟩
    refine ⟨_, rfl, v, lead, rfl, (kL kRow).mono fh hv, okl, fun H1 s1 => ?_⟩
    refine ⟨_, rfl, a, rfl, ⟨xs, SqL.of (s1 _ _ (fh _ _ ha))⟩, for_list (K := K) (a := a) (xs := xs) (fun i σ H' => ∃ y, σ = [some v, some (.ref a), y, none, none] ∧ Same H H') ⟨none, rfl, s1⟩ (fun i σ H' _ ⟨_, _, s1⟩ => SqL.of (s1 _ _ (fh _ _ ha))) ?_ ?_⟩
    · rintro i x σ H1 hi ⟨y, rfl, s1⟩
      obtain ⟨rs, hri, hrs⟩ := pr_get hp hi
      refine ⟨_, rfl, x, rs, rfl, (kL kRow).mono (fh.trans s1) hrs, okd rs (List.mem_of_getElem? hri), fun H2 s2 => ?_⟩
      exact ⟨_, rfl, s1.trans s2⟩
    · rintro σ H1 ⟨y, rfl, s1⟩
      have X0 := ext_of_same fh s1
      refine ⟨_, rfl, a, xs, rfl, SqL.of (s1 _ _ (fh _ _ ha)), fun D nD => ?_⟩
      have HD : H D = none := X0.free nD
      refine it_by (walk_enum (K := K) (a := a) (xs := xs)) (fun i H' => ∃ (F' : Hp) (acc : List V) (L : List Item), Ext M0 F H F' H' ∧ H' D = some (.lst acc) ∧ F' D = none ∧ Paired (kItem.is F') acc L ∧ (∀ x ∈ L, ItOk H F' H' x ∧ x.b ≠ D) ∧ (L.map (·.b)).Nodup ∧ L.length = i ∧
          ∀ (j : Nat) (x : Item) (rs : List Row), L[j]? = some x → dones[j]? = some rs → x.k = (j : Int) ∧ Without rs lead x.out)
        ⟨F, [], [], X0.tmp nD, upd_same, fh.free HD, .nil, fun x h => absurd h (by simp), .nil, rfl, fun j x rs h => absurd h (by simp)⟩ (fun i H' _ ⟨_, _, _, X, _⟩ => SqL.of (X.fh _ _ (X.ff _ _ ha))) ?_ ?_
      · rintro i x H2 _ hi ⟨F2, acc, L, X2, hD, fD, hac, hit, hnd, hln, hall⟩ ⟨U, i', row, rfl, nU, rfl, ei, er⟩
        obtain ⟨rs, hri, hrs⟩ := pr_get hp er
        cases ei
        have X3 := X2.tmp (o := .tup [.int (i : Int), row]) nU
        have DU : D ≠ U := ne_of_none hD nU
        have YU : Ext M0 F2 H2 F2 (upd H2 U (.tup [.int (i : Int), row])) := (Ext.refl X2.fh).tmp nU
        have hD3 : upd H2 U (.tup [.int (i : Int), row]) D = some (.lst acc) := by rw [upd_ne DU]; exact hD
        refine ⟨U, _, rfl, SqT.of upd_same, rfl, .int (i : Int), [row], rfl, row, [], rfl, rfl, ?_⟩
        revert X3 YU hD3
        generalize upd H2 U (.tup [.int (i : Int), row]) = H3
        intro X3 YU hD3
        have okr := okd rs (List.mem_of_getElem? hri)
        have l1 := okl.1
        have l2 := okr.1
        refine ⟨rfl, _, rfl, _, rfl, _, rfl, F2, row, v, rs, lead, rfl, X3.fh, (kL kRow).mono X2.ff hrs, (kL kRow).mono X2.ff hv, rows_valid okr.2, rows_valid okl.2, by omega, by omega, fun F4 H4 b vs out X4 nb fb hb hout wo => ?_⟩
        refine ⟨by show 2 ≤ sizeLine; decide, fun t nt => ?_⟩
        have bt : b ≠ t := ne_of_none hb nt
        have Z := (X3.trans X4).lay (o := .tup [.int (i : Int), .ref b]) nt
        have Y := (YU.trans X4).lay (o := .tup [.int (i : Int), .ref b]) nt
        have hD4 : H4 D = some (.lst acc) := X4.same _ _ hD3
        have Dt : D ≠ t := ne_of_none hD4 nt
        have hD5 : upd H4 t (.tup [.int (i : Int), .ref b]) D = some (.lst acc) := by rw [upd_ne Dt]; exact hD4
        have fD5 : upd F4 t (.tup [.int (i : Int), .ref b]) D = none := by rw [Y.new D (by rw [hD]; simp)]; exact fD
        have la : acc.length ≤ 100 := by
          rw [pr_len hac, hln]
          have := (List.getElem?_eq_some_iff.mp hri).1
          omega
        have bD : b ≠ D := fun e => by rw [e] at nb; rw [nb] at hD3; cases hD3
        have hit5 : ∀ x ∈ L, ItOk H (upd F4 t (.tup [.int (i : Int), .ref b])) (upd H4 t (.tup [.int (i : Int), .ref b])) x ∧ x.b ≠ D := fun x hx => ⟨(hit x hx).1.step Y, (hit x hx).2⟩
        have hfb5 : upd F4 t (.tup [.int (i : Int), .ref b]) b = none := by rw [upd_ne bt]; exact fb
        have hhb5 : upd H4 t (.tup [.int (i : Int), .ref b]) b = some (.lst vs) := by rw [upd_ne bt]; exact hb
        have hw5 : Paired (kRow.is (upd F4 t (.tup [.int (i : Int), .ref b]))) vs out := pr_mono (fun _ _ z => kRow.mono (same_upd (X4.ffree nt)) z) hout
        have hac5 : Paired (kItem.is (upd F4 t (.tup [.int (i : Int), .ref b]))) (acc ++ [.ref t]) (L ++ [⟨(i : Int), b, vs, out⟩]) := pr_snoc (pr_mono (fun _ _ z => kItem.mono Y.ff z) hac) ⟨t, rfl, upd_same⟩
        refine ⟨acc, hD5, by rw [sizeLine_eq]; omega, ?_⟩
        revert Z hD5 fD5 hit5 hfb5 hhb5 hw5 hac5
        generalize upd F4 t (.tup [.int (i : Int), .ref b]) = F5
        generalize upd H4 t (.tup [.int (i : Int), .ref b]) = H5
        intro Z hD5 fD5 hit5 hfb5 hhb5 hw5 hac5
        have put : ∀ x : Item, x.b ≠ D → ItOk H F5 H5 x → ItOk H F5 (upd H5 D (.lst (acc ++ [.ref t]))) x := fun x n o => ⟨o.fb, o.nb, by rw [upd_ne n]; exact o.hb, o.rows⟩
        refine ⟨F5, acc ++ [.ref t], L ++ [⟨(i : Int), b, vs, out⟩], Z.put (.inl HD) fD5, upd_same, fD5, hac5, fun x hx => ?_, ?_, by simp [hln], fun j x rs' e1 e2 => ?_⟩
        · rcases List.mem_append.mp hx with hx | hx
          · exact ⟨put x (hit5 x hx).2 (hit5 x hx).1, (hit5 x hx).2⟩
          · rw [List.mem_singleton.mp hx]
            exact ⟨put _ bD ⟨hfb5, X3.free nb, hhb5, hw5⟩, bD⟩
        · rw [List.map_append]
          refine List.nodup_append.mpr ⟨hnd, by simp, fun c hc e he => ?_⟩
          obtain ⟨x, hx, rfl⟩ := List.mem_map.mp hc
          rw [List.map_singleton, List.mem_singleton] at he
          intro z
          have := (YU.same _ _ (hit x hx).1.hb)
          rw [z, he, nb] at this
          cases this
        · by_cases hj : j < L.length
          · rw [List.getElem?_append_left hj] at e1
            exact hall j x rs' e1 e2
          · have ej : j = L.length := by
              have := (List.getElem?_eq_some_iff.mp e1).1
              rw [List.length_append, List.length_singleton] at this
              omega
            rw [ej, List.getElem?_append_right (Nat.le_refl _), Nat.sub_self] at e1
            cases e1
            rw [ej, hln, hri] at e2
            cases e2
            exact ⟨by rw [ej, hln], wo⟩
      · rintro H2 ⟨F2, acc, L, X2, hD, fD, hac, hit, hnd, hln, hall⟩
        -- the second
        refine ⟨_, rfl, D, rfl, ⟨acc, SqL.of hD⟩, fun E nE => ?_⟩
        have DE : D ≠ E := ne_of_none hD nE
        have HE : H E = none := X2.free nE
        have lL : L.length ≤ 100 := by rw [hln, pr_len hp]; exact hl
        have nbE : ∀ x ∈ L, x.b ≠ E := fun x hx e => by have := (hit x hx).1.hb; rw [e, nE] at this; cases this
        refine it_by (walk_list (K := K) (a := D) (xs := acc)) (fun i H' => ∃ (F' : Hp) (acc2 : List V) (L2 : List Item), Ext M0 F H F' H' ∧ H' D = some (.lst acc) ∧ H' E = some (.lst acc2) ∧ F' E = none ∧ Paired (kItem.is F') acc L ∧ Paired (kItem.is F') acc2 L2 ∧ (∀ x ∈ L, ItOk H F' H' x) ∧ L2 = (L.take i).filter fun x => !x.out.isEmpty)
          ⟨F2, [], [], X2.tmp nE, by rw [upd_ne DE]; exact hD, upd_same, X2.ffree nE, hac, .nil, fun x hx => ⟨(hit x hx).1.fb, (hit x hx).1.nb, by rw [upd_ne (nbE x hx)]; exact (hit x hx).1.hb, (hit x hx).1.rows⟩, rfl⟩ (fun i H' _ ⟨_, _, _, _, z, _⟩ => SqL.of z) ?_ ?_
        · rintro i x H3 _ hi ⟨F3, acc2, L2, X3, hD3, hE3, fE3, hac3, hac2, hit3, eL⟩ ⟨rfl, hx⟩
          obtain ⟨it, hri, t, rfl, ht⟩ := pr_get hac3 hx
          have itm := List.mem_of_getElem? hri
          have io := hit3 it itm
          refine ⟨t, _, rfl, SqT.of (X3.fh _ _ ht), rfl, _, _, rfl, _, _, rfl, rfl, ?_⟩
          have eT : L.take (i + 1) = L.take i ++ [it] := by rw [List.take_add_one, hri]; rfl
          have el : it.vs.isEmpty = it.out.isEmpty := by
            have := pr_len io.rows
            cases h1 : it.vs <;> cases h2 : it.out <;> rw [h1, h2] at this <;> simp at this ⊢
          refine ⟨rfl, _, rfl, _, .inl ⟨it.vs, SqL.of io.hb, rfl⟩, ?_⟩
          rw [el]
          cases c : it.out.isEmpty with
          | true =>
            refine ⟨F3, acc2, L2, X3, hD3, hE3, fE3, hac3, hac2, hit3, ?_⟩
            rw [eT, List.filter_append, ← eL, List.filter_cons_of_neg (by rw [c]; simp), List.filter_nil, List.append_nil]
          | false =>
            refine ⟨_, rfl, _, rfl, by show 2 ≤ sizeLine; decide, fun t2 nt2 => ?_⟩
            have Et : E ≠ t2 := ne_of_none hE3 nt2
            have Dt : D ≠ t2 := ne_of_none hD3 nt2
            have l2 : acc2.length ≤ 100 := by
              rw [pr_len hac2, eL]
              have := List.length_filter_le (fun x : Item => !x.out.isEmpty) (L.take i)
              have := List.length_take_le' i L
              omega
            have Y := (Ext.refl (M := M0) X3.fh).lay (o := .tup [.int it.k, .ref it.b]) nt2
            have fE4 : upd F3 t2 (.tup [.int it.k, .ref it.b]) E = none := by rw [upd_ne Et]; exact fE3
            refine ⟨acc2, by rw [upd_ne Et]; exact hE3, by rw [sizeLine_eq]; omega, ?_⟩
            refine ⟨upd F3 t2 (.tup [.int it.k, .ref it.b]), acc2 ++ [.ref t2], L2 ++ [it], (X3.lay nt2).put (.inl HE) fE4, by rw [upd_ne DE, upd_ne Dt]; exact hD3, upd_same, fE4, pr_mono (fun _ _ z => kItem.mono Y.ff z) hac3, pr_snoc (pr_mono (fun _ _ z => kItem.mono Y.ff z) hac2) ⟨t2, rfl, upd_same⟩, fun x hx => ?_, ?_⟩
            · have o := (hit3 x hx).step Y
              exact ⟨o.fb, o.nb, by rw [upd_ne (nbE x hx)]; exact o.hb, o.rows⟩
            · rw [eT, List.filter_append, ← eL, List.filter_cons_of_pos (by rw [c]; simp), List.filter_nil]
        · rintro H3 ⟨F3, acc2, L2, X3, hD3, hE3, fE3, hac3, hac2, hit3, eL⟩
          rw [pr_len hac, List.take_length] at eL
          subst eL
          refine q F3 H3 E acc2 _ X3 HE fE3 hE3 hac2 (fun x hx => ⟨hit3 x (List.mem_filter.mp hx).1, nbE x (List.mem_filter.mp hx).1⟩) (hnd.sublist (List.filter_sublist.map _)) ?_
          have lL2 : L.length = dones.length := by rw [hln, pr_len hp]
          refine ⟨L.map (·.out), by rw [List.length_map, lL2], fun j rs o e1 e2 => ?_, ?_⟩
          · rw [List.getElem?_map] at e2
            cases h : L[j]? with
            | none => rw [h] at e2; cases e2
            | some x => rw [h] at e2; cases e2; exact (hall j x rs h e1).2
          · have gen : ∀ (l : List Item) (n : Nat), (∀ (j : Nat) (x : Item), l[j]? = some x → x.k = ((n + j : Nat) : Int)) → (l.filter fun x => !x.out.isEmpty).map (fun x => (x.k, x.out)) = some1 (l.map (·.out)) n := by
              intro l
              induction l with
              | nil => intro n _; rfl
              | cons x l ih =>
                intro n h
                have hx := h 0 x rfl
                have ih' := ih (n + 1) fun j y e => by rw [h (j + 1) y e, Nat.add_assoc, Nat.add_comm 1]
                show _ = (if x.out = [] then [] else [((n : Int), x.out)]) ++ some1 (l.map (·.out)) (n + 1)
                rw [← ih']
                cases c : x.out with
                | nil => rw [List.filter_cons_of_neg (by rw [c]; simp), if_pos rfl]; rfl
                | cons r rest => rw [List.filter_cons_of_pos (by rw [c]; simp), if_neg (by simp), List.map_cons, hx, c]; rfl
            refine gen L 0 fun j x e => ?_
            have jl : j < dones.length := by rw [← lL2]; exact (List.getElem?_eq_some_iff.mp e).1
            rw [Nat.zero_add]
            exact (hall j x _ e (List.getElem?_eq_getElem jl)).1
end
end Rw
namespace Rw
open PySem L2
theorem cut_pre (xs : List V) (n : Int) (h : 0 ≤ n) : cutV xs none (some n) = xs.take n.toNat := by
  unfold cutV HT.sIx
  dsimp only
  rw [if_neg (by omega), List.drop_zero, Nat.sub_zero]
  rcases Nat.le_total n.toNat xs.length with c | c
  · rw [Nat.min_eq_left c]
  · rw [Nat.min_eq_right c, List.take_length, List.take_of_length_le c]
/-- what a set holds beyond the lead's, told -/
structure MoreOf (lead rs t : List Row) : Prop where
  can : Canon t
  mem : ∀ p, mem t p ↔ mem rs p ∧ ¬ mem lead p
theorem canon_nil {t : List Row} (c : Canon t) (h : ∀ p, ¬ mem t p) : t = [] := by
  cases t with
  | nil => rfl
  | cons r rest => exact absurd (c.first List.mem_cons_self) (h _)
theorem MoreOf.without {lead rs t out : List Row} {b : Int} (m : MoreOf lead rs t) (w : Without (moved b rs) (moved b lead) out) : out = moved b t :=
  Canon.uniq w.can (canon_moved m.can) fun p => by rw [w.mem p, mem_moved, mem_moved, mem_moved, m.mem]
theorem beyond_due {lead : List Row} {dones ts : List (List Row)} {b : Int} {L : List (Int × List Row)} (hl : ts.length = dones.length) (hm : ∀ (j : Nat) (rs t : List Row), dones[j]? = some rs → ts[j]? = some t → MoreOf lead rs t)
    (hb : Beyond (moved b lead) (dones.map (moved b)) L) : L = some1 (ts.map (moved b)) 0 := by
  obtain ⟨outs, h1, h2, rfl⟩ := hb
  rw [List.length_map] at h1
  have e : outs = ts.map (moved b) := by
    refine List.ext_getElem? fun j => ?_
    rw [List.getElem?_map]
    by_cases hj : j < dones.length
    · have ed := List.getElem?_eq_getElem hj
      have et := List.getElem?_eq_getElem (show j < ts.length by omega)
      have eo := List.getElem?_eq_getElem (show j < outs.length by omega)
      rw [et, eo]
      have w := h2 j _ _ (by rw [List.getElem?_map, ed]; rfl) eo
      rw [(hm j _ _ ed et).without w]
      rfl
    · rw [List.getElem?_eq_none (by omega), List.getElem?_eq_none (by omega)]
      rfl
  rw [e]
/-- pairs (number, rows) that never change -/
def kDue : Kd (Int × List Row) := ⟨fun F v x => ∃ t b, v = .ref t ∧ F t = some (.tup [.int x.1, b]) ∧ (kL kRow).is F b x.2, fun s ⟨t, b, e, h, k⟩ => ⟨t, b, e, s _ _ h, (kL kRow).mono s k⟩⟩
theorem twin_due {H0 F H : Hp} {a u : Addr} {acc dacc : List V} {L : List Item} {ds : List (Int × List Row)} (s : Same F H) (ha : H a = some (.lst acc)) (hu : H u = some (.lst dacc)) (hp : Paired (kItem.is F) acc L) (hi : ∀ x ∈ L, ItOk H0 F H x) (hd : Paired (kDue.is F) dacc ds)
    (e : (L.map fun x => (x.k, x.out)) = ds) (l1 : ds.length ≤ 100) (l2 : ∀ x ∈ ds, x.2.length ≤ 100000) : Twin H 5 (.ref a) (.ref u) := by
  have eL : L.length = ds.length := by rw [← e, List.length_map]
  refine .inr ⟨a, u, acc, dacc, rfl, rfl, .inr ⟨ha, hu⟩, by rw [pr_len hd]; omega, by rw [pr_len hp, pr_len hd, eL], fun i x y hx hy => ?_⟩
  obtain ⟨it, h1, t, rfl, ht⟩ := pr_get hp hx
  obtain ⟨du, h2, t', b', rfl, ht', hb'⟩ := pr_get hd hy
  have ek : du = (it.k, it.out) := by
    rw [← e, List.getElem?_map, h1] at h2
    exact (Option.some.inj h2).symm
  subst ek
  have itm := List.mem_of_getElem? h1
  have io := hi it itm
  refine .inr ⟨t, t', _, _, rfl, rfl, .inl ⟨s _ _ ht, s _ _ ht'⟩, by simp, rfl, fun j c z hc hz => ?_⟩
  match j, hc, hz with
  | 0, hc, hz => cases hc; cases hz; exact .inl (.inl ⟨_, rfl, rfl⟩)
  | 1, hc, hz =>
    cases hc
    cases hz
    exact twin_rows (same_fz s io.hb) s (kL_new io.fb io.rows) hb' (l2 _ (List.mem_of_getElem? h2))
  | n + 2, hc, hz => simp at hc
/-- what the turns keep -/
structure S24 (K : PySem.W.Frag) (F H : Hp) (d s : Addr) (ns : List Int) (vl : V) (lead : List Row) (vd : V) (dones : List (List Row)) : Prop where
  dice : DiceAt K F H d s ns
  lead : (kL kRow).is F vl lead
  dones : (kL (kL kRow)).is F vd dones
theorem S24.step {K : PySem.W.Frag} {F H F' H' : Hp} {d s : Addr} {ns : List Int} {vl vd : V} {lead : List Row} {dones : List (List Row)} (B : S24 K F H d s ns vl lead vd dones) (X : Ext M0 F H F' H') : S24 K F' H' d s ns vl lead vd dones :=
  ⟨B.dice.step X, (kL kRow).mono X.ff B.lead, (kL (kL kRow)).mono X.ff B.dones⟩
structure T24 (F : Hp) (b : Int) (lead : List Row) (dones : List (List Row)) (h lm dm : Addr) (vu : V) (ds : List (Int × List Row)) : Prop where
  hnd : F h = some (.tup [.ref lm, .ref dm])
  hl : (kL kRow).is F (.ref lm) (moved b lead)
  hd : (kL (kL kRow)).is F (.ref dm) (dones.map (moved b))
  due : (kL kDue).is F vu ds
theorem T24.mono {F F' : Hp} {b : Int} {lead : List Row} {dones : List (List Row)} {h lm dm : Addr} {vu : V} {ds : List (Int × List Row)} (t : T24 F b lead dones h lm dm vu ds) (s : Same F F') : T24 F' b lead dones h lm dm vu ds :=
  ⟨s _ _ t.hnd, (kL kRow).mono s t.hl, (kL (kL kRow)).mono s t.hd, (kL kDue).mono s t.due⟩
theorem moved_len (b : Int) (rs : List Row) : (moved b rs).length = rs.length := List.length_map ..
theorem moved_ok {b : Int} {rs : List Row} {hs far : Int} (b0 : 0 ≤ b) (b1 : b ≤ 999999999950) (hh : hs ≤ 8) (hf : far ≤ 50) (h : ∀ r ∈ rs, Drawn hs far r) : ∀ r ∈ moved b rs, RowOk r := fun r hr => by
  obtain ⟨r', hr', rfl⟩ := List.mem_map.mp hr
  obtain ⟨b1, b2, b3, b4, b5⟩ := h r' hr'
  have eL : LIM = 1000000000000 := rfl
  simp only [RowOk, mv1]
  omega
theorem some1_mem : ∀ {xs : List (List Row)} {n : Nat} {x : Int × List Row}, x ∈ some1 xs n → x.2 ∈ xs
  | o :: rest, n, x, h => by
    have h' : x ∈ (if o = [] then [] else [((n : Int), o)]) ++ some1 rest (n + 1) := h
    rcases List.mem_append.mp h' with z | z
    · by_cases c : o = []
      · rw [if_pos c] at z; cases z
      · rw [if_neg c, List.mem_singleton] at z; rw [z]; exact List.mem_cons_self
    · exact List.mem_cons_of_mem _ (some1_mem z)
end Rw
namespace Rw
open PySem L2
theorem eqv_nil (ps : List Pt) : PyData.eqv (dL dPt ps) (dL dPt []) = decide (ps = []) := by
  cases ps with
  | nil => rfl
  | cons p ps => simp [dL, PyData.eqv, PyData.eqvAll]
end Rw
namespace Rw
open PySem L2
abbrev isR (F : Hp) (v : V) (rs : List Row) : Prop := (kL kRow).is F v rs
theorem DiceAt.frz {K : PySem.W.Frag} {F H F' H' : Hp} {d s a : Addr} {ns : List Int} {o : HO} (D : DiceAt K F H d s ns) (X : Ext (· = d) F H F' H') (D' : DiceAt K F' H' d s ns) (na : H a = none) (fa : F' a = none) (ha : H' a = some o) : DiceAt K (upd F' a o) H' d s ns := by
  obtain ⟨i, m, r, hd, g⟩ := D'.ex
  have X' := X.frz na fa ha
  exact ⟨X'.fh, by rw [upd_ne (D.ne na)]; exact D'.fd, X'.ff.seq D.sc, i, m, r, hd, g⟩
def spLaw1 (K : PySem.W.Frag) : Sp := fun vs H Q _ => ∃ (s : Addr) (ns : List Int), vs = [.ref s] ∧ SqL K H s (ns.map V.int) ∧ ∀ H', Q (.bl true) H'
structure Cals24 (P : Program) (w : World) (K : PySem.W.Frag) (mg : Str → Option Value) (base : Heap) : Prop where
  dice : Cal P w K mg base 1 "_law_dice" ["_law_script"] (spDice K)
  next : Cal P w K mg base 1 "_law_next" ["_law_dice_here", "_law_many"] (spNext K)
  rows : Cal P w K mg base 2 "_law_rows" ["_law_d", "_law_houses", "_law_far", "_law_most"] (spRows K)
  names : Cal P w K mg base 1 "_law_names" ["_law_rows_here"] spNames
  moved : Cal P w K mg base 1 "_law_moved" ["_law_rows_here", "_law_by"] spMoved
  told : Cal P w K mg base 1 "_law_told_rows" ["_law_names_here"] spTold
  like : Cal P w K mg base 6 "_law_like" ["_law_found", "_law_due"] (spLike 5)
  wrongly : Cal P w K mg base 6 "wrongly" ["lead", "dones"] spWrongly
def rLn (K : PySem.W.Frag) : List V → Hp → VK → Prop := fun xs H Q => ∃ x n, xs = [x] ∧ LenV K x H n ∧ Q (.int n) H
theorem call_ln {X : Cx} : CallR X (.builtin "len") (rLn X.K) := call_len
structure TxS (mg : Str → Option Value) : Prop where
  len : mg "len" = none
  range : mg "range" = none
abbrev N24 : List Str := ["_law_script","_law_d","_law_turn","_law_houses","_law_far","_law_lead","_law_dones","_law_k","_law_rows_here","_law_by","_law_names_here","_law_due","_law_more","_law_handed","_law_again","_law_found","_law_house","_law_name"]
section
variable {P : Program} {w : World} {K : PySem.W.Frag} {mg : Str → Option Value} {base : Heap}

set_option maxHeartbeats 0 in
theorem ok_law {f : Addr} {fd : FuncData} (F0 : Fun K "law" "law" s_law f fd) (T : TxS mg) (C : Cals24 P w K mg base) : FnOk P w K mg base CX0 7 f fd ["_law_script"] (spLaw1 K) := by
  obtain ⟨C1, C2, C3, C4, C5, C6, C7, C8⟩ := C
  obtain ⟨fD, fdD, GD, gD, kpD, bD⟩ := C1
  obtain ⟨fN, fdN, GN, gN, kpN, bN⟩ := C2
  obtain ⟨fR, fdR, GR, gR, kpR, bR⟩ := C3
  obtain ⟨fA, fdA, GA, gA, kpA, bA⟩ := C4
  obtain ⟨fM, fdM, GM, gM, kpM, bM⟩ := C5
  obtain ⟨fT, fdT, GT, gT, kpT, bT⟩ := C6
  obtain ⟨fL, fdL, GL, gL, kpL, bL⟩ := C7
  obtain ⟨fW, fdW, GW, gW, kpW, bW⟩ := C8
  refine F0.ok sc_law (fun vs H Q E h => ?_) (fun cdv A outer s0 H vs Q E hr h => ?_)
  · obtain ⟨s, ns, rfl, _⟩ := h
    rfl
  · obtain ⟨s, ns, rfl, hs, q⟩ := h
    have hr1 : Room 1 _ := hr.mono (by decide)
    have hr2 : Room 2 _ := hr.mono (by decide)
    have hu := hr.units
    have hu5 : (A.deeper (PyProof.Rows.envOfC "law" (defScope s_law) s0.heap.objs.size f cdv)).units + 65 < cLine := by have := hr.un; omega
    have hr6 : Room 6 _ := hr
    refine ⟨_, (pss_cons (ps_set (i := 1) sc_law.nd rfl (.inl rfl) (pe_call GD hr1 (by rfl) gD kpD bD .nil pass0 (pa_cons (pv 0) pa_nil)))
      (pss_cons (ps_for PassesOwn.never rfl (pi_range1 (by rfl) T.range (pa_cons pe_int pa_nil)) (pg_name (i := 2) sc_law.nd rfl (.inl rfl))
      (pss_cons (ps_par (i := 3) (j := 4) (by rfl) sc_law.nd rfl rfl (by decide) rfl rfl (pa_cons (pe_op op_add pe_int (pe_call GN hr1 (by rfl) gN kpN bN .nil pass0 (pa_cons (pv 1) (pa_cons pe_int pa_nil)))) (pa_cons (pe_ix ix_list (pe_lst (pa_cons pe_int (pa_cons pe_int pa_nil))) (pe_call GN hr1 (by rfl) gN kpN bN .nil pass0 (pa_cons (pv 1) (pa_cons pe_int pa_nil))) (fun _ _ => rfl)) pa_nil)) (by rfl))
      (pss_cons (ps_set (i := 5) sc_law.nd rfl (.inl rfl) (pe_call GR hr2 (by rfl) gR kpR bR .nil pass0 (pa_cons (pv 1) (pa_cons (pv 3) (pa_cons (pv 4) (pa_cons pe_int pa_nil))))))
      (pss_cons (ps_set (i := 6) sc_law.nd rfl (.inl rfl) (pe_lst pa_nil))
      (pss_cons (ps_for PassesOwn.never rfl (pi_range1 (by rfl) T.range (pa_cons (pe_call GN hr1 (by rfl) gN kpN bN .nil pass0 (pa_cons (pv 1) (pa_cons pe_int pa_nil))) pa_nil)) (pg_name (i := 7) sc_law.nd rfl (.inl rfl))
      (pss_cons (ps_set (i := 8) sc_law.nd rfl (.inl rfl) (pe_call GR hr2 (by rfl) gR kpR bR .nil pass0 (pa_cons (pv 1) (pa_cons (pv 3) (pa_cons (pv 4) (pa_cons pe_int pa_nil))))))
      (pss_one (ps_expr (pe_bm PySem.F.plainAttrs_list PySem.F.slot_list_append PySem.F.type_list_append mt_append (pv 6) (pa_cons (pe_ix ix_list (pe_lst (pa_cons (pv 8) (pa_cons (pe_slice sl_list (pv 5) po_none (po_some (pe_call GN hr1 (by rfl) gN kpN bN .nil pass0 (pa_cons (pv 1) (pa_cons pe_int pa_nil))))) (pa_cons (pe_op op_cat (pv 5) (pe_slice sl_list (pv 8) po_none (po_some pe_int))) pa_nil)))) (pe_call GN hr1 (by rfl) gN kpN bN .nil pass0 (pa_cons (pv 1) (pa_cons pe_int pa_nil))) (fun _ _ => rfl)) pa_nil))))))
      (pss_cons (ps_set (i := 9) sc_law.nd rfl (.inr rfl) (pe_ix ix_list (pe_lst (pa_cons pe_int (pa_cons (pe_op op_sub (pe_op op_pow pe_int pe_int) pe_int) pa_nil))) (pe_call GN hr1 (by rfl) gN kpN bN .nil pass0 (pa_cons (pv 1) (pa_cons pe_int pa_nil))) (fun _ _ => rfl)))
      (pss_cons (ps_set (i := 10) sc_law.nd rfl (.inr rfl) (pe_call GA hr1 (by rfl) gA kpA bA .nil pass0 (pa_cons (pv 5) pa_nil)))
      (pss_cons (ps_set (i := 11) sc_law.nd rfl (.inl rfl) (pe_lst pa_nil))
      (pss_cons (ps_for PassesOwn.never rfl (pi_range1 (by rfl) T.range (pa_cons (pe_callB call_ln (by rfl) T.len PySem.boot_len (pa_cons (pv 6) pa_nil)) pa_nil)) (pg_name (i := 7) sc_law.nd rfl (.inl rfl))
      (pss_cons (ps_setLc (i := 12) (own := [("_law_name", 17)]) (g := gName 17) (tt := tTest (tOp (rNotInD K) (tVar 17) (tVar 10))) (te := tVar 17) (by rfl) sc_law.nd rfl rfl (sw_true rfl rfl rfl (by decide +kernel)) (pi_list (pe_call GA hr1 (by rfl) gA kpA bA .nil pass0 (pa_cons (pe_ix ix_list (pv 6) (pv 7) (fun _ _ => rfl)) pa_nil)))
        (blkOk_by (own := [("_law_name", 17)]) (N := N24) (sc := defScope s_law) (by decide +kernel)) (fun _ _ _ _ _ => (pg_name (i := 17) sc_law.nd rfl (.inl rfl))) (fun _ _ _ _ _ => pts_one (pt_cmpR (op_notInD hu5) (pv 17) (pv 10) (by rfl))) (fun _ _ _ _ _ => (pv 17)))
      (pss_one (ps_if (pt_cmpR (op_neD hu) (pv 12) (pe_lst pa_nil) (nomark _)) (pss_one (ps_expr (pe_bm PySem.F.plainAttrs_list PySem.F.slot_list_append PySem.F.type_list_append mt_append (pv 11) (pa_cons (pe_tup (pa_cons (pv 7) (pa_cons (pe_call GM hr1 (by rfl) gM kpM bM .nil pass0 (pa_cons (pe_call GT hr1 (by rfl) gT kpT bT .nil pass0 (pa_cons (pv 12) pa_nil)) (pa_cons (pv 9) pa_nil))) pa_nil))) pa_nil)))) pss_nil))))
      (pss_cons (ps_set (i := 13) sc_law.nd rfl (.inl rfl) (pe_tup (pa_cons (pe_call GM hr1 (by rfl) gM kpM bM .nil pass0 (pa_cons (pv 5) (pa_cons (pv 9) pa_nil))) (pa_cons (pe_lc (own := [("_law_rows_here", 8)]) (g := gName 8) (tt := tYes) (te := tCall spMoved [] E0 (tCons (tVar 8) (tCons (tVar 9) tNil))) (by rfl) sc_law.nd (pi_list (pv 6))
        (blkOk_by (own := [("_law_rows_here", 8)]) (N := N24) (sc := defScope s_law) (by decide +kernel)) (fun _ _ _ _ _ => (pg_name (i := 8) sc_law.nd rfl (.inl rfl))) (fun _ _ _ _ _ => pts_nil) (fun _ _ _ _ _ => (pe_call GM hr1 (by rfl) gM kpM bM .nil pass0 (pa_cons (pv 8) (pa_cons (pv 9) pa_nil))))) pa_nil))))
      (pss_one (ps_for PassesOwn.never rfl (pi_range1 (by rfl) T.range (pa_cons pe_int pa_nil)) (pg_name (i := 14) sc_law.nd rfl (.inl rfl))
      (pss_cons (ps_set (i := 15) sc_law.nd rfl (.inl rfl) (pe_call GW hr6 (by rfl) gW kpW bW .nil pass0 (pa_cons (pe_ix ix_tup (pv 13) pe_int (fun _ _ => rfl)) (pa_cons (pe_ix ix_tup (pv 13) pe_int (fun _ _ => rfl)) pa_nil))))
      (pss_cons (ps_if (PW.pt (pw_or (pt_not (pt_val (pe_call GL hr6 (by rfl) gL kpL bL .nil pass0 (pa_cons (pv 15) (pa_cons (pv 11) pa_nil))))) (pw_or1 (pt_cmpR (op_neD hu) (pe_ix ix_tup (pv 13) pe_int (fun _ _ => rfl)) (pe_call GM hr1 (by rfl) gM kpM bM .nil pass0 (pa_cons (pv 5) (pa_cons (pv 9) pa_nil))) (nomark _))))) (pss_one (ps_ret pe_bl)) pss_nil)
      (pss_cons (ps_if (pt_cmpR (op_neD hu) (pe_ix ix_tup (pv 13) pe_int (fun _ _ => rfl)) (pe_lc (own := [("_law_rows_here", 8)]) (g := gName 8) (tt := tYes) (te := tCall spMoved [] E0 (tCons (tVar 8) (tCons (tVar 9) tNil))) (by rfl) sc_law.nd (pi_list (pv 6))
        (blkOk_by (own := [("_law_rows_here", 8)]) (N := N24) (sc := defScope s_law) (by decide +kernel)) (fun _ _ _ _ _ => (pg_name (i := 8) sc_law.nd rfl (.inl rfl))) (fun _ _ _ _ _ => pts_nil) (fun _ _ _ _ _ => (pe_call GM hr1 (by rfl) gM kpM bM .nil pass0 (pa_cons (pv 8) (pa_cons (pv 9) pa_nil))))) (nomark _)) (pss_one (ps_ret pe_bl)) pss_nil)
      (pss_cons (ps_for PassesOwn.never rfl (pi_list (pv 15)) (pg_tup (by rfl) (pgs_cons (pg_name (i := 16) sc_law.nd rfl (.inl rfl)) (pgs_cons (pg_name (i := 8) sc_law.nd rfl (.inl rfl)) pgs_nil)))
      (pss_one (ps_expr (pe_bm PySem.F.plainAttrs_list PySem.F.slot_list_append PySem.F.type_list_append mt_append (pv 8) (pa_cons pe_int pa_nil)))))
      (pss_one (ps_expr (pe_bm PySem.F.plainAttrs_list PySem.F.slot_list_append PySem.F.type_list_append mt_append (pv 15) (pa_cons pe_int pa_nil))))))))))))))))))))
      (pss_one (ps_ret pe_bl)))), ?_⟩
    refine ⟨_, rfl, s, ns, rfl, hs, fun d m nd gd => ?_⟩
    have D0 : DiceAt K H (upd H d (dice s 0 m 0)) d s ns := ⟨same_upd nd, nd, hs, 0, m, 0, upd_same, gd⟩
    refine ⟨4, rfl, by decide, by decide, for_range (lo := 0) (n := (4 : Int).toNat) (fun i σ H' => ∃ F' y2 y3 y4 y5 y6 y7 y8 y9 y10 y11 y12 y13 y14 y15 y16, σ = [some (.ref s), some (.ref d), y2, y3, y4, y5, y6, y7, y8, y9, y10, y11, y12, y13, y14, y15, y16, none] ∧ DiceAt K F' H' d s ns)
      ⟨H, none, none, none, none, none, none, none, none, none, none, none, none, none, none, none, rfl, D0⟩ ?_ ?_⟩
    · rintro i σ H1 hi ⟨F1, y2, y3, y4, y5, y6, y7, y8, y9, y10, y11, y12, y13, y14, y15, y16, rfl, D1⟩
      have eL : LIM = 1000000000000 := rfl
      -- houses, far
      refine ⟨_, rfl, F1, d, s, ns, 6, rfl, D1, by decide, by decide, fun h H2 h0 h6 X2 D2 => ⟨_, _, rfl, rfl, ?_⟩⟩
      refine ⟨by show 2 ≤ sizeLine; decide, fun p np => ?_⟩
      have dp : d ≠ p := D2.ne np
      have D3 := D2.tmp (o := .lst [.int 6, .int 20]) np
      refine ⟨_, rfl, F1, d, s, ns, 2, rfl, D3, by decide, by decide, fun e H4 e0 e1 X4 D4 => ?_⟩
      have hp4 : H4 p = some (.lst [.int 6, .int 20]) := X4.hh _ _ upd_same fun z => dp z.symm
      obtain ⟨far, f1, f20, hw⟩ : ∃ far : Int, 1 ≤ far ∧ far ≤ 20 ∧ atI [V.int 6, V.int 20] e = some (.int far) := by
        rcases (show e = 0 ∨ e = 1 by omega) with z | z
        · exact ⟨6, by decide, by decide, by rw [z]; rfl⟩
        · exact ⟨20, by decide, by decide, by rw [z]; rfl⟩
      refine ⟨p, _, e, _, rfl, rfl, SqL.of hp4, hw, _, _, rfl, ?_⟩
      clear hw hp4 D3 D2 X2 X4 dp np
      -- lead
      refine ⟨_, rfl, _, rfl, _, rfl, F1, d, s, ns, 1 + h, far, 12, rfl, D4, by omega, by omega, f1, by omega, by decide, by decide, fun F5 H5 al xl lead X5 D5 nal fal hal hpl hll hdl => ?_⟩
      have D6 := D4.frz X5 D5 nal fal hal
      have kl : (kL kRow).is (upd F5 al (.lst xl)) (.ref al) lead := kL_new fal hpl
      have hdl' : ∀ r ∈ lead, Drawn 6 20 r := fun r hr => by
        obtain ⟨a1, a2, a3, a4, a5⟩ := hdl r hr
        exact ⟨a1, by omega, a3, a4, by omega⟩
      revert D6 kl
      generalize upd F5 al (.lst xl) = F6
      intro D6 kl
      clear D5 X5 hpl fal hdl
      -- dones = []
      refine ⟨Nat.zero_le _, fun o no => ?_⟩
      have dO : d ≠ o := D6.ne no
      have Fo : F6 o = none := D6.fh.free no
      have D7 : DiceAt K F6 (upd H5 o (.lst [])) d s ns := D6.tmp no
      have ho7 : upd H5 o (.lst []) o = some (.lst []) := upd_same
      revert D7 ho7
      generalize upd H5 o (.lst []) = H7
      intro D7 ho7
      refine ⟨_, rfl, F6, d, s, ns, 7, rfl, D7, by decide, by decide, fun z H8 z0 z7 X8 D8 => ⟨z, rfl, by omega, by omega, ?_⟩⟩
      have ho8 : H8 o = some (.lst []) := X8.hh _ _ ho7 fun e => dO e.symm
      refine for_range (lo := 0) (n := z.toNat) (fun k σ H' => ∃ F' acc sets y7 y8, σ = [some (.ref s), some (.ref d), some (.int (0 + (i : Int))), some (.int (1 + h)), some (.int far), some (.ref al), some (.ref o), y7, y8, y9, y10, y11, y12, y13, y14, y15, y16, none] ∧ DiceAt K F' H' d s ns ∧ (kL kRow).is F' (.ref al) lead ∧ H' o = some (.lst acc) ∧ F' o = none ∧ Paired ((kL kRow).is F') acc sets ∧ sets.length = k ∧
          (∀ rs ∈ sets, rs.length ≤ 13 ∧ ∀ r ∈ rs, Drawn 6 20 r)) ⟨F6, [], [], y7, y8, rfl, D8, kl, ho8, Fo, .nil, rfl, fun r h => absurd h (by simp)⟩ ?_ ?_
      · rintro k σ H9 hk ⟨F9, acc, sets, y7, y8, rfl, D9, kl9, ho9, fo9, hac, hlen, hall⟩
        have lac : acc.length = k := (pr_len hac).trans hlen
        -- rows_here
        refine ⟨_, rfl, _, rfl, _, rfl, F9, d, s, ns, 1 + h, far, 6, rfl, D9, by omega, by omega, f1, by omega, by decide, by decide, fun F10 H10 ar xr rows X10 D10 nar far' har hpr hlr hdr => ?_⟩
        have D11 := D9.frz X10 D10 nar far' har
        have Y10 := X10.frz nar far' har
        have kr : (kL kRow).is (upd F10 ar (.lst xr)) (.ref ar) rows := kL_new far' hpr
        have ho10 : H10 o = some (.lst acc) := X10.hh _ _ ho9 fun z => dO z.symm
        have fo10 : upd F10 ar (.lst xr) o = none := by rw [Y10.new o (by rw [ho9]; simp)]; exact fo9
        have kl10 := (kL kRow).mono Y10.ff kl9
        have hac10 := pr_mono (fun _ _ z => (kL kRow).mono Y10.ff z) hac
        have hdr' : ∀ r ∈ rows, Drawn 6 20 r := fun r hr => by
          obtain ⟨a1, a2, a3, a4, a5⟩ := hdr r hr
          exact ⟨a1, by omega, a3, a4, by omega⟩
        revert D11 kr fo10 kl10 hac10
        generalize upd F10 ar (.lst xr) = F11
        intro D11 kr fo10 kl10 hac10
        clear D10 X10 Y10 hpr far' hdr hac kl9 D9 fo9 ho9
        -- the three
        refine ⟨_, rfl, .inl ⟨rfl, _, SqL.of ho10⟩, ?_⟩
        obtain ⟨al', xl, eal, hal, hpl⟩ := id kl10
        cases eal
        obtain ⟨ar', xr, ear, har, hpr⟩ := id kr
        cases ear
        refine ⟨_, rfl, _, rfl, _, rfl, F11, d, s, ns, 12, rfl, D11, by decide, by decide, fun n H12 n0 n12 X12 D12 => ?_⟩
        refine ⟨n, rfl, al, xl, rfl, SqL.of (D12.fh _ _ hal), fun p1 np1 => ?_⟩
        rw [cut_pre xl n n0]
        have ho12 : H12 o = some (.lst acc) := X12.hh _ _ ho10 fun z => dO z.symm
        have op1 : o ≠ p1 := ne_of_none ho12 np1
        have D13 := D12.lay (o := .lst (xl.take n.toNat)) np1
        have fp1 : F11 p1 = none := D12.fh.free np1
        have ho13 : upd H12 p1 (.lst (xl.take n.toNat)) o = some (.lst acc) := by rw [upd_ne op1]; exact ho12
        have fo13 : upd F11 p1 (.lst (xl.take n.toNat)) o = none := by rw [upd_ne op1]; exact fo10
        have sm13 : Same F11 (upd F11 p1 (.lst (xl.take n.toNat))) := same_upd fp1
        have kp : (kL kRow).is (upd F11 p1 (.lst (xl.take n.toNat))) (.ref p1) (lead.take n.toNat) := kL_new fp1 (pr_take _ hpl)
        revert D13 ho13 fo13 sm13 kp
        generalize upd F11 p1 (.lst (xl.take n.toNat)) = F13
        generalize upd H12 p1 (.lst (xl.take n.toNat)) = H13
        intro D13 ho13 fo13 sm13 kp
        refine ⟨_, rfl, _, rfl, 1, rfl, ar, xr, rfl, SqL.of (D13.fh _ _ (sm13 _ _ har)), fun p2 np2 => ?_⟩
        rw [cut_first]
        have D14 := D13.tmp (o := .lst (xr.take 1)) np2
        have hal13 := D13.fh _ _ (sm13 _ _ hal)
        have al2 : al ≠ p2 := ne_of_none hal13 np2
        have op2 : o ≠ p2 := ne_of_none ho13 np2
        have l1 : xl.length ≤ 12 := by rw [pr_len hpl]; omega
        refine ⟨al, p2, xl, xr.take 1, rfl, rfl, by rw [upd_ne al2]; exact hal13, upd_same, by rw [List.length_take, sizeLine_eq]; omega, fun p3 np3 => ?_⟩
        have ho14 : upd H13 p2 (.lst (xr.take 1)) o = some (.lst acc) := by rw [upd_ne op2]; exact ho13
        have op3 : o ≠ p3 := ne_of_none ho14 np3
        have D15 := D14.lay (o := .lst (xl ++ xr.take 1)) np3
        have fp3 : F13 p3 = none := D14.fh.free np3
        have ho15 : upd (upd H13 p2 (.lst (xr.take 1))) p3 (.lst (xl ++ xr.take 1)) o = some (.lst acc) := by rw [upd_ne op3]; exact ho14
        have fo15 : upd F13 p3 (.lst (xl ++ xr.take 1)) o = none := by rw [upd_ne op3]; exact fo13
        have sm15 : Same F13 (upd F13 p3 (.lst (xl ++ xr.take 1))) := same_upd fp3
        have kc : (kL kRow).is (upd F13 p3 (.lst (xl ++ xr.take 1))) (.ref p3) (lead ++ rows.take 1) := kL_new fp3 (pr_append (pr_mono (fun _ _ z => kRow.mono sm13 z) hpl) (pr_take 1 (pr_mono (fun _ _ z => kRow.mono sm13 z) hpr)))
        revert D15 ho15 fo15 sm15 kc
        generalize upd F13 p3 (.lst (xl ++ xr.take 1)) = F15
        generalize upd (upd H13 p2 (.lst (xr.take 1))) p3 (.lst (xl ++ xr.take 1)) = H15
        intro D15 ho15 fo15 sm15 kc
        refine ⟨by show 3 ≤ sizeLine; decide, fun p4 np4 => ?_⟩
        have dp4 : d ≠ p4 := D15.ne np4
        have op4 : o ≠ p4 := ne_of_none ho15 np4
        have D16 := D15.tmp (o := .lst [.ref ar, .ref p1, .ref p3]) np4
        refine ⟨_, rfl, F15, d, s, ns, 3, rfl, D16, by decide, by decide, fun c H17 c0 c3 X17 D17 => ?_⟩
        have hp17 : H17 p4 = some (.lst [.ref ar, .ref p1, .ref p3]) := X17.hh _ _ upd_same fun z => dp4 z.symm
        have ho17 : H17 o = some (.lst acc) := X17.hh _ _ (by rw [upd_ne op4]; exact ho15) fun z => dO z.symm
        obtain ⟨v, rs, hv, hrs, lrs, drs⟩ : ∃ (v : V) (rs : List Row), atI [V.ref ar, V.ref p1, V.ref p3] c = some v ∧ (kL kRow).is F15 v rs ∧ rs.length ≤ 13 ∧ ∀ r ∈ rs, Drawn 6 20 r := by
          rcases (show c = 0 ∨ c = 1 ∨ c = 2 by omega) with z | z | z
          · exact ⟨.ref ar, rows, by rw [z]; rfl, (kL kRow).mono (sm13.trans sm15) kr, by omega, hdr'⟩
          · exact ⟨.ref p1, lead.take n.toNat, by rw [z]; rfl, (kL kRow).mono sm15 kp, by rw [List.length_take]; omega, fun r hr => hdl' r (List.mem_of_mem_take hr)⟩
          · exact ⟨.ref p3, lead ++ rows.take 1, by rw [z]; rfl, kc, by rw [List.length_append, List.length_take]; omega, fun r hr => (List.mem_append.mp hr).elim (hdl' r) fun q => hdr' r (List.mem_of_mem_take q)⟩
        refine ⟨p4, _, c, v, rfl, rfl, SqL.of hp17, hv, ?_⟩
        refine ⟨o, acc, v, rfl, rfl, ho17, by rw [sizeLine_eq]; omega, ?_⟩
        refine ⟨F15, acc ++ [v], sets ++ [rs], _, _, rfl, D17.set dO fo15, (kL kRow).mono (sm13.trans sm15) kl10, upd_same, fo15, pr_snoc (pr_mono (fun _ _ z => (kL kRow).mono (sm13.trans sm15) z) hac10) hrs, by rw [List.length_append, hlen]; rfl, fun q hq => ?_⟩
        rcases List.mem_append.mp hq with hq | hq
        · exact hall q hq
        · rw [List.mem_singleton.mp hq]; exact ⟨lrs, drs⟩
      · rintro σ H9 ⟨F9, acc, dones, y7, y8, rfl, D9, kl9, ho9, fo9, hac, hlen, hall⟩
        have n6 : dones.length ≤ 6 := by omega
        -- from now on dones never changes
        have DZ := D9.fz dO fo9 ho9
        have kd : (kL (kL kRow)).is (upd F9 o (.lst acc)) (.ref o) dones := kL_new fo9 hac
        have kl10 := (kL kRow).mono (same_upd (o := .lst acc) fo9) kl9
        revert DZ kd kl10
        generalize upd F9 o (.lst acc) = F10
        intro DZ kd kl10
        clear D9 kl9 hac fo9 ho8 X8 D8 D7 ho7
        -- by
        refine ⟨_, _, rfl, rfl, ⟨by decide, by decide, by decide⟩, _, _, rfl, rfl, by show 2 ≤ sizeLine; decide, fun p np => ?_⟩
        have dp : d ≠ p := DZ.ne np
        have D10 := DZ.tmp (o := .lst [.int 0, .int (10 ^ (12 : Int).toNat - 50)]) np
        have hp10 : upd H9 p (.lst [.int 0, .int (10 ^ (12 : Int).toNat - 50)]) p = some (.lst [.int 0, .int (10 ^ (12 : Int).toNat - 50)]) := upd_same
        refine ⟨_, rfl, F10, d, s, ns, 2, rfl, D10, by decide, by decide, fun e H11 e0 e1 X11 D11 => ?_⟩
        have hp11 := X11.hh _ _ hp10 fun z => dp z.symm
        obtain ⟨by', b0, b12, hw⟩ : ∃ b : Int, 0 ≤ b ∧ b ≤ 999999999950 ∧ atI [V.int 0, V.int (10 ^ (12 : Int).toNat - 50)] e = some (.int b) := by
          rcases (show e = 0 ∨ e = 1 by omega) with z | z
          · exact ⟨0, by decide, by decide, by rw [z]; rfl⟩
          · exact ⟨10 ^ (12 : Int).toNat - 50, by decide, by decide, by rw [z]; rfl⟩
        refine ⟨p, _, e, _, rfl, rfl, SqL.of hp11, hw, ?_⟩
        clear hp11 hp10 D10 dp np hw
        -- names_here
        have B0 : S24 K (absb F10 H11) H11 d s ns (.ref al) lead (.ref o) dones := ⟨D11.absb, (kL kRow).mono (absb_sub D11.fh) kl10, (kL (kL kRow)).mono (absb_sub D11.fh) kd⟩
        have fu : Full (absb F10 H11) H11 := absb_full
        revert B0 fu
        generalize absb F10 H11 = F11
        intro B0 fu
        clear D11 kl10 kd DZ X11
        refine ⟨_, rfl, F11, .ref al, lead, rfl, B0.dice.fh, fu, B0.lead, ⟨by omega, fun r hr => by obtain ⟨a1, a2, a3, a4, a5⟩ := hdl' r hr; exact ⟨a3, a4, by omega⟩⟩, fun F12 H12 an vn ln X12 nan fan han hpn nmL => ?_⟩
        have XN := X12.frz nan fan han
        have kn : (kL kPt).is (upd F12 an (.lst vn)) (.ref an) ln := kL_new fan hpn
        have B1 : S24 K (absb (upd F12 an (.lst vn)) H12) H12 d s ns (.ref al) lead (.ref o) dones := ⟨(B0.step XN).dice.absb, (kL kRow).mono (absb_sub XN.fh) (B0.step XN).lead, (kL (kL kRow)).mono (absb_sub XN.fh) (B0.step XN).dones⟩
        have kn1 := (kL kPt).mono (absb_sub XN.fh) kn
        have fu1 : Full (absb (upd F12 an (.lst vn)) H12) H12 := absb_full
        revert B1 kn1 fu1
        generalize absb (upd F12 an (.lst vn)) H12 = F13
        intro B1 kn1 fu1
        clear kn XN X12 hpn fan B0 fu han nan
        -- due = []
        refine ⟨Nat.zero_le _, fun u nu => ?_⟩
        have Fu : F13 u = none := B1.dice.fh.free nu
        have XU : Ext M0 F13 H12 F13 (upd H12 u (.lst [])) := (Ext.refl B1.dice.fh).tmp nu
        have hu2 : upd H12 u (.lst []) u = some (.lst []) := upd_same
        revert XU hu2
        generalize upd H12 u (.lst []) = H13
        intro XU hu2
        obtain ⟨o', vo, eo, hoF, hvo⟩ := id B1.dones
        cases eo
        have lvo : vo.length = dones.length := pr_len hvo
        refine ⟨_, rfl, _, vo.length, rfl, .inl ⟨vo, SqL.of (XU.fh _ _ (XU.ff _ _ hoF)), rfl⟩, vo.length, rfl, by omega, by omega, ?_⟩
        refine for_range (lo := 0) (n := (vo.length : Int).toNat) (fun k σ H' => ∃ F' dacc ts y7 y12, σ = [some (.ref s), some (.ref d), some (.int (0 + (i : Int))), some (.int (1 + h)), some (.int far), some (.ref al), some (.ref o), y7, y8, some (.int by'), some (.ref an), some (.ref u), y12, y13, y14, y15, y16, none] ∧ Ext M0 F13 H12 F' H' ∧ H' u = some (.lst dacc) ∧ F' u = none ∧ Paired (kDue.is F') dacc (some1 (ts.map (moved by')) 0) ∧ ts.length = k ∧
            (∀ t ∈ ts, t.length ≤ 5200) ∧ ∀ (j : Nat) (rs t : List Row), dones[j]? = some rs → ts[j]? = some t → MoreOf lead rs t)
          ⟨F13, [], [], y7, y12, rfl, XU, hu2, Fu, .nil, rfl, fun t h => absurd h (by simp), fun j rs t _ h => absurd h (by simp)⟩ ?_ ?_
        · rintro k σ H14 hk ⟨F14, dacc, ts, y7, y12, rfl, X14, hu14, fu14, hda, hln, hts, hall2⟩
          have kd : k < dones.length := by omega
          obtain ⟨rs, hrs⟩ : ∃ rs, dones[k]? = some rs := ⟨_, List.getElem?_eq_getElem kd⟩
          obtain ⟨vk, hvk, krs⟩ := pr_get' hvo hrs
          obtain ⟨rl, rd⟩ := hall rs (List.mem_of_getElem? hrs)
          have XB := Ext.absb fu1 X14
          have fuB : Full (absb F14 H14) H14 := absb_full
          have uB : absb F14 H14 u = none := by rw [absb_ne (fun xs e => by rw [hu14] at e; cases e)]; exact fu14
          have hdaB := pr_mono (fun _ _ z => kDue.mono (absb_sub X14.fh) z) hda
          revert XB fuB uB hdaB
          generalize absb F14 H14 = F15
          intro XB fuB uB hdaB
          clear X14 fu14 hda
          -- more
          have hoK := XB.fh _ _ (XB.ff _ _ hoF)
          refine ⟨_, rfl, _, rfl, o, vo, _, vk, rfl, rfl, SqL.of hoK, by rw [Int.zero_add]; exact atI_nat hvk, ?_⟩
          refine ⟨F15, vk, rs, rfl, XB.fh, fuB, (kL kRow).mono XB.ff krs, ⟨by omega, fun r hr => by obtain ⟨a1, a2, a3, a4, a5⟩ := rd r hr; exact ⟨a3, a4, by omega⟩⟩, fun F16 H16 aq vq qs X16 naq faq haq hpq nmQ => ?_⟩
          have XQ := XB.trans X16
          have hu16 : H16 u = some (.lst dacc) := X16.same _ _ hu14
          have uq : u ≠ aq := ne_of_none hu14 naq
          have f16u : F16 u = none := by rw [X16.new u (by rw [hu14]; simp)]; exact uB
          have XF := XQ.frz (XB.free naq) faq haq
          have fFu : upd F16 aq (.lst vq) u = none := by rw [upd_ne uq]; exact f16u
          have hpq' : Paired (kPt.is (upd F16 aq (.lst vq))) vq qs := pr_mono (fun _ _ z => kPt.mono (same_upd faq) z) hpq
          have haF : upd F16 aq (.lst vq) aq = some (.lst vq) := upd_same
          have hdaF := pr_mono (fun _ _ z => kDue.mono (X16.ff.trans (same_upd (o := .lst vq) faq)) z) hdaB
          revert XF fFu hpq' haF hdaF
          generalize upd F16 aq (.lst vq) = F17
          intro XF fFu hpq' haF hdaF
          clear XQ X16 hpq XB uB fuB hdaB f16u
          refine ⟨aq, rfl, ⟨vq, SqL.of haq⟩, fun Dm nDm => ?_⟩
          have uDm : u ≠ Dm := ne_of_none hu16 nDm
          obtain ⟨an', vn', ean, hanF, hpn⟩ := (kL kPt).mono XF.ff kn1
          cases ean
          refine it_by (walk_list (K := K) (a := aq) (xs := vq)) (fun j H' => ∃ vacc : List V, Ext M0 F17 H16 F17 H' ∧ H' Dm = some (.lst vacc) ∧ Paired (kPt.is F17) vacc ((qs.take j).filter fun p => !decide (p ∈ ln)))
            ⟨[], (Ext.refl XF.fh).tmp nDm, upd_same, .nil⟩ (fun j H' _ ⟨_, X, _⟩ => SqL.of (X.fh _ _ haF)) ?_ ?_
          · rintro j x Hq H18 hj ⟨vacc, X18, hD18, hpv⟩ ⟨rfl, hx⟩
            obtain ⟨p, hp, hxp⟩ := pr_get hpq' hx
            have lq : qs.length ≤ 400 * rs.length := nmQ.len
            have lv : vacc.length ≤ 5200 := by
              rw [pr_len hpv]
              have := List.length_filter_le (fun p => !decide (p ∈ ln)) (qs.take j)
              have := List.length_take_le' j qs
              omega
            have eT : (qs.take (j + 1)).filter (fun p => !decide (p ∈ ln)) = (qs.take j).filter (fun p => !decide (p ∈ ln)) ++ [p].filter fun p => !decide (p ∈ ln) := by
              rw [List.take_add_one, hp, ← List.filter_append]; rfl
            refine ⟨rfl, _, rfl, _, rfl, dPt p, ln.map dPt, enc_pt.dp X18.fh hxp, .lst (SqL.of (X18.fh _ _ hanF)) (dpAll enc_pt X18.fh hpn), shaped_pt p, shaped_pts ln, ?_⟩
            rw [any_pts]
            by_cases m : p ∈ ln
            · rw [decide_eq_true m]
              refine ⟨_, rfl, vacc, X18, hD18, ?_⟩
              rw [eT, List.filter_cons_of_neg (by simp [m])]
              simpa using hpv
            · rw [decide_eq_false m]
              refine ⟨_, rfl, _, rfl, vacc, hD18, by rw [sizeLine_eq]; omega, vacc ++ [x], X18.put (.inl nDm) (XF.fh.free nDm), upd_same, ?_⟩
              rw [eT, List.filter_cons_of_pos (by simp [m])]
              exact pr_snoc hpv hxp
          · rintro H18 ⟨vacc, X18, hD18, hpv⟩
            rw [pr_len hpq', List.take_length] at hpv
            have fDm := XF.fh.free nDm
            have XM := XF.trans (X18.frz nDm fDm hD18)
            have kmore : (kL kPt).is (upd F17 Dm (.lst vacc)) (.ref Dm) (qs.filter fun p => !decide (p ∈ ln)) := kL_new fDm hpv
            have hu18 : H18 u = some (.lst dacc) := X18.same _ _ hu16
            have fMu : upd F17 Dm (.lst vacc) u = none := by rw [upd_ne uDm]; exact fFu
            have hdaM := pr_mono (fun _ _ z => kDue.mono (same_upd (o := .lst vacc) fDm) z) hdaF
            have lm : (qs.filter fun p => !decide (p ∈ ln)).length ≤ 5200 := by
              have := List.length_filter_le (fun p => !decide (p ∈ ln)) qs
              have := nmQ.len
              omega
            have memM : ∀ p, p ∈ (qs.filter fun p => !decide (p ∈ ln)) ↔ mem rs p ∧ ¬ mem lead p := fun p => by
              rw [List.mem_filter, nmQ.mem, ← nmL.mem]
              simp
            have srt : (qs.filter fun p => !decide (p ∈ ln)).Pairwise lt2 := nmQ.sort.filter _
            revert XM kmore fMu hdaM lm memM srt
            generalize upd F17 Dm (.lst vacc) = F18
            generalize (qs.filter fun p => !decide (p ∈ ln)) = more
            intro XM kmore fMu hdaM lm memM srt
            clear X18 XF hpv hdaF fFu hpq' haF fDm
            have n100 : ∀ ts' : List (List Row), (some1 ts' 0).length ≤ ts'.length := fun ts' => some1_len ts' 0
            have lda : dacc.length ≤ 6 := by
              rw [pr_len hdaM]
              have := n100 (ts.map (moved by'))
              rw [List.length_map] at this
              omega
            have fin : ∀ t : List Row, MoreOf lead rs t → ∀ (j : Nat) (rs' t' : List Row), dones[j]? = some rs' → (ts ++ [t])[j]? = some t' → MoreOf lead rs' t' := fun t mt j rs' t' e1 e2 => by
              by_cases hj : j < ts.length
              · rw [List.getElem?_append_left hj] at e2
                exact hall2 j rs' t' e1 e2
              · have ej : j = ts.length := by
                  have := (List.getElem?_eq_some_iff.mp e2).1
                  rw [List.length_append, List.length_singleton] at this
                  omega
                rw [ej, List.getElem?_append_right (Nat.le_refl _), Nat.sub_self] at e2
                cases e2
                rw [ej, hln, hrs] at e1
                cases e1
                exact mt
            -- more != []
            refine ⟨_, rfl, Nat.zero_le _, fun p1 np1 => ?_⟩
            have up1 : u ≠ p1 := ne_of_none hu18 np1
            have XN := XM.tmp (o := .lst []) np1
            have hu19 : upd H18 p1 (.lst []) u = some (.lst dacc) := by rw [upd_ne up1]; exact hu18
            refine ⟨dL dPt more, dL dPt [], (enc_L enc_pt).dp XN.fh kmore, (enc_L enc_pt).dp (k := kL kPt) (Same.refl _) ⟨p1, [], rfl, upd_same, .nil⟩, shaped_pts _, shaped_pts _, ?_⟩
            rw [show PyData.eqv (dL dPt more) (dL dPt []) = decide (more = []) from eqv_nil more]
            revert XN hu19
            generalize upd H18 p1 (.lst []) = H19
            intro XN hu19
            by_cases em : more = []
            · rw [show (!decide (more = [])) = false by rw [decide_eq_true em]; rfl]
              refine ⟨_, rfl, iteF ?_⟩
              have mo : MoreOf lead rs [] := ⟨.nil, fun p => by rw [← memM p, em]; exact ⟨fun z => absurd z mem_nil, fun z => absurd z (by simp)⟩⟩
              refine ⟨F18, dacc, ts ++ [[]], _, _, rfl, XN, hu19, fMu, ?_, by simp [hln], fun t ht => ?_, fin [] mo⟩
              · rw [List.map_append, List.map_singleton, some1_snoc, if_pos (show moved by' [] = [] from rfl), List.append_nil]; exact hdaM
              · rcases List.mem_append.mp ht with ht | ht
                · exact hts t ht
                · rw [List.mem_singleton.mp ht]; exact Nat.zero_le _
            · rw [show (!decide (more = [])) = true by rw [decide_eq_false em]; rfl]
              refine ⟨_, rfl, iteT ?_⟩
              refine ⟨_, rfl, .inl ⟨rfl, _, SqL.of hu19⟩, _, rfl, _, rfl, F18, .ref Dm, more, rfl, XN.fh, kmore, srt, by omega, fun F20 H20 at' vt t X20 nat fat hat hpt told => ?_⟩
              have Y20 := X20.frz nat fat hat
              have tl : t.length ≤ 5200 := Nat.le_trans told.len lm
              have hu20 : H20 u = some (.lst dacc) := X20.same _ _ hu19
              refine ⟨_, rfl, upd F20 at' (.lst vt), .ref at', t, by', rfl, Y20.fh, kL_new fat hpt, by omega, fun F21 H21 am vm mm X21 nam fam ham hpm em' => ?_⟩
              have Y21 := X21.frz nam fam ham
              have hu21 : H21 u = some (.lst dacc) := X21.same _ _ hu20
              refine ⟨by show 2 ≤ sizeLine; decide, fun t3 nt3 => ?_⟩
              have ut3 : u ≠ t3 := ne_of_none hu21 nt3
              have XX : Ext M0 F18 H19 (upd F21 am (.lst vm)) H21 := Y20.trans Y21
              have km : (kL kRow).is (upd F21 am (.lst vm)) (.ref am) mm := kL_new fam hpm
              have fXu : upd F21 am (.lst vm) u = none := by rw [XX.new u (by rw [hu19]; simp)]; exact fMu
              revert XX km fXu
              generalize upd F21 am (.lst vm) = F22
              intro XX km fXu
              have ZZ := (XN.trans XX).lay (o := .tup [.int (0 + (k : Int)), .ref am]) nt3
              have fZ : upd F22 t3 (.tup [.int (0 + (k : Int)), .ref am]) u = none := by rw [upd_ne ut3]; exact fXu
              have smZ : Same F22 (upd F22 t3 (.tup [.int (0 + (k : Int)), .ref am])) := same_upd (XX.fh.free nt3)
              refine ⟨u, dacc, _, rfl, rfl, by rw [upd_ne ut3]; exact hu21, by rw [sizeLine_eq]; omega, ?_⟩
              have mo : MoreOf lead rs t := ⟨told.can, fun p => by rw [told.mem, memM]⟩
              have tne : t ≠ [] := fun e => em (by
                cases more with
                | nil => rfl
                | cons p _ => exact absurd ((told.mem p).mpr List.mem_cons_self) (by rw [e]; exact mem_nil))
              refine ⟨upd F22 t3 (.tup [.int (0 + (k : Int)), .ref am]), dacc ++ [.ref t3], ts ++ [t], _, _, rfl, ZZ.put (.inl nu) fZ, upd_same, fZ, ?_, by simp [hln], fun t' ht => ?_, fin t mo⟩
              · rw [List.map_append, List.map_singleton, some1_snoc, if_neg (fun e => tne (by
                  have := congrArg List.length e
                  rw [moved_len] at this
                  exact List.eq_nil_of_length_eq_zero this))]
                refine pr_snoc (pr_mono (fun _ _ z => kDue.mono (XX.ff.trans smZ) z) hdaM) ⟨t3, .ref am, rfl, ?_, ?_⟩
                · rw [upd_same, List.length_map, hln, Int.zero_add]
                · exact em' ▸ (kL kRow).mono smZ km
              · rcases List.mem_append.mp ht with ht | ht
                · exact hts t' ht
                · rw [List.mem_singleton.mp ht]; exact tl
        · rintro σ H14 ⟨F14, dacc, ts, y7, y12, rfl, X14, hu14, fu14, hda, hln, hts, hall2⟩
          have hlt : ts.length = dones.length := by omega
          have kdue : (kL kDue).is (upd F14 u (.lst dacc)) (.ref u) (some1 (ts.map (moved by')) 0) := kL_new fu14 hda
          have BU := B1.step (X14.frz nu fu14 hu14)
          have ls : (some1 (ts.map (moved by')) 0).length ≤ 6 := by
            have := some1_len (ts.map (moved by')) 0
            rw [List.length_map] at this
            omega
          have lrow : ∀ x ∈ some1 (ts.map (moved by')) 0, x.2.length ≤ 5200 := fun x hx => by
            obtain ⟨t, ht, e⟩ := List.mem_map.mp (some1_mem hx)
            rw [← e, moved_len]
            exact hts t ht
          have key := fun L => beyond_due (lead := lead) (dones := dones) (ts := ts) (b := by') (L := L) hlt hall2
          revert kdue BU ls lrow key
          generalize upd F14 u (.lst dacc) = F15
          generalize some1 (ts.map (moved by')) 0 = ds
          intro kdue BU ls lrow key
          clear X14 hda fu14 hu14 hts hall2 hln XU hu2 B1 kn1 fu1 nu Fu hlt
          -- handed
          obtain ⟨o2, vo2, eo2, hoF2, hvo2⟩ := id BU.dones
          cases eo2
          refine ⟨_, rfl, _, rfl, F15, .ref al, lead, by', rfl, BU.dice.fh, BU.lead, by omega, fun F16 H16 lm vlm mm X16 nlm flm hlm hplm emm => ?_⟩
          have XL := X16.frz nlm flm hlm
          have klm : (kL kRow).is (upd F16 lm (.lst vlm)) (.ref lm) (moved by' lead) := emm ▸ kL_new flm hplm
          revert XL klm
          generalize upd F16 lm (.lst vlm) = F17
          intro XL klm
          clear hplm flm hlm X16 nlm
          have hoH := XL.fh _ _ (XL.ff _ _ hoF2)
          refine ⟨_, rfl, o, rfl, ⟨vo2, SqL.of hoH⟩, fun Dh nDh => ?_⟩
          refine it_by (walk_list (K := K) (a := o) (xs := vo2)) (fun i H' => ∃ (F' : Hp) (acc : List V), Ext M0 F17 H16 F' H' ∧ H' Dh = some (.lst acc) ∧ F' Dh = none ∧ Paired ((kL kRow).is F') acc ((dones.take i).map (moved by')))
            ⟨F17, [], (Ext.refl XL.fh).tmp nDh, upd_same, XL.fh.free nDh, .nil⟩ (fun i H' _ ⟨_, _, X, _⟩ => SqL.of (X.same _ _ hoH)) ?_ ?_
          · rintro j x Hq H6 hj ⟨F6, acc6, X6, hD, fD, hp⟩ ⟨rfl, hx⟩
            obtain ⟨rs, hrs, hv⟩ := pr_get hvo2 hx
            have l1 := (hall rs (List.mem_of_getElem? hrs)).1
            refine ⟨rfl, _, rfl, _, rfl, F6, x, rs, by', rfl, X6.fh, (kL kRow).mono (XL.ff.trans X6.ff) hv, by omega, fun F7 H7 a7 vs7 out X7 na fa ha hp7 e => ?_⟩
            have hD7 : H7 Dh = some (.lst acc6) := X7.same _ _ hD
            have fD7 : F7 Dh = none := by rw [X7.new Dh (by rw [hD]; simp)]; exact fD
            have Da : Dh ≠ a7 := ne_of_none hD na
            have fD8 : upd F7 a7 (.lst vs7) Dh = none := by rw [upd_ne Da]; exact fD7
            have Y7 := X7.frz na fa ha
            have la : acc6.length ≤ 6 := by
              rw [pr_len hp, List.length_map]
              exact Nat.le_trans (List.length_take_le' j dones) n6
            refine ⟨acc6, hD7, by rw [sizeLine_eq]; omega, upd F7 a7 (.lst vs7), acc6 ++ [.ref a7], (X6.trans Y7).put (.inl nDh) fD8, upd_same, fD8, ?_⟩
            have eT : (dones.take (j + 1)).map (moved by') = (dones.take j).map (moved by') ++ [moved by' rs] := by rw [List.take_add_one, hrs]; exact List.map_append ..
            rw [eT]
            exact pr_snoc (pr_mono (fun _ _ z => (kL kRow).mono Y7.ff z) hp) (e ▸ kL_new fa hp7)
          · rintro H17 ⟨F18, macc, X18, hDh, fDh, hmp⟩
            rw [pr_len hvo2, List.take_length] at hmp
            have XH := XL.trans (X18.frz nDh fDh hDh)
            have kdm : (kL (kL kRow)).is (upd F18 Dh (.lst macc)) (.ref Dh) (dones.map (moved by')) := kL_new fDh hmp
            have klm2 := (kL kRow).mono (X18.frz nDh fDh hDh).ff klm
            revert XH kdm klm2
            generalize upd F18 Dh (.lst macc) = F19
            intro XH kdm klm2
            clear X18 hDh fDh hmp klm XL hoH
            refine ⟨by show 2 ≤ sizeLine; decide, fun th nth => ?_⟩
            have XT := XH.lay (o := .tup [.ref lm, .ref Dh]) nth
            have smT : Same F19 (upd F19 th (.tup [.ref lm, .ref Dh])) := same_upd (XH.fh.free nth)
            have BT := BU.step XT
            have T0 : T24 (upd F19 th (.tup [.ref lm, .ref Dh])) by' lead dones th lm Dh (.ref u) ds := ⟨upd_same, (kL kRow).mono smT klm2, (kL (kL kRow)).mono smT kdm, (kL kDue).mono XT.ff kdue⟩
            revert BT T0
            generalize upd F19 th (.tup [.ref lm, .ref Dh]) = F20
            generalize upd H17 th (.tup [.ref lm, .ref Dh]) = H20
            intro BT T0
            clear XT smT XH kdm klm2 kdue BU hoF2 hvo2 nth nDh
            -- twice
            refine ⟨2, rfl, by decide, by decide, for_range (lo := 0) (n := (2 : Int).toNat) (fun k σ H' => ∃ F' y8 y14 y15 y16, σ = [some (.ref s), some (.ref d), some (.int (0 + (i : Int))), some (.int (1 + h)), some (.int far), some (.ref al), some (.ref o), y7, y8, some (.int by'), some (.ref an), some (.ref u), y12, some (.ref th), y14, y15, y16, none] ∧ S24 K F' H' d s ns (.ref al) lead (.ref o) dones ∧ T24 F' by' lead dones th lm Dh (.ref u) ds)
              ⟨F20, _, _, _, _, rfl, BT, T0⟩ ?_ ?_⟩
            · rintro k σ H21 hk ⟨F21, y8, y14, y15, y16, rfl, B21, T21⟩
              have fh21 := B21.dice.fh
              have hth := fh21 _ _ T21.hnd
              -- found
              refine ⟨_, rfl, th, _, 0, _, rfl, rfl, SqT.of hth, rfl, _, rfl, th, _, 1, _, rfl, rfl, SqT.of hth, rfl, ?_⟩
              refine ⟨F21, .ref lm, .ref Dh, moved by' lead, dones.map (moved by'), rfl, fh21, T21.hl, T21.hd, ⟨by rw [moved_len]; omega, moved_ok b0 b12 (by decide) (by decide) hdl'⟩, fun rs hrs => ?_, by rw [List.length_map]; omega, fun F22 H22 af fac L X22 naf faf haf hpi hit hndp hφ => ?_⟩
              · obtain ⟨rs', hrs', rfl⟩ := List.mem_map.mp hrs
                obtain ⟨c1, c2⟩ := hall rs' hrs'
                exact ⟨by rw [moved_len]; omega, moved_ok b0 b12 (by decide) (by decide) c2⟩
              have eLd := key _ hφ
              have lL : L.length ≤ 6 := by
                have := congrArg List.length eLd
                rw [List.length_map] at this
                omega
              -- like
              obtain ⟨u', dacc', eu, huF, hda⟩ := (kL kDue).mono X22.ff T21.due
              cases eu
              have tw : Twin H22 5 (.ref af) (.ref u) := twin_due X22.fh haf (X22.fh _ _ huF) hpi (fun x hx => (hit x hx).1) hda eLd (by omega) fun x hx => by have := lrow x hx; omega
              refine ⟨_, rfl, _, rfl, _, _, rfl, tw, true, rfl, iteF ?_⟩
              -- handed[0] != moved(lead)
              refine ⟨_, rfl, th, _, 0, _, rfl, rfl, SqT.of (X22.same _ _ hth), rfl, _, rfl, _, rfl, F22, .ref al, lead, by', rfl, X22.fh, (kL kRow).mono X22.ff B21.lead, by omega, fun F23 H23 am vm mm' X23 nam fam ham hpm em => ?_⟩
              subst em
              have X24 := X22.trans X23
              refine ⟨dL dRow (moved by' lead), dL dRow (moved by' lead), (enc_L enc_row).dp X24.fh ((kL kRow).mono X24.ff T21.hl), (enc_L enc_row).dp (same_fz X24.fh ham) (kL_new fam hpm), shaped_rows _, shaped_rows _, ?_⟩
              rw [eqv_rows]
              refine ⟨_, rfl, iteNS (by simp) ?_⟩
              -- handed[1] != [..]
              have hth3 := X24.same _ _ hth
              obtain ⟨o3, vo3, eo3, hoF3, hvo3⟩ := (kL (kL kRow)).mono X24.ff B21.dones
              cases eo3
              have hoH3 := X24.fh _ _ hoF3
              refine ⟨_, rfl, th, _, 1, _, rfl, rfl, SqT.of hth3, rfl, _, rfl, o, rfl, ⟨vo3, SqL.of hoH3⟩, fun D3 nD3 => ?_⟩
              refine it_by (walk_list (K := K) (a := o) (xs := vo3)) (fun i H' => ∃ (F' : Hp) (acc : List V), Ext M0 F23 H23 F' H' ∧ H' D3 = some (.lst acc) ∧ F' D3 = none ∧ Paired ((kL kRow).is F') acc ((dones.take i).map (moved by')))
                ⟨F23, [], (Ext.refl X24.fh).tmp nD3, upd_same, X24.fh.free nD3, .nil⟩ (fun i H' _ ⟨_, _, X, _⟩ => SqL.of (X.same _ _ hoH3)) ?_ ?_
              · rintro j x Hq H6 hj ⟨F6, acc6, X6, hD, fD, hp⟩ ⟨rfl, hx⟩
                obtain ⟨rs, hrs, hv⟩ := pr_get hvo3 hx
                have l1 := (hall rs (List.mem_of_getElem? hrs)).1
                refine ⟨rfl, _, rfl, _, rfl, F6, x, rs, by', rfl, X6.fh, (kL kRow).mono X6.ff hv, by omega, fun F7 H7 a7 vs7 out X7 na fa ha hp7 e => ?_⟩
                have hD7 : H7 D3 = some (.lst acc6) := X7.same _ _ hD
                have fD7 : F7 D3 = none := by rw [X7.new D3 (by rw [hD]; simp)]; exact fD
                have Da : D3 ≠ a7 := ne_of_none hD na
                have fD8 : upd F7 a7 (.lst vs7) D3 = none := by rw [upd_ne Da]; exact fD7
                have Y7 := X7.frz na fa ha
                have la : acc6.length ≤ 6 := by
                  rw [pr_len hp, List.length_map]
                  exact Nat.le_trans (List.length_take_le' j dones) n6
                refine ⟨acc6, hD7, by rw [sizeLine_eq]; omega, upd F7 a7 (.lst vs7), acc6 ++ [.ref a7], (X6.trans Y7).put (.inl nD3) fD8, upd_same, fD8, ?_⟩
                have eT : (dones.take (j + 1)).map (moved by') = (dones.take j).map (moved by') ++ [moved by' rs] := by rw [List.take_add_one, hrs]; exact List.map_append ..
                rw [eT]
                exact pr_snoc (pr_mono (fun _ _ z => (kL kRow).mono Y7.ff z) hp) (e ▸ kL_new fa hp7)
              · rintro H25 ⟨F25, macc3, X25, hD3, fD3, hmp3⟩
                rw [pr_len hvo3, List.take_length] at hmp3
                have X26 := X24.trans X25
                refine ⟨dL (dL dRow) (dones.map (moved by')), dL (dL dRow) (dones.map (moved by')), (enc_L (enc_L enc_row)).dp X26.fh ((kL (kL kRow)).mono X26.ff T21.hd), (enc_L (enc_L enc_row)).dp (same_fz X26.fh hD3) (kL_new fD3 hmp3), shaped_LL _, shaped_LL _, ?_⟩
                rw [eqv_LL]
                refine ⟨_, rfl, iteNS (by simp) ?_⟩
                -- the found is spoilt
                have XY := X23.trans X25
                have haf5 : H25 af = some (.lst fac) := XY.same _ _ haf
                have faf5 : F25 af = none := by rw [XY.new af (by rw [haf]; simp)]; exact faf
                have hit5 : ∀ x ∈ L, ItOk H21 F25 H25 x ∧ x.b ≠ af := fun x hx => ⟨(hit x hx).1.step XY, (hit x hx).2⟩
                have hpi5 := pr_mono (fun _ _ z => kItem.mono XY.ff z) hpi
                refine ⟨_, rfl, af, rfl, ⟨fac, SqL.of haf5⟩, for_list (K := K) (a := af) (xs := fac) (fun j σ H' => ∃ y8 y16, σ = [some (.ref s), some (.ref d), some (.int (0 + (i : Int))), some (.int (1 + h)), some (.int far), some (.ref al), some (.ref o), y7, y8, some (.int by'), some (.ref an), some (.ref u), y12, some (.ref th), some (.int (0 + (k : Int))), some (.ref af), y16, none] ∧ Ext M0 F21 H21 F25 H' ∧ H' af = some (.lst fac) ∧ ∀ (j' : Nat) (x : Item), L[j']? = some x → j ≤ j' → H' x.b = some (.lst x.vs))
                  ⟨_, _, rfl, X26, haf5, fun j' x e _ => (hit5 x (List.mem_of_getElem? e)).1.hb⟩ (fun j σ H' _ ⟨_, _, _, _, z, _⟩ => SqL.of z) ?_ ?_⟩
                · rintro j x σ H27 hj ⟨y8, y16, rfl, X27, haf7, hrest⟩
                  obtain ⟨it, hit1, t, rfl, ht⟩ := pr_get hpi5 hj
                  have itm := List.mem_of_getElem? hit1
                  obtain ⟨io, ion⟩ := hit5 it itm
                  have hb7 := hrest j it hit1 (Nat.le_refl _)
                  refine ⟨t, _, rfl, SqT.of (X27.fh _ _ ht), rfl, _, _, rfl, _, _, rfl, rfl, ?_⟩
                  have lv : it.vs.length ≤ 5200 := by
                    rw [pr_len io.rows]
                    exact lrow (it.k, it.out) (eLd ▸ List.mem_map.mpr ⟨it, itm, rfl⟩)
                  refine ⟨_, rfl, .inl ⟨rfl, _, SqL.of hb7⟩, it.b, it.vs, _, rfl, rfl, hb7, by rw [sizeLine_eq]; omega, ?_⟩
                  refine ⟨_, _, rfl, X27.put (.inl io.nb) io.fb, by rw [upd_ne ion.symm]; exact haf7, fun j' x' e' hj' => ?_⟩
                  have ne : x'.b ≠ it.b := fun e => by
                    have h1 : (L.map (·.b))[j']? = some x'.b := by rw [List.getElem?_map, e']; rfl
                    have h2 : (L.map (·.b))[j]? = some it.b := by rw [List.getElem?_map, hit1]; rfl
                    have l1 := (List.getElem?_eq_some_iff.mp h1).1
                    have := (List.getElem?_inj (j := j) l1 hndp).mp (by rw [h1, h2, e])
                    omega
                  rw [upd_ne ne]
                  exact hrest j' x' e' (by omega)
                · rintro σ H27 ⟨y8, y16, rfl, X27, haf7, hrest⟩
                  refine ⟨_, rfl, .inl ⟨rfl, _, SqL.of haf7⟩, af, fac, _, rfl, rfl, haf7, by rw [pr_len hpi, sizeLine_eq]; omega, ?_⟩
                  have XZ := X27.put (o := .lst (fac ++ [.int 0])) (.inl naf) faf5
                  exact ⟨F25, _, _, _, _, rfl, B21.step XZ, T21.mono XZ.ff⟩
            · rintro σ H21 ⟨F21, y8, y14, y15, y16, rfl, B21, T21⟩
              exact ⟨F21, _, _, _, _, _, _, _, _, _, _, _, _, _, _, _, rfl, B21.dice⟩
    · rintro σ H1 ⟨F1, y2, y3, y4, y5, y6, y7, y8, y9, y10, y11, y12, y13, y14, y15, y16, rfl, D1⟩
      exact q _
end
end Rw
namespace Rw
open PySem PySem.Spec PyProof.Rows L2
/-! ### what the head tells -/
def HasFn (K : PySem.W.Frag) (x : Str) (st : Stmt) : Prop := ∃ (f : Addr) (oc : Value) (od an : Option Addr) (osl : Array (Option Value)) (kV doc pm cdv ct : Value),
  PySem.W.nsIn K mainGlobals x = some (some (.ref f)) ∧ K.lookup f = some ⟨oc, od, .func (PySem.W.fnOf x x (defArgs st) (defBody st) (defScope st) .none kV doc pm an cdv ct), osl⟩ ∧ PySem.W.codeIn K cdv x = true ∧ PySem.W.keepIn K (.ref f) = true
theorem has_mk {K : PySem.W.Frag} {x : Str} {st : Stmt} {f : Addr} {oc : Value} {od an : Option Addr} {osl : Array (Option Value)} {kV doc pm cdv ct : Value}
    (a : PySem.W.nsIn K mainGlobals x = some (some (.ref f))) (l : K.lookup f = some ⟨oc, od, .func (PySem.W.fnOf x x (defArgs st) (defBody st) (defScope st) .none kV doc pm an cdv ct), osl⟩) (c : PySem.W.codeIn K cdv x = true) (k : PySem.W.keepIn K (.ref f) = true) : HasFn K x st :=
  ⟨f, oc, od, an, osl, kV, doc, pm, cdv, ct, a, l, c, k⟩
def HasInt (K : PySem.W.Frag) (x : Str) (z : Int) : Prop := ∃ t, PySem.W.nsIn K mainGlobals x = some (some (.int z t))
theorem int_mk {K : PySem.W.Frag} {x : Str} {z : Int} {t : Tok} (a : PySem.W.nsIn K mainGlobals x = some (some (.int z t))) : HasInt K x z := ⟨t, a⟩
theorem HasFn.fn {K : PySem.W.Frag} {x : Str} {st : Stmt} {h : Heap} {mg : Str → Option Value} (H : HasFn K x st) (X : K.In h) (G : h.Ns mainGlobals mg) : ∃ (f : Addr) (fd : FuncData), Fun K x x st f fd ∧ mg x = some (.ref f) := by
  obtain ⟨f, oc, od, an, osl, kV, doc, pm, cdv, ct, a, l, c, k⟩ := H
  exact ⟨f, _, fun_mk (st := st) l c k, PySem.W.mg_of X G a⟩
theorem HasInt.mg {K : PySem.W.Frag} {x : Str} {z : Int} {h : Heap} {mg : Str → Option Value} (H : HasInt K x z) (X : K.In h) (G : h.Ns mainGlobals mg) : ∃ t, mg x = some (.int z t) := by
  obtain ⟨t, a⟩ := H
  exact ⟨t, PySem.W.mg_of X G a⟩
structure Head (K : PySem.W.Frag) : Prop where
  fis_number : HasFn K "is_number" s_is_number
  fis_house : HasFn K "is_house" s_is_house
  fis_row : HasFn K "is_row" s_is_row
  ffirst_wrong : HasFn K "first_wrong" s_first_wrong
  fcheck_rows : HasFn K "check_rows" s_check_rows
  fchanges_of : HasFn K "changes_of" s_changes_of
  freaching : HasFn K "reaching" s_reaching
  ffewest : HasFn K "fewest" s_fewest
  fwithout : HasFn K "without" s_without
  fwrongly : HasFn K "wrongly" s_wrongly
  f_law_dice : HasFn K "_law_dice" s_law_dice
  f_law_next : HasFn K "_law_next" s_law_next
  f_law_rows : HasFn K "_law_rows" s_law_rows
  f_law_moved : HasFn K "_law_moved" s_law_moved
  f_law_names : HasFn K "_law_names" s_law_names
  f_law_told_rows : HasFn K "_law_told_rows" s_law_told_rows
  f_law_like : HasFn K "_law_like" s_law_like
  flaw : HasFn K "law" s_law
  last : HasInt K "LAST_HOUSE" 7
  most : HasInt K "MOST_ROWS" 200
  zisinstance : PySem.W.nsIn K mainGlobals "isinstance" = some none
  zint : PySem.W.nsIn K mainGlobals "int" = some none
  zbool : PySem.W.nsIn K mainGlobals "bool" = some none
  zstr : PySem.W.nsIn K mainGlobals "str" = some none
  ztuple : PySem.W.nsIn K mainGlobals "tuple" = some none
  zlist : PySem.W.nsIn K mainGlobals "list" = some none
  zlen : PySem.W.nsIn K mainGlobals "len" = some none
  zenumerate : PySem.W.nsIn K mainGlobals "enumerate" = some none
  zsorted : PySem.W.nsIn K mainGlobals "sorted" = some none
  zrange : PySem.W.nsIn K mainGlobals "range" = some none
  zmin : PySem.W.nsIn K mainGlobals "min" = some none
set_option maxHeartbeats 8000000 in
theorem all_ok {P : Program} {w : World} {K : PySem.W.Frag} {h base : Heap} {mg : Str → Option Value} {fa : Addr} (D : Head K) (X : K.In h) (G : h.Ns mainGlobals mg) (lim : ∃ t, mg "LIMIT" = some (.int LIM t)) {fd : FuncData} (F : Fun K "law" "law" s_law fa fd) : FnOk P w K mg base CX0 7 fa fd ["_law_script"] (spLaw1 K) := by
  have T : TxA mg := ⟨PySem.W.mg_none_of X G D.zisinstance, PySem.W.mg_none_of X G D.zint, PySem.W.mg_none_of X G D.zbool, PySem.W.mg_none_of X G D.ztuple, PySem.W.mg_none_of X G D.zlen, PySem.W.mg_none_of X G D.zenumerate, D.last.mg X G, lim, D.most.mg X G⟩
  have TB : TxB mg := ⟨PySem.W.mg_none_of X G D.zsorted⟩
  have TL : TxL mg := ⟨PySem.W.mg_none_of X G D.zint, PySem.W.mg_none_of X G D.zlen, PySem.W.mg_none_of X G D.zrange, PySem.W.mg_none_of X G D.zmin⟩
  have TN : TxN mg := ⟨PySem.W.mg_none_of X G D.zrange, PySem.W.mg_none_of X G D.zsorted⟩
  have TK : TxK mg := ⟨PySem.W.mg_none_of X G D.zisinstance, PySem.W.mg_none_of X G D.zint, PySem.W.mg_none_of X G D.zbool, PySem.W.mg_none_of X G D.zstr, PySem.W.mg_none_of X G D.ztuple, PySem.W.mg_none_of X G D.zlist, PySem.W.mg_none_of X G D.zlen, PySem.W.mg_none_of X G D.zrange⟩
  have TS : TxS mg := ⟨PySem.W.mg_none_of X G D.zlen, PySem.W.mg_none_of X G D.zrange⟩
  have c_is_number : Cal P w K mg base 1 "is_number" ["value", "low", "high"] spIsNumber := by
    obtain ⟨f, fd, F1, g⟩ := D.fis_number.fn X G
    exact ⟨f, fd, ok_is_number F1 T, g, F1.kp, F1.binds (ps := ["value", "low", "high"]) fun _ _ _ _ _ _ us hl => match us, hl with | [_, _, _], _ => rfl⟩
  have c_is_house : Cal P w K mg base 2 "is_house" ["value"] spIsHouse := by
    obtain ⟨f, fd, F1, g⟩ := D.fis_house.fn X G
    exact ⟨f, fd, ok_is_house F1 T c_is_number, g, F1.kp, F1.binds (ps := ["value"]) fun _ _ _ _ _ _ us hl => match us, hl with | [_], _ => rfl⟩
  have c_is_row : Cal P w K mg base 3 "is_row" ["row"] spIsRow := by
    obtain ⟨f, fd, F1, g⟩ := D.fis_row.fn X G
    exact ⟨f, fd, ok_is_row F1 T c_is_number c_is_house, g, F1.kp, F1.binds (ps := ["row"]) fun _ _ _ _ _ _ us hl => match us, hl with | [_], _ => rfl⟩
  have c_first_wrong : Cal P w K mg base 4 "first_wrong" ["rows"] spFirstWrong := by
    obtain ⟨f, fd, F1, g⟩ := D.ffirst_wrong.fn X G
    exact ⟨f, fd, ok_first_wrong F1 T c_is_row, g, F1.kp, F1.binds (ps := ["rows"]) fun _ _ _ _ _ _ us hl => match us, hl with | [_], _ => rfl⟩
  have c_check_rows : Cal P w K mg base 5 "check_rows" ["rows"] spCheckRows := by
    obtain ⟨f, fd, F1, g⟩ := D.fcheck_rows.fn X G
    exact ⟨f, fd, ok_check_rows F1 c_first_wrong, g, F1.kp, F1.binds (ps := ["rows"]) fun _ _ _ _ _ _ us hl => match us, hl with | [_], _ => rfl⟩
  have c_changes_of : Cal P w K mg base 1 "changes_of" ["weighed"] spChangesOf := by
    obtain ⟨f, fd, F1, g⟩ := D.fchanges_of.fn X G
    exact ⟨f, fd, ok_changes_of F1 , g, F1.kp, F1.binds (ps := ["weighed"]) fun _ _ _ _ _ _ us hl => match us, hl with | [_], _ => rfl⟩
  have c_reaching : Cal P w K mg base 2 "reaching" ["weighed", "least"] spReaching := by
    obtain ⟨f, fd, F1, g⟩ := D.freaching.fn X G
    exact ⟨f, fd, ok_reaching F1 TB c_changes_of, g, F1.kp, F1.binds (ps := ["weighed", "least"]) fun _ _ _ _ _ _ us hl => match us, hl with | [_, _], _ => rfl⟩
  have c_fewest : Cal P w K mg base 3 "fewest" ["rows"] spFewest := by
    obtain ⟨f, fd, F1, g⟩ := D.ffewest.fn X G
    exact ⟨f, fd, ok_fewest F1 c_reaching, g, F1.kp, F1.binds (ps := ["rows"]) fun _ _ _ _ _ _ us hl => match us, hl with | [_], _ => rfl⟩
  have c_without : Cal P w K mg base 4 "without" ["one", "other"] spWithout := by
    obtain ⟨f, fd, F1, g⟩ := D.fwithout.fn X G
    exact ⟨f, fd, ok_without F1 c_reaching c_fewest, g, F1.kp, F1.binds (ps := ["one", "other"]) fun _ _ _ _ _ _ us hl => match us, hl with | [_, _], _ => rfl⟩
  have c_wrongly : Cal P w K mg base 6 "wrongly" ["lead", "dones"] spWrongly := by
    obtain ⟨f, fd, F1, g⟩ := D.fwrongly.fn X G
    exact ⟨f, fd, ok_wrongly F1 T c_check_rows c_without, g, F1.kp, F1.binds (ps := ["lead", "dones"]) fun _ _ _ _ _ _ us hl => match us, hl with | [_, _], _ => rfl⟩
  have c__law_dice : Cal P w K mg base 1 "_law_dice" ["_law_script"] (spDice K) := by
    obtain ⟨f, fd, F1, g⟩ := D.f_law_dice.fn X G
    exact ⟨f, fd, ok_law_dice F1 TL, g, F1.kp, F1.binds (ps := ["_law_script"]) fun _ _ _ _ _ _ us hl => match us, hl with | [_], _ => rfl⟩
  have c__law_next : Cal P w K mg base 1 "_law_next" ["_law_dice_here", "_law_many"] (spNext K) := by
    obtain ⟨f, fd, F1, g⟩ := D.f_law_next.fn X G
    exact ⟨f, fd, ok_law_next F1 TL, g, F1.kp, F1.binds (ps := ["_law_dice_here", "_law_many"]) fun _ _ _ _ _ _ us hl => match us, hl with | [_, _], _ => rfl⟩
  have c__law_rows : Cal P w K mg base 2 "_law_rows" ["_law_d", "_law_houses", "_law_far", "_law_most"] (spRows K) := by
    obtain ⟨f, fd, F1, g⟩ := D.f_law_rows.fn X G
    exact ⟨f, fd, ok_law_rows F1 TL c__law_next, g, F1.kp, F1.binds (ps := ["_law_d", "_law_houses", "_law_far", "_law_most"]) fun _ _ _ _ _ _ us hl => match us, hl with | [_, _, _, _], _ => rfl⟩
  have c__law_moved : Cal P w K mg base 1 "_law_moved" ["_law_rows_here", "_law_by"] spMoved := by
    obtain ⟨f, fd, F1, g⟩ := D.f_law_moved.fn X G
    exact ⟨f, fd, ok_law_moved F1 , g, F1.kp, F1.binds (ps := ["_law_rows_here", "_law_by"]) fun _ _ _ _ _ _ us hl => match us, hl with | [_, _], _ => rfl⟩
  have c__law_names : Cal P w K mg base 1 "_law_names" ["_law_rows_here"] spNames := by
    obtain ⟨f, fd, F1, g⟩ := D.f_law_names.fn X G
    exact ⟨f, fd, ok_law_names F1 TN, g, F1.kp, F1.binds (ps := ["_law_rows_here"]) fun _ _ _ _ _ _ us hl => match us, hl with | [_], _ => rfl⟩
  have c__law_told_rows : Cal P w K mg base 1 "_law_told_rows" ["_law_names_here"] spTold := by
    obtain ⟨f, fd, F1, g⟩ := D.f_law_told_rows.fn X G
    exact ⟨f, fd, ok_law_told_rows F1 , g, F1.kp, F1.binds (ps := ["_law_names_here"]) fun _ _ _ _ _ _ us hl => match us, hl with | [_], _ => rfl⟩
  have c__law_like : Cal P w K mg base 6 "_law_like" ["_law_found", "_law_due"] (spLike 5) := by
    obtain ⟨f, fd, F1, g⟩ := D.f_law_like.fn X G
    have bd : Binds K fd ["_law_found", "_law_due"] [] := F1.binds (ps := ["_law_found", "_law_due"]) fun _ _ _ _ _ _ us hl => match us, hl with | [_, _], _ => rfl
    have c0 : FnOk P w K mg base CX0 1 f fd ["_law_found", "_law_due"] (spLike 0) := ⟨fun vs H Q E z => by obtain ⟨_, _, _, z, _⟩ := z; exact z.elim, fun A outer s H args us vs Q E _ _ _ _ z => by obtain ⟨_, _, _, z, _⟩ := z; exact z.elim⟩
    have c1 := ok_law_like (n := 0) F1 TK ⟨f, fd, c0, g, F1.kp, bd⟩
    have c2 := ok_law_like (n := 1) F1 TK ⟨f, fd, c1, g, F1.kp, bd⟩
    have c3 := ok_law_like (n := 2) F1 TK ⟨f, fd, c2, g, F1.kp, bd⟩
    have c4 := ok_law_like (n := 3) F1 TK ⟨f, fd, c3, g, F1.kp, bd⟩
    have c5 := ok_law_like (n := 4) F1 TK ⟨f, fd, c4, g, F1.kp, bd⟩
    exact ⟨f, fd, c5, g, F1.kp, bd⟩
  exact ok_law F TS ⟨c__law_dice, c__law_next, c__law_rows, c__law_names, c__law_moved, c__law_told_rows, c__law_like, c_wrongly⟩
theorem walk {l : PySem.W.OpenLaw} {q : Program} {loose : List Str} {lv : List (Str × PySem.W.WData)} {YP : World → Heap → Prop} {d : DefRec} {K : Params → PySem.W.Frag} (hn : l.most = some 63) (hdf : d.params.defaults = []) (hnm : d.name = "law")
    (hY : ∀ (w : World) (h : Heap), YP w h → (K w.params).In h) (hlv : (("LIMIT" : Str), PySem.W.WData.int LIM) ∈ lv) (D : ∀ w : World, Head (K w.params)) :
    PySem.W.WalkO q loose (PySem.W.XL q lv) YP l.row.toRowW d [] (fun f vs => PySem.call f vs) := by
  refine Att.attach_callB hn hdf fun w s₀ s₁ mg mb fa o pm cd doc a vs ns G Y ho hd hcd hmg hobj hints hlen hbits hg => ?_
  have KX := hY w _ Y
  have Dw := D w
  rw [hnm] at hmg
  obtain ⟨f, oc, od, an, osl, kV, doc', pm', cdv, ct, a1, l1, c1, k1⟩ := Dw.flaw
  have e := hmg.symm.trans (PySem.W.mg_of KX G.T.g a1)
  cases e
  have lim : ∃ t, mg "LIMIT" = some (.int LIM t) := by
    obtain ⟨v, hv, hr⟩ := G.X.2.val _ hlv
    cases hr
    exact ⟨_, hv⟩
  exact L2.law_call (k := 7) (x := "_law_script") (CX := CX0) (sp := spLaw1 (K w.params)) KX G.T.g G.T.b G.T.builtins G.T.nolimit hg hobj hints (Nat.le_trans hlen (by decide)) ⟨rfl, by decide, by decide⟩
    (fun base _ _ => all_ok Dw KX G.T.g lim (fun_mk (st := s_law) l1 c1 k1)) (fun s u => .of_eq rfl) (fun H _ hS => ⟨a, ns, rfl, hS, fun _ => rfl⟩) fun H e s' z => z
end Rw
open PySem PySem.W PyProof.Rows in
set_option maxRecDepth 100000 in
set_option maxHeartbeats 0 in
theorem PySem.Challenge.cw_doneranges_k24_wrongly_led_holds : PySem.Challenge.rw_doneranges_k24_wrongly_led.Holds := by
  w_on; o_law; k_head; (case hw => w_witness2)
  k_fill
  refine Rw.walk (l := PySem.Challenge.rw_doneranges_k24_wrongly_led) rfl rfl rfl (fun w h Y => PySem.W.kIn_of Y)  List.mem_cons_self ?D
  case D =>
    intro w
    constructor
    case fis_number => refine' Rw.has_mk ?a ?l ?c ?k; (case a => k_is); (case l => k_is); (case c => k_is); (case k => k_is)
    case fis_house => refine' Rw.has_mk ?a ?l ?c ?k; (case a => k_is); (case l => k_is); (case c => k_is); (case k => k_is)
    case fis_row => refine' Rw.has_mk ?a ?l ?c ?k; (case a => k_is); (case l => k_is); (case c => k_is); (case k => k_is)
    case ffirst_wrong => refine' Rw.has_mk ?a ?l ?c ?k; (case a => k_is); (case l => k_is); (case c => k_is); (case k => k_is)
    case fcheck_rows => refine' Rw.has_mk ?a ?l ?c ?k; (case a => k_is); (case l => k_is); (case c => k_is); (case k => k_is)
    case fchanges_of => refine' Rw.has_mk ?a ?l ?c ?k; (case a => k_is); (case l => k_is); (case c => k_is); (case k => k_is)
    case freaching => refine' Rw.has_mk ?a ?l ?c ?k; (case a => k_is); (case l => k_is); (case c => k_is); (case k => k_is)
    case ffewest => refine' Rw.has_mk ?a ?l ?c ?k; (case a => k_is); (case l => k_is); (case c => k_is); (case k => k_is)
    case fwithout => refine' Rw.has_mk ?a ?l ?c ?k; (case a => k_is); (case l => k_is); (case c => k_is); (case k => k_is)
    case fwrongly => refine' Rw.has_mk ?a ?l ?c ?k; (case a => k_is); (case l => k_is); (case c => k_is); (case k => k_is)
    case f_law_dice => refine' Rw.has_mk ?a ?l ?c ?k; (case a => k_is); (case l => k_is); (case c => k_is); (case k => k_is)
    case f_law_next => refine' Rw.has_mk ?a ?l ?c ?k; (case a => k_is); (case l => k_is); (case c => k_is); (case k => k_is)
    case f_law_rows => refine' Rw.has_mk ?a ?l ?c ?k; (case a => k_is); (case l => k_is); (case c => k_is); (case k => k_is)
    case f_law_moved => refine' Rw.has_mk ?a ?l ?c ?k; (case a => k_is); (case l => k_is); (case c => k_is); (case k => k_is)
    case f_law_names => refine' Rw.has_mk ?a ?l ?c ?k; (case a => k_is); (case l => k_is); (case c => k_is); (case k => k_is)
    case f_law_told_rows => refine' Rw.has_mk ?a ?l ?c ?k; (case a => k_is); (case l => k_is); (case c => k_is); (case k => k_is)
    case f_law_like => refine' Rw.has_mk ?a ?l ?c ?k; (case a => k_is); (case l => k_is); (case c => k_is); (case k => k_is)
    case flaw => refine' Rw.has_mk ?a ?l ?c ?k; (case a => k_is); (case l => k_is); (case c => k_is); (case k => k_is)
    case last => refine' Rw.int_mk ?a; (case a => k_is)
    case most => refine' Rw.int_mk ?a; (case a => k_is)
    case zisinstance => k_is
    case zint => k_is
    case zbool => k_is
    case zstr => k_is
    case ztuple => k_is
    case zlist => k_is
    case zlen => k_is
    case zenumerate => k_is
    case zsorted => k_is
    case zrange => k_is
    case zmin => k_is
#print axioms PySem.Challenge.cw_doneranges_k24_wrongly_led_holds
