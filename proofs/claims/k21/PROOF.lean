import PyProof.Rows.All
import Wide.All
import OpenK.AllK
import Wide.FinOn
import HandS.ForMost
import HandS.EndBits
import HandS.Walk
import HandS.Wide
import HandS.IsInst
import HandS.Conv
import HandS.SortRule
import HandS.TupSets
import KE.KDictSum
import HandS.Exc
import HandS.ExcOwn
import HandS.ExcInit
import HandS.ExcField
import HandS.ClsMeth
import HandS.Deep
import HandS.FStr
import KE.KExcIs
import HandS.Lambda
import KE.KDflt
import HandS.WordsExc
import HandS.EndTab
import KE.KNest
import KE.KNestM
import PySem.Challenge.RW_doneranges_k21_seats
set_option Elab.async false
set_option linter.all false
set_option maxRecDepth 100000
set_option autoImplicit false
namespace Rw
/-! rows (house, first, last), points (house, number), by the order of pairs -/
abbrev Row := Int × Int × Int
abbrev Pt := Int × Int
def lt2 (p q : Pt) : Prop := p.1 < q.1 ∨ (p.1 = q.1 ∧ p.2 < q.2)
def le2 (p q : Pt) : Prop := p.1 < q.1 ∨ (p.1 = q.1 ∧ p.2 ≤ q.2)
instance (p q : Pt) : Decidable (lt2 p q) := by unfold lt2; infer_instance
instance (p q : Pt) : Decidable (le2 p q) := by unfold le2; infer_instance
def inRow (r : Row) (p : Pt) : Prop := r.1 = p.1 ∧ r.2.1 ≤ p.2 ∧ p.2 ≤ r.2.2
instance (r : Row) (p : Pt) : Decidable (inRow r p) := by unfold inRow; infer_instance
def mem (rs : List Row) (p : Pt) : Prop := ∃ r ∈ rs, inRow r p
def before (r s : Row) : Prop := r.1 < s.1 ∨ (r.1 = s.1 ∧ r.2.2 + 1 < s.2.1)
structure Canon (rs : List Row) : Prop where
  ok : ∀ r ∈ rs, r.2.1 ≤ r.2.2
  ord : rs.Pairwise before
theorem Canon.nil : Canon [] := ⟨fun _ h => absurd h (by simp), .nil⟩
theorem Canon.tail {r : Row} {rs : List Row} (c : Canon (r :: rs)) : Canon rs :=
  ⟨fun s h => c.ok s (List.mem_cons_of_mem _ h), (List.pairwise_cons.mp c.ord).2⟩
theorem mem_cons {r : Row} {rs : List Row} {p : Pt} : mem (r :: rs) p ↔ inRow r p ∨ mem rs p := by
  unfold mem; simp
theorem mem_nil {p : Pt} : ¬ mem [] p := by unfold mem; simp
theorem mem_append {as bs : List Row} {p : Pt} : mem (as ++ bs) p ↔ mem as p ∨ mem bs p := by
  unfold mem
  constructor
  · rintro ⟨r, h, e⟩
    rcases List.mem_append.mp h with h | h
    · exact .inl ⟨r, h, e⟩
    · exact .inr ⟨r, h, e⟩
  · rintro (⟨r, h, e⟩ | ⟨r, h, e⟩)
    · exact ⟨r, List.mem_append_left _ h, e⟩
    · exact ⟨r, List.mem_append_right _ h, e⟩
/-- whatever is in a later row lies behind the first one, with a gap -/
theorem Canon.later {r : Row} {rs : List Row} (c : Canon (r :: rs)) {p : Pt} (h : mem rs p) : r.1 < p.1 ∨ (r.1 = p.1 ∧ r.2.2 + 1 < p.2) := by
  obtain ⟨s, hs, e1, e2, e3⟩ := h
  have b := (List.pairwise_cons.mp c.ord).1 s hs
  unfold before at b
  omega
theorem Canon.uniq : ∀ {xs ys : List Row}, Canon xs → Canon ys → (∀ p, mem xs p ↔ mem ys p) → xs = ys
  | [], [], _, _, _ => rfl
  | [], y :: ys, _, cy, h => by
    have o := cy.ok y List.mem_cons_self
    exact absurd ((h (y.1, y.2.1)).mpr (mem_cons.mpr (.inl ⟨rfl, Int.le_refl _, o⟩))) mem_nil
  | x :: xs, [], cx, _, h => by
    have o := cx.ok x List.mem_cons_self
    exact absurd ((h (x.1, x.2.1)).mp (mem_cons.mpr (.inl ⟨rfl, Int.le_refl _, o⟩))) mem_nil
  | x :: xs, y :: ys, cx, cy, h => by
    have ox := cx.ok x List.mem_cons_self
    have oy := cy.ok y List.mem_cons_self
    have a1 := mem_cons.mp ((h (x.1, x.2.1)).mp (mem_cons.mpr (.inl ⟨rfl, Int.le_refl _, ox⟩)))
    have a2 := mem_cons.mp ((h (y.1, y.2.1)).mpr (mem_cons.mpr (.inl ⟨rfl, Int.le_refl _, oy⟩)))
    have b1 : le2 (y.1, y.2.1) (x.1, x.2.1) := by
      unfold le2
      rcases a1 with ⟨e1, e2, e3⟩ | a1
      · simp only at e1 e2 e3 ⊢; omega
      · have z := cy.later a1; simp only at z ⊢; omega
    have b2 : le2 (x.1, x.2.1) (y.1, y.2.1) := by
      unfold le2
      rcases a2 with ⟨e1, e2, e3⟩ | a2
      · simp only at e1 e2 e3 ⊢; omega
      · have z := cx.later a2; simp only at z ⊢; omega
    unfold le2 at b1 b2
    simp only at b1 b2
    have eh : x.1 = y.1 := by omega
    have ea : x.2.1 = y.2.1 := by omega
    have c1 := mem_cons.mp ((h (x.1, x.2.2)).mp (mem_cons.mpr (.inl ⟨rfl, ox, Int.le_refl _⟩)))
    have c2 := mem_cons.mp ((h (y.1, y.2.2)).mpr (mem_cons.mpr (.inl ⟨rfl, oy, Int.le_refl _⟩)))
    have eb : x.2.2 = y.2.2 := by
      rcases Int.lt_trichotomy x.2.2 y.2.2 with z | z | z
      · -- (x.1, x.2.2 + 1) is in y, so in x's tail
        have d := mem_cons.mp ((h (x.1, x.2.2 + 1)).mpr (mem_cons.mpr (.inl ⟨eh.symm, by simp only; omega, by simp only; omega⟩)))
        rcases d with ⟨_, _, e3⟩ | d
        · simp only at e3; omega
        · have u := cx.later d; simp only at u; omega
      · exact z
      · have d := mem_cons.mp ((h (y.1, y.2.2 + 1)).mp (mem_cons.mpr (.inl ⟨eh, by simp only; omega, by simp only; omega⟩)))
        rcases d with ⟨_, _, e3⟩ | d
        · simp only at e3; omega
        · have u := cy.later d; simp only at u; omega
    have exy : x = y := by
      obtain ⟨x1, x2, x3⟩ := x
      obtain ⟨y1, y2, y3⟩ := y
      simp only at eh ea eb
      subst eh ea eb
      rfl
    subst exy
    congr 1
    refine Canon.uniq cx.tail cy.tail fun p => ?_
    constructor
    · intro m
      rcases mem_cons.mp ((h p).mp (mem_cons.mpr (.inr m))) with ⟨e1, e2, e3⟩ | d
      · have u := cx.later m; omega
      · exact d
    · intro m
      rcases mem_cons.mp ((h p).mpr (mem_cons.mpr (.inr m))) with ⟨e1, e2, e3⟩ | d
      · have u := cy.later m; omega
      · exact d
theorem Canon.snoc {rs : List Row} {r : Row} (c : Canon rs) (o : r.2.1 ≤ r.2.2) (h : ∀ s ∈ rs, before s r) : Canon (rs ++ [r]) := by
  refine ⟨fun s hs => ?_, List.pairwise_append.mpr ⟨c.ord, List.pairwise_singleton _ _, fun s hs t ht => ?_⟩⟩
  · rcases List.mem_append.mp hs with hs | hs
    · exact c.ok s hs
    · rw [List.mem_singleton.mp hs]; exact o
  · rw [List.mem_singleton.mp ht]; exact h s hs

/-! ### sums over weighted rows -/
abbrev WRow := Row × Int
def S (f : Row → Int) : List WRow → Int
  | [] => 0
  | (r, w) :: ws => w * f r + S f ws
theorem S_append (f : Row → Int) : ∀ (as bs : List WRow), S f (as ++ bs) = S f as + S f bs
  | [], bs => by simp [S]
  | (r, w) :: as, bs => by
    show w * f r + S f (as ++ bs) = w * f r + S f as + S f bs
    rw [S_append f as bs]; omega
theorem S_congr {f g : Row → Int} : ∀ {ws : List WRow}, (∀ x ∈ ws, f x.1 = g x.1) → S f ws = S g ws
  | [], _ => rfl
  | (r, w) :: ws, h => by
    show w * f r + S f ws = w * g r + S g ws
    rw [h (r, w) List.mem_cons_self, S_congr (ws := ws) fun x hx => h x (List.mem_cons_of_mem _ hx)]
theorem S_add (f g : Row → Int) : ∀ ws : List WRow, S (fun r => f r + g r) ws = S f ws + S g ws
  | [] => rfl
  | (r, w) :: ws => by
    show w * (f r + g r) + S (fun r => f r + g r) ws = (w * f r + S f ws) + (w * g r + S g ws)
    rw [S_add f g ws, Int.mul_add]; omega
theorem S_zero {f : Row → Int} : ∀ {ws : List WRow}, (∀ x ∈ ws, f x.1 = 0) → S f ws = 0
  | [], _ => rfl
  | (r, w) :: ws, h => by
    show w * f r + S f ws = 0
    rw [h (r, w) List.mem_cons_self, S_zero (ws := ws) fun x hx => h x (List.mem_cons_of_mem _ hx)]; omega
def ind (c : Prop) [Decidable c] : Int := if c then 1 else 0
theorem ind_pos {c : Prop} [Decidable c] (h : c) : ind c = 1 := if_pos h
theorem ind_neg {c : Prop} [Decidable c] (h : ¬ c) : ind c = 0 := if_neg h
theorem ind_or (c : Prop) [Decidable c] : (c ∧ ind c = 1) ∨ (¬ c ∧ ind c = 0) := by
  by_cases h : c
  · exact .inl ⟨h, ind_pos h⟩
  · exact .inr ⟨h, ind_neg h⟩
def fstP (r : Row) : Pt := (r.1, r.2.1)
def endP (r : Row) : Pt := (r.1, r.2.2 + 1)
/-- what weighs on a point -/
def cover (ws : List WRow) (p : Pt) : Int := S (fun r => ind (inRow r p)) ws
/-- the change at a point -/
def chg (ws : List WRow) (p : Pt) : Int := S (fun r => ind (fstP r = p) - ind (endP r = p)) ws
def Wok (ws : List WRow) : Prop := ∀ x ∈ ws, x.1.2.1 ≤ x.1.2.2
theorem cover_eq {ws : List WRow} (h : Wok ws) (p : Pt) : cover ws p = S (fun r => ind (le2 (fstP r) p) - ind (le2 (endP r) p)) ws := by
  refine S_congr fun x hx => ?_
  have o := h x hx
  obtain ⟨⟨rh, ra, rb⟩, w⟩ := x
  obtain ⟨ph, pn⟩ := p
  rcases ind_or (inRow (rh, ra, rb) (ph, pn)) with ⟨a, ea⟩ | ⟨a, ea⟩ <;> rcases ind_or (le2 (fstP (rh, ra, rb)) (ph, pn)) with ⟨b, eb⟩ | ⟨b, eb⟩ <;>
    rcases ind_or (le2 (endP (rh, ra, rb)) (ph, pn)) with ⟨c, ec⟩ | ⟨c, ec⟩ <;> rw [ea, eb, ec] <;> simp only [inRow, le2, fstP, endP] at a b c o <;> omega
/-- all points of change are among ks -/
def Has (ks : List Pt) (ws : List WRow) : Prop := ∀ x ∈ ws, fstP x.1 ∈ ks ∧ endP x.1 ∈ ks
/-- from a point to the next one of change -/
theorem cover_step {ws : List WRow} (o : Wok ws) {c k : Pt} (hlt : lt2 c k) (hn : ∀ x ∈ ws, (le2 (fstP x.1) c ∨ le2 k (fstP x.1)) ∧ (le2 (endP x.1) c ∨ le2 k (endP x.1))) :
    cover ws k = cover ws c + chg ws k := by
  rw [cover_eq o, cover_eq o, chg, ← S_add]
  refine S_congr fun x hx => ?_
  obtain ⟨a, b⟩ := hn x hx
  obtain ⟨⟨rh, ra, rb⟩, w⟩ := x
  obtain ⟨kh, kn⟩ := k
  obtain ⟨ch, cn⟩ := c
  simp only [lt2, le2, fstP, endP] at a b hlt
  rcases ind_or (le2 (fstP (rh, ra, rb)) (kh, kn)) with ⟨u1, e1⟩ | ⟨u1, e1⟩ <;> rcases ind_or (le2 (endP (rh, ra, rb)) (kh, kn)) with ⟨u2, e2⟩ | ⟨u2, e2⟩ <;>
    rcases ind_or (le2 (fstP (rh, ra, rb)) (ch, cn)) with ⟨u3, e3⟩ | ⟨u3, e3⟩ <;> rcases ind_or (le2 (endP (rh, ra, rb)) (ch, cn)) with ⟨u4, e4⟩ | ⟨u4, e4⟩ <;>
    rcases ind_or (fstP (rh, ra, rb) = (kh, kn)) with ⟨u5, e5⟩ | ⟨u5, e5⟩ <;> rcases ind_or (endP (rh, ra, rb) = (kh, kn)) with ⟨u6, e6⟩ | ⟨u6, e6⟩ <;>
    rw [e1, e2, e3, e4, e5, e6] <;> simp only [le2, fstP, endP, Prod.mk.injEq] at u1 u2 u3 u4 u5 u6 <;> omega
theorem cover_same {ws : List WRow} (o : Wok ws) {c p : Pt} (hle : le2 c p) (hn : ∀ x ∈ ws, (le2 (fstP x.1) c ∨ lt2 p (fstP x.1)) ∧ (le2 (endP x.1) c ∨ lt2 p (endP x.1))) :
    cover ws p = cover ws c := by
  rw [cover_eq o, cover_eq o]
  refine S_congr fun x hx => ?_
  obtain ⟨a, b⟩ := hn x hx
  obtain ⟨⟨rh, ra, rb⟩, w⟩ := x
  obtain ⟨kh, kn⟩ := p
  obtain ⟨ch, cn⟩ := c
  simp only [lt2, le2, fstP, endP] at a b hle
  rcases ind_or (le2 (fstP (rh, ra, rb)) (kh, kn)) with ⟨u1, e1⟩ | ⟨u1, e1⟩ <;> rcases ind_or (le2 (endP (rh, ra, rb)) (kh, kn)) with ⟨u2, e2⟩ | ⟨u2, e2⟩ <;>
    rcases ind_or (le2 (fstP (rh, ra, rb)) (ch, cn)) with ⟨u3, e3⟩ | ⟨u3, e3⟩ <;> rcases ind_or (le2 (endP (rh, ra, rb)) (ch, cn)) with ⟨u4, e4⟩ | ⟨u4, e4⟩ <;>
    rw [e1, e2, e3, e4] <;> simp only [le2, fstP, endP] at u1 u2 u3 u4 <;> omega
theorem cover_first {ws : List WRow} (o : Wok ws) {k : Pt} (hn : ∀ x ∈ ws, le2 k (fstP x.1) ∧ le2 k (endP x.1)) : cover ws k = chg ws k := by
  rw [cover_eq o, chg]
  refine S_congr fun x hx => ?_
  obtain ⟨a, b⟩ := hn x hx
  obtain ⟨⟨rh, ra, rb⟩, w⟩ := x
  obtain ⟨kh, kn⟩ := k
  simp only [le2, fstP, endP] at a b
  rcases ind_or (le2 (fstP (rh, ra, rb)) (kh, kn)) with ⟨u1, e1⟩ | ⟨u1, e1⟩ <;> rcases ind_or (le2 (endP (rh, ra, rb)) (kh, kn)) with ⟨u2, e2⟩ | ⟨u2, e2⟩ <;>
    rcases ind_or (fstP (rh, ra, rb) = (kh, kn)) with ⟨u5, e5⟩ | ⟨u5, e5⟩ <;> rcases ind_or (endP (rh, ra, rb) = (kh, kn)) with ⟨u6, e6⟩ | ⟨u6, e6⟩ <;>
    rw [e1, e2, e5, e6] <;> simp only [le2, fstP, endP, Prod.mk.injEq] at u1 u2 u5 u6 <;> omega
theorem cover_none {ws : List WRow} {p : Pt} (hn : ∀ x ∈ ws, ¬ inRow x.1 p) : cover ws p = 0 := S_zero fun x hx => ind_neg (hn x hx)
/-- something covers: its end lies behind, in the same house -/
theorem cover_pos {ws : List WRow} {p : Pt} (h : cover ws p ≠ 0) : ∃ x ∈ ws, inRow x.1 p := by
  by_cases e : ∃ x ∈ ws, inRow x.1 p
  · exact e
  · exact absurd (cover_none fun x hx q => e ⟨x, hx, q⟩) h

/-! ### the sweep -/
structure St where
  out : List Row
  total : Int
  start : Int
def stepM (ch : Pt → Int) (least : Int) (s : St) (k : Pt) : St :=
  if s.total < least ∧ least ≤ s.total + ch k then ⟨s.out, s.total + ch k, k.2⟩
  else if s.total + ch k < least ∧ least ≤ s.total then ⟨s.out ++ [(k.1, s.start, k.2 - 1)], s.total + ch k, s.start⟩
  else ⟨s.out, s.total + ch k, s.start⟩
/-- behind the point c of change: what is out, and what is open -/
structure At (ws : List WRow) (least : Int) (c : Pt) (s : St) : Prop where
  tot : s.total = cover ws c
  can : Canon s.out
  cl : s.total < least → (∀ r ∈ s.out, le2 (endP r) c) ∧ ∀ p, le2 p c → (mem s.out p ↔ least ≤ cover ws p)
  op : least ≤ s.total → s.start ≤ c.2 ∧ (∀ r ∈ s.out, lt2 (endP r) (c.1, s.start)) ∧ (∀ n, s.start ≤ n → n ≤ c.2 → least ≤ cover ws (c.1, n)) ∧
    ∀ p, lt2 p (c.1, s.start) → (mem s.out p ↔ least ≤ cover ws p)
theorem not_mem_of_end {rs : List Row} {c p : Pt} (h : ∀ r ∈ rs, le2 (endP r) c) (hp : le2 c p) : ¬ mem rs p := by
  rintro ⟨r, hr, e1, e2, e3⟩
  have a := h r hr
  unfold le2 endP at a
  unfold le2 at hp
  simp only at a
  omega
theorem At.step {ws : List WRow} {least : Int} (hl : 0 < least) (o : Wok ws) {c k : Pt} {s : St} (a : At ws least c s) (hlt : lt2 c k)
    (hn : ∀ x ∈ ws, (le2 (fstP x.1) c ∨ le2 k (fstP x.1)) ∧ (le2 (endP x.1) c ∨ le2 k (endP x.1))) : At ws least k (stepM (chg ws) least s k) := by
  have tk : s.total + chg ws k = cover ws k := by rw [a.tot, cover_step o hlt hn]
  have same : ∀ p, le2 c p → lt2 p k → cover ws p = cover ws c := fun p h1 h2 => by
    refine cover_same o h1 fun x hx => ?_
    obtain ⟨u, v⟩ := hn x hx
    unfold lt2 le2 at *
    exact ⟨by omega, by omega⟩
  unfold stepM
  rw [tk]
  by_cases h1 : s.total < least
  · obtain ⟨c1, c2⟩ := a.cl h1
    have hm : ∀ p, lt2 p k → (mem s.out p ↔ least ≤ cover ws p) := fun p hp => by
      by_cases hc : le2 p c
      · exact c2 p hc
      · have hc' : le2 c p := by unfold le2 at *; omega
        have nm := not_mem_of_end c1 hc'
        have e := same p hc' hp
        rw [e, ← a.tot]
        exact ⟨fun z => absurd z nm, fun z => absurd h1 (by omega)⟩
    by_cases h2 : least ≤ cover ws k
    · rw [if_pos ⟨h1, h2⟩]
      refine ⟨rfl, a.can, fun z => absurd z (by simp only; omega), fun _ => ⟨Int.le_refl _, fun r hr => ?_, fun n z1 z2 => ?_, fun p hp => hm p hp⟩⟩
      · have q := c1 r hr
        unfold le2 lt2 at *
        simp only at *
        omega
      · have : n = k.2 := by simp only at z1 z2; omega
        rw [this]; exact h2
    · rw [if_neg (fun z => h2 z.2), if_neg (fun z => absurd z.2 (by omega))]
      refine ⟨rfl, a.can, fun _ => ⟨fun r hr => ?_, fun p hp => ?_⟩, fun z => absurd z (by simp only; omega)⟩
      · have q := c1 r hr
        unfold le2 lt2 at *
        omega
      · by_cases hpk : lt2 p k
        · exact hm p hpk
        · have e : p = k := by
            obtain ⟨p1, p2⟩ := p
            obtain ⟨k1, k2⟩ := k
            unfold le2 at hp
            unfold lt2 at hpk
            simp only at hp hpk
            have e1 : p1 = k1 := by omega
            have e2 : p2 = k2 := by omega
            rw [e1, e2]
          subst e
          have hck : le2 c p := by unfold lt2 at hlt; unfold le2; omega
          exact ⟨fun z => absurd z (not_mem_of_end c1 hck), fun z => absurd z h2⟩
  · have h1' : least ≤ s.total := by omega
    obtain ⟨o1, o2, o3, o4⟩ := a.op h1'
    rw [if_neg (fun z => h1 z.1)]
    -- a row that covers c ends behind c in its house: k lies in the same house
    have hk1 : k.1 = c.1 := by
      obtain ⟨x, hx, i1, i2, i3⟩ := cover_pos (ws := ws) (p := c) (by rw [← a.tot]; omega)
      obtain ⟨_, v⟩ := hn x hx
      unfold le2 endP at v
      unfold lt2 at hlt
      simp only at v
      omega
    have hk2 : c.2 < k.2 := by unfold lt2 at hlt; omega
    have seg : ∀ n, s.start ≤ n → n < k.2 → least ≤ cover ws (c.1, n) := fun n z1 z2 => by
      by_cases hc : n ≤ c.2
      · exact o3 n z1 hc
      · rw [same (c.1, n) (.inr ⟨rfl, by simp only; omega⟩) (.inr ⟨hk1.symm, z2⟩), ← a.tot]
        exact h1'
    by_cases h2 : cover ws k < least
    · rw [if_pos ⟨h2, h1'⟩]
      refine ⟨rfl, a.can.snoc (by simp only; omega) fun r hr => ?_, fun _ => ⟨fun r hr => ?_, fun p hp => ?_⟩, fun z => absurd z (show ¬ least ≤ cover ws k by omega)⟩
      · have q := o2 r hr
        unfold lt2 endP at q
        unfold before
        simp only at q ⊢
        omega
      · rcases List.mem_append.mp hr with hr | hr
        · have q := o2 r hr
          unfold lt2 at q
          unfold le2
          simp only at q ⊢
          omega
        · rw [List.mem_singleton.mp hr]
          exact .inr ⟨rfl, show k.2 - 1 + 1 ≤ k.2 by omega⟩
      · rw [mem_append]
        by_cases hb : lt2 p (c.1, s.start)
        · rw [← o4 p hb]
          constructor
          · rintro (z | ⟨r, hr, i1, i2, i3⟩)
            · exact z
            · rw [List.mem_singleton.mp hr] at i1 i2 i3
              unfold lt2 at hb
              simp only at i1 i2 i3 hb
              omega
          · exact .inl
        · by_cases hpk : lt2 p k
          · have e : p.1 = c.1 := by
              unfold lt2 at hb hpk
              simp only at hb
              omega
            have z1 : s.start ≤ p.2 := by
              unfold lt2 at hb
              simp only at hb
              omega
            have z2 : p.2 < k.2 := by
              unfold lt2 at hpk
              omega
            have q := seg p.2 z1 z2
            rw [← e] at q
            refine ⟨fun _ => q, fun _ => .inr ⟨_, List.mem_singleton.mpr rfl, ?_, ?_, ?_⟩⟩
            · simp only; omega
            · exact z1
            · simp only; omega
          · have e : p = k := by
              obtain ⟨p1, p2⟩ := p
              obtain ⟨k1, k2⟩ := k
              unfold le2 at hp
              unfold lt2 at hpk
              simp only at hp hpk
              have e1 : p1 = k1 := by omega
              have e2 : p2 = k2 := by omega
              rw [e1, e2]
            subst e
            refine ⟨fun z => ?_, fun z => absurd z (by omega)⟩
            exfalso
            rcases z with ⟨r, hr, i1, i2, i3⟩ | ⟨r, hr, i1, i2, i3⟩
            · have q := o2 r hr
              unfold lt2 endP at q
              simp only at q
              omega
            · rw [List.mem_singleton.mp hr] at i1 i2 i3
              simp only at i1 i2 i3
              omega
    · rw [if_neg (fun z => h2 z.1)]
      refine ⟨rfl, a.can, fun z => absurd z (by simp only; omega), fun _ => ⟨by simp only; omega, ?_, fun n z1 z2 => ?_, ?_⟩⟩
      · rw [hk1]; exact o2
      · rw [hk1]
        by_cases hn2 : n < k.2
        · exact seg n z1 hn2
        · have : n = k.2 := by omega
          rw [this, ← hk1]
          show least ≤ cover ws k
          omega
      · rw [hk1]; exact o4
/-- the first point -/
theorem At.start {ws : List WRow} {least : Int} (hl : 0 < least) (o : Wok ws) {k : Pt} (z : Int) (hn : ∀ x ∈ ws, le2 k (fstP x.1) ∧ le2 k (endP x.1)) :
    At ws least k (stepM (chg ws) least ⟨[], 0, z⟩ k) := by
  have tk : (0 : Int) + chg ws k = cover ws k := by rw [cover_first o hn]; omega
  have zero : ∀ p, lt2 p k → cover ws p = 0 := fun p hp => cover_none fun x hx ⟨i1, i2, i3⟩ => by
    obtain ⟨u, _⟩ := hn x hx
    unfold le2 fstP at u
    unfold lt2 at hp
    simp only at u
    omega
  unfold stepM
  simp only
  rw [tk]
  by_cases h2 : least ≤ cover ws k
  · rw [if_pos ⟨hl, h2⟩]
    refine ⟨rfl, .nil, fun z => absurd z (by simp only; omega), fun _ => ⟨Int.le_refl _, fun r hr => absurd hr (by simp), fun n z1 z2 => ?_, fun p hp => ?_⟩⟩
    · have : n = k.2 := by simp only at z1 z2; omega
      rw [this]; exact h2
    · rw [zero p hp]
      exact ⟨fun z => absurd z mem_nil, fun z => absurd z (by omega)⟩
  · rw [if_neg (fun z => h2 z.2), if_neg (fun z => absurd z.2 (by omega))]
    refine ⟨rfl, .nil, fun _ => ⟨fun r hr => absurd hr (by simp), fun p hp => ?_⟩, fun z => absurd z (by simp only; omega)⟩
    by_cases hpk : lt2 p k
    · rw [zero p hpk]
      exact ⟨fun z => absurd z mem_nil, fun z => absurd z (by omega)⟩
    · have e : p = k := by
        obtain ⟨p1, p2⟩ := p
        obtain ⟨k1, k2⟩ := k
        unfold le2 at hp
        unfold lt2 at hpk
        simp only at hp hpk
        have e1 : p1 = k1 := by omega
        have e2 : p2 = k2 := by omega
        rw [e1, e2]
      subst e
      exact ⟨fun z => absurd z mem_nil, fun z => absurd z h2⟩
theorem le2_of_not {p q : Pt} (h : ¬ lt2 p q) : le2 q p := by unfold lt2 at h; unfold le2; omega
theorem At.done {ws : List WRow} {least : Int} (hl : 0 < least) (o : Wok ws) {c : Pt} {s : St} (a : At ws least c s) (hn : ∀ x ∈ ws, le2 (fstP x.1) c ∧ le2 (endP x.1) c) :
    Canon s.out ∧ ∀ p, mem s.out p ↔ least ≤ cover ws p := by
  have far : ∀ p, le2 c p → cover ws p = 0 := fun p hp => cover_none fun x hx ⟨i1, i2, i3⟩ => by
    obtain ⟨_, v⟩ := hn x hx
    unfold le2 endP at v
    unfold le2 at hp
    simp only at v
    omega
  have ht : s.total < least := by
    rw [a.tot, far c (by unfold le2; omega)]; exact hl
  obtain ⟨c1, c2⟩ := a.cl ht
  refine ⟨a.can, fun p => ?_⟩
  by_cases hp : le2 p c
  · exact c2 p hp
  · have hp' : le2 c p := by unfold le2 at *; omega
    rw [far p hp']
    exact ⟨fun z => absurd z (not_mem_of_end c1 hp'), fun z => absurd z (by omega)⟩
theorem sweep_from {ws : List WRow} {least : Int} (hl : 0 < least) (o : Wok ws) : ∀ (ks : List Pt) (c : Pt) (s : St), At ws least c s → (c :: ks).Pairwise lt2 →
    (∀ x ∈ ws, (le2 (fstP x.1) c ∨ fstP x.1 ∈ ks) ∧ (le2 (endP x.1) c ∨ endP x.1 ∈ ks)) →
    Canon (ks.foldl (stepM (chg ws) least) s).out ∧ ∀ p, mem (ks.foldl (stepM (chg ws) least) s).out p ↔ least ≤ cover ws p
  | [], c, s, a, _, h => a.done hl o fun x hx => by
    obtain ⟨u, v⟩ := h x hx
    exact ⟨u.resolve_right (by simp), v.resolve_right (by simp)⟩
  | k :: ks, c, s, a, hp, h => by
    have h1 := (List.pairwise_cons.mp hp).1 k List.mem_cons_self
    have h2 := (List.pairwise_cons.mp hp).2
    have h3 := (List.pairwise_cons.mp h2).1
    have key : ∀ q : Pt, (le2 q c ∨ q ∈ k :: ks) → (le2 q c ∨ le2 k q) := fun q z => by
      rcases z with z | z
      · exact .inl z
      · rcases List.mem_cons.mp z with e | z
        · subst e; exact .inr (by unfold le2; omega)
        · have w := h3 q z
          exact .inr (by unfold lt2 at w; unfold le2; omega)
    refine sweep_from hl o ks k _ (a.step hl o h1 fun x hx => ⟨key _ (h x hx).1, key _ (h x hx).2⟩) h2 fun x hx => ?_
    have key2 : ∀ q : Pt, (le2 q c ∨ q ∈ k :: ks) → (le2 q k ∨ q ∈ ks) := fun q z => by
      rcases z with z | z
      · exact .inl (by unfold lt2 at h1; unfold le2 at *; omega)
      · rcases List.mem_cons.mp z with e | z
        · subst e; exact .inl (by unfold le2; omega)
        · exact .inr z
    exact ⟨key2 _ (h x hx).1, key2 _ (h x hx).2⟩
/-- THE SWEEP: the fewest rows of what weighs least or more -/
theorem sweep {ws : List WRow} {least : Int} (hl : 0 < least) (o : Wok ws) {ks : List Pt} (hp : ks.Pairwise lt2) (h : Has ks ws) (z : Int) :
    Canon (ks.foldl (stepM (chg ws) least) ⟨[], 0, z⟩).out ∧ ∀ p, mem (ks.foldl (stepM (chg ws) least) ⟨[], 0, z⟩).out p ↔ least ≤ cover ws p := by
  cases ks with
  | nil =>
    have e : ws = [] := by
      cases ws with
      | nil => rfl
      | cons x xs => exact absurd (h x List.mem_cons_self).1 (by simp)
    subst e
    refine ⟨.nil, fun p => ⟨fun z => absurd z mem_nil, fun z => absurd z ?_⟩⟩
    show ¬ least ≤ 0
    omega
  | cons k ks =>
    have h3 := (List.pairwise_cons.mp hp).1
    have key : ∀ q : Pt, q ∈ k :: ks → le2 k q := fun q z => by
      rcases List.mem_cons.mp z with e | z
      · subst e; unfold le2; omega
      · have w := h3 q z
        unfold lt2 at w; unfold le2; omega
    refine sweep_from hl o ks k _ (At.start hl o z fun x hx => ⟨key _ (h x hx).1, key _ (h x hx).2⟩) hp fun x hx => ?_
    have key2 : ∀ q : Pt, q ∈ k :: ks → (le2 q k ∨ q ∈ ks) := fun q z => by
      rcases List.mem_cons.mp z with e | z
      · subst e; exact .inl (by unfold le2; omega)
      · exact .inr z
    exact ⟨key2 _ (h x hx).1, key2 _ (h x hx).2⟩
end Rw
namespace Rw
open PySem L2
/-! ### kinds of data that never change -/
structure Kd (α : Type) where
  is : Hp → V → α → Prop
  mono : ∀ {F F' : Hp} {v : V} {x : α}, Same F F' → is F v x → is F' v x
def kInt : Kd Int := ⟨fun _ v x => v = .int x, fun _ h => h⟩
def kRow : Kd Row := ⟨fun F v r => ∃ t, v = .ref t ∧ F t = some (.tup [.int r.1, .int r.2.1, .int r.2.2]), fun s ⟨t, e, h⟩ => ⟨t, e, s _ _ h⟩⟩
def kPt : Kd Pt := ⟨fun F v p => ∃ t, v = .ref t ∧ F t = some (.tup [.int p.1, .int p.2]), fun s ⟨t, e, h⟩ => ⟨t, e, s _ _ h⟩⟩
def kW : Kd WRow := ⟨fun F v x => ∃ t u, v = .ref t ∧ F t = some (.tup [u, .int x.2]) ∧ kRow.is F u x.1, fun s ⟨t, u, e, h, k⟩ => ⟨t, u, e, s _ _ h, kRow.mono s k⟩⟩
theorem pr_mono {α : Type} {R S : V → α → Prop} (h : ∀ v x, R v x → S v x) : ∀ {vs : List V} {xs : List α}, Paired R vs xs → Paired S vs xs
  | _, _, .nil => .nil
  | _, _, .cons r t => .cons (h _ _ r) (pr_mono h t)
theorem pr_len {α : Type} {R : V → α → Prop} : ∀ {vs : List V} {xs : List α}, Paired R vs xs → vs.length = xs.length
  | _, _, .nil => rfl
  | _, _, .cons _ t => by rw [List.length_cons, List.length_cons, pr_len t]
theorem pr_get {α : Type} {R : V → α → Prop} : ∀ {vs : List V} {xs : List α} {i : Nat} {v : V}, Paired R vs xs → vs[i]? = some v → ∃ x, xs[i]? = some x ∧ R v x
  | _, _, _, _, .nil, e => by simp at e
  | _, _, 0, _, .cons r _, e => by simp at e; subst e; exact ⟨_, rfl, r⟩
  | _, _, i + 1, v, .cons _ t, e => by
    obtain ⟨x, h1, h2⟩ := pr_get (i := i) (v := v) t (by simpa using e)
    exact ⟨x, by simpa using h1, h2⟩
theorem pr_get' {α : Type} {R : V → α → Prop} : ∀ {vs : List V} {xs : List α} {i : Nat} {x : α}, Paired R vs xs → xs[i]? = some x → ∃ v, vs[i]? = some v ∧ R v x
  | _, _, _, _, .nil, e => by simp at e
  | _, _, 0, _, .cons r _, e => by simp at e; subst e; exact ⟨_, rfl, r⟩
  | _, _, i + 1, v, .cons _ t, e => by
    obtain ⟨x, h1, h2⟩ := pr_get' (i := i) t (by simpa using e)
    exact ⟨x, by simpa using h1, h2⟩
theorem pr_append {α : Type} {R : V → α → Prop} : ∀ {vs us : List V} {xs ys : List α}, Paired R vs xs → Paired R us ys → Paired R (vs ++ us) (xs ++ ys)
  | _, _, _, _, .nil, s => s
  | _, _, _, _, .cons r t, s => .cons r (pr_append t s)
theorem pr_snoc {α : Type} {R : V → α → Prop} {vs : List V} {xs : List α} {v : V} {x : α} (h : Paired R vs xs) (r : R v x) : Paired R (vs ++ [v]) (xs ++ [x]) := pr_append h (.cons r .nil)
theorem pr_take {α : Type} {R : V → α → Prop} : ∀ {vs : List V} {xs : List α} (n : Nat), Paired R vs xs → Paired R (vs.take n) (xs.take n)
  | _, _, 0, _ => .nil
  | _, _, _ + 1, .nil => .nil
  | _, _, n + 1, .cons r t => .cons r (pr_take n t)
theorem pr_drop {α : Type} {R : V → α → Prop} : ∀ {vs : List V} {xs : List α} (n : Nat), Paired R vs xs → Paired R (vs.drop n) (xs.drop n)
  | _, _, 0, r => r
  | _, _, _ + 1, .nil => .nil
  | _, _, n + 1, .cons _ t => pr_drop n t
theorem pr_map {α β : Type} {R : V → α → Prop} {S : V → β → Prop} {f : α → β} (h : ∀ v x, R v x → S v (f x)) : ∀ {vs : List V} {xs : List α}, Paired R vs xs → Paired S vs (xs.map f)
  | _, _, .nil => .nil
  | _, _, .cons r t => .cons (h _ _ r) (pr_map h t)
theorem pr_mem {α : Type} {R : V → α → Prop} {v : V} : ∀ {vs : List V} {xs : List α}, Paired R vs xs → v ∈ vs → ∃ x ∈ xs, R v x
  | _, _, .nil, h => by simp at h
  | _, _, .cons r t, h => by
    rcases List.mem_cons.mp h with e | h
    · subst e; exact ⟨_, List.mem_cons_self, r⟩
    · obtain ⟨x, hx, rx⟩ := pr_mem t h; exact ⟨x, List.mem_cons_of_mem _ hx, rx⟩
/-- lists of data -/
def kL {α : Type} (k : Kd α) : Kd (List α) := ⟨fun F v xs => ∃ a vs, v = .ref a ∧ F a = some (.lst vs) ∧ Paired (k.is F) vs xs, fun s ⟨a, vs, e, h, p⟩ => ⟨a, vs, e, s _ _ h, pr_mono (fun _ _ r => k.mono s r) p⟩⟩
/-! ### frames: F the part that never changes, H the whole; M the places that the step may change -/
structure Ext (M : Addr → Prop) (F H F' H' : Hp) : Prop where
  ff : Same F F'
  fh : Same F' H'
  hh : ∀ b o, H b = some o → ¬ M b → H' b = some o
  tr : ∀ b, H b ≠ none → H' b ≠ none
  new : ∀ b, H b ≠ none → F' b = F b
abbrev M0 : Addr → Prop := fun _ => False
section
variable {M M' : Addr → Prop} {F H F' H' F'' H'' : Hp} {p : Addr} {o : HO}
theorem Ext.refl (s : Same F H) : Ext M F H F H := ⟨Same.refl F, s, fun _ _ h _ => h, fun _ h => h, fun _ _ => rfl⟩
theorem Ext.trans (a : Ext M F H F' H') (b : Ext M F' H' F'' H'') : Ext M F H F'' H'' :=
  ⟨a.ff.trans b.ff, b.fh, fun c u h m => b.hh c u (a.hh c u h m) m, fun c h => b.tr c (a.tr c h), fun c h => (b.new c (a.tr c h)).trans (a.new c h)⟩
theorem Ext.mono (a : Ext M F H F' H') (h : ∀ b, M b → M' b) : Ext M' F H F' H' := ⟨a.ff, a.fh, fun c u e m => a.hh c u e fun z => m (h c z), a.tr, a.new⟩
theorem Ext.up (a : Ext M0 F H F' H') : Ext M F H F' H' := a.mono fun _ z => z.elim
theorem Ext.same (a : Ext M0 F H F' H') : Same H H' := fun b o h => a.hh b o h fun z => z
theorem Ext.free (a : Ext M F H F' H') (h : H' p = none) : H p = none := by
  cases q : H p with
  | none => rfl
  | some u => exact absurd h (a.tr p (by rw [q]; simp))
theorem Ext.ffree (a : Ext M F H F' H') (h : H' p = none) : F' p = none := a.fh.free h
/-- a new thing that never changes -/
theorem Ext.lay (a : Ext M F H F' H') (h : H' p = none) : Ext M F H (upd F' p o) (upd H' p o) := by
  have fp := a.ffree h
  have hp := a.free h
  refine ⟨fun b u e => ?_, fun b u e => ?_, fun b u e m => ?_, fun b e => ?_, fun b e => ?_⟩
  · rw [upd_ne (ne_of_none (a.ff b u e) fp)]; exact a.ff b u e
  · by_cases hb : b = p
    · subst hb; rw [upd_same] at e ⊢; exact e
    · rw [upd_ne hb] at e ⊢; exact a.fh b u e
  · rw [upd_ne (ne_of_none (a.hh b u e m) h)]; exact a.hh b u e m
  · by_cases hb : b = p
    · subst hb; exact absurd hp e
    · rw [upd_ne hb]; exact a.tr b e
  · by_cases hb : b = p
    · subst hb; exact absurd hp e
    · rw [upd_ne hb]; exact a.new b e
/-- a new thing outside of F, or a change of one -/
theorem Ext.put (a : Ext M F H F' H') (h : H p = none ∨ M p) (f : F' p = none) : Ext M F H F' (upd H' p o) := by
  refine ⟨a.ff, fun b u e => ?_, fun b u e m => ?_, fun b e => ?_, a.new⟩
  · rw [upd_ne (ne_of_none e f)]; exact a.fh b u e
  · have hb : b ≠ p := fun z => by
      subst z
      rcases h with h | h
      · rw [h] at e; cases e
      · exact m h
    rw [upd_ne hb]; exact a.hh b u e m
  · by_cases hb : b = p
    · subst hb; rw [upd_same]; simp
    · rw [upd_ne hb]; exact a.tr b e
theorem Ext.tmp (a : Ext M F H F' H') (h : H' p = none) : Ext M F H F' (upd H' p o) := a.put (.inl (a.free h)) (a.ffree h)
/-- what was made within, from now on never changes -/
theorem Ext.frz (a : Ext M F H F' H') (h : H p = none) (f : F' p = none) (e : H' p = some o) : Ext M F H (upd F' p o) H' := by
  refine ⟨fun b u z => ?_, fun b u z => ?_, a.hh, a.tr, fun b z => ?_⟩
  · rw [upd_ne (ne_of_none (a.ff b u z) f)]; exact a.ff b u z
  · by_cases hb : b = p
    · subst hb; rw [upd_same] at z; cases z; exact e
    · rw [upd_ne hb] at z; exact a.fh b u z
  · have hb : b ≠ p := fun q => by subst q; exact z h
    rw [upd_ne hb]; exact a.new b z
end
theorem same_upd {H : Hp} {p : Addr} {o : HO} (h : H p = none) : Same H (upd H p o) := fun b x e => by
  rw [upd_ne (ne_of_none e h)]
  exact e
/-- a promise: a new list of such data, of which φ holds; the list itself may be changed behind -/
def RetL {α : Type} (M : Addr → Prop) (F H : Hp) (k : Kd α) (φ : List α → Prop) (Q : VK) : Prop :=
  ∀ (F' H' : Hp) (a : Addr) (vs : List V) (xs : List α), Ext M F H F' H' → H a = none → F' a = none → H' a = some (.lst vs) → Paired (k.is F') vs xs → φ xs → Q (.ref a) H'
/-- a promise: this value, nothing changed -/
def RetV (F H : Hp) (v : V) (Q : VK) : Prop := ∀ (F' H' : Hp), Ext M0 F H F' H' → Q v H'
theorem kL_new {α : Type} {k : Kd α} {F' : Hp} {a : Addr} {vs : List V} {xs : List α} (f : F' a = none) (h : Paired (k.is F') vs xs) : (kL k).is (upd F' a (.lst vs)) (.ref a) xs :=
  ⟨a, vs, rfl, upd_same, pr_mono (fun _ _ r => k.mono (same_upd f) r) h⟩
/-! ### as data of the library -/
def dRow (r : Row) : PyData := .tuple [.int r.1, .int r.2.1, .int r.2.2]
def dPt (p : Pt) : PyData := .tuple [.int p.1, .int p.2]
structure Kd.Enc {α : Type} (k : Kd α) (d : α → PyData) : Prop where
  dp : ∀ {K : PySem.W.Frag} {F H : Hp} {v : V} {x : α}, Same F H → k.is F v x → Dp K H v (d x)
theorem dpInts {K : PySem.W.Frag} {H : Hp} : ∀ ns : List Int, DpAll K H (ns.map V.int) (ns.map PyData.int)
  | [] => .nil
  | n :: ns => .cons (.int n) (dpInts ns)
theorem enc_row : kRow.Enc dRow := ⟨fun s ⟨t, e, h⟩ => by subst e; exact .tup (SqT.of (s _ _ h)) (dpInts [_, _, _])⟩
theorem enc_pt : kPt.Enc dPt := ⟨fun s ⟨t, e, h⟩ => by subst e; exact .tup (SqT.of (s _ _ h)) (dpInts [_, _])⟩
theorem dpAll {α : Type} {k : Kd α} {d : α → PyData} (E : k.Enc d) {K : PySem.W.Frag} {F H : Hp} (s : Same F H) : ∀ {vs : List V} {xs : List α}, Paired (k.is F) vs xs → DpAll K H vs (xs.map d)
  | _, _, .nil => .nil
  | _, _, .cons r t => .cons (E.dp s r) (dpAll E s t)
def dL {α : Type} (d : α → PyData) (xs : List α) : PyData := .list (xs.map d)
theorem enc_L {α : Type} {k : Kd α} {d : α → PyData} (E : k.Enc d) : (kL k).Enc (dL d) := ⟨fun s ⟨a, vs, e, h, p⟩ => by subst e; exact .lst (SqL.of (s _ _ h)) (dpAll E s p)⟩
end Rw
namespace Rw
open PySem PySem.Spec PyProof.Rows L2
/-! ### sorted(d) of a dict whose keys are pairs of ints, any length -/
section
variable {prog : Program} {w : World} {A : Around} {E : Value → Shared → Prop} {s : Shared} {T : String} {r d : Addr} {n : Nat} {P : Nat → Value → Prop} {OK : Heap → Prop}
theorem sorted_src {vs : List Value} {k : Value → Int × Int} {Q : Value → Shared → Prop} (K : PySem.W.KdlSrc prog w T r d n P OK) (hh : A.handled = none) (hok : OK s.heap) (hn : n ≤ sizeLine)
    (hv : ∀ acc, ItemsOf P acc n → acc.toList = vs) (hp : ∀ v ∈ vs, Srt.IsPair s.heap v (k v).1 (k v).2)
    (h : ∀ (h1 h' : Heap) (tk : Nat) (e : Addr) (out : List Value), SrtO.Srtd (fun v u => SrtO.lexB (k v) (k u)) out → SrtO.Stb (fun v u => SrtO.lexB (k v) (k u)) out vs → (∀ b o, s.heap.get? b = some o → h1.get? b = some o) → (∀ b o, h1.get? b = some o → h'.get? b = some o) → h1.objs.size ≤ e →
      (∃ n, h'.get? e = some (seqObj "list" out.toArray n)) → Q (.ref e) { s with heap := h', toks := tk }) :
    wpAny (model prog w) A (call (.builtin "sorted") [.ref r]) Q E s := by
  refine Calls.call_function_entry kind_sorted plain_sorted entry_sorted (args_sorted1 _) ?_
  unfold Builtin.«sorted»
  refine wpAny_bind (m := checkCount "sorted" 1 1 _) (wpAny_pure ?_)
  refine wpAny_bind (PySem.W.kdu_collect (A := A.in1) K hh hok hn fun h' tk acc hk hacc => ?_)
  have e := hv acc hacc
  have hz : vs.length ≤ sizeLine := by rw [← e, Array.length_toList, hacc.1]; exact hn
  rw [e]
  refine wpAny_bind (wpAny_newList ?_ hz)
  have hoL : (h'.push (seqObj "list" vs.toArray 0)).get? h'.objs.size = some (seqObj "list" vs.toArray 0) := Heap.get?_push_size _ rfl
  have keep : ∀ b o, s.heap.get? b = some o → b ≠ h'.objs.size ∧ (h'.push (seqObj "list" vs.toArray 0)).get? b = some o := fun b o q =>
    ⟨Nat.ne_of_lt (Heap.lt_size (hk b o q)), Heap.get?_push_of_some _ (hk b o q)⟩
  show wpAny _ _ _ _ _ { s with heap := h'.push (seqObj "list" vs.toArray 0), toks := tk }
  refine wpAny_bind (wpAny_holding (wpAny_call_entry slot_list_sort ⟨_, hoL, rfl⟩ entry_list_sort
    (SrtO.list_sort_ord (s := { s with heap := h'.push (seqObj "list" vs.toArray 0), toks := tk }) (SrtO.swo_lex k) hoL hz (fun h2 => ?_) fun out hs hb => ⟨_, rfl, ?_⟩) (args_list_sort _)))
  · refine SrtO.pairs_sortableO (s := { s with heap := h'.push (seqObj "list" vs.toArray 0), toks := tk }) (by omega) (fun v hm => (hp v hm).keeps fun b o e _ => (keep b o e).2) fun o e' => ?_
    have e2 : some o = some (seqObj "list" vs.toArray 0) := e'.symm.trans hoL
    cases e2
    intro c
    exact absurd (Value.type.inj c) (by decide)
  · refine wpAny_pure ⟨_, rfl, h h' _ tk h'.objs.size out hs hb hk (fun b o q => ?_) (Nat.le_refl _) (sortedHeap_at hoL)⟩
    have hb : b < h'.objs.size := Heap.lt_size q
    rw [sortedHeap_old (Nat.ne_of_lt hb) (by rw [size_push']; exact Nat.lt_succ_of_lt hb)]
    exact Heap.get?_push_of_some _ q
end
/-- the key of a point -/
def kk (p : Pt) : List Key := [.inl p.1, .inl p.2]
theorem kk_inj {p q : Pt} (h : kk p = kk q) : p = q := by
  unfold kk at h
  have h1 := List.cons.inj h
  have h2 := List.cons.inj h1.2
  obtain ⟨p1, p2⟩ := p
  obtain ⟨q1, q2⟩ := q
  have e1 : p1 = q1 := Sum.inl.inj h1.1
  have e2 : p2 = q2 := Sum.inl.inj h2.1
  rw [e1, e2]
section
variable {X : Cx}
/-- the pair of ints that a value is, by the abstract heap -/
noncomputable def ptOf (H : Hp) (v : V) : Pt := open Classical in if h : ∃ p : Pt, kPt.is H v p then h.choose else (0, 0)
theorem kPt_inj {H : Hp} {v : V} {p q : Pt} (a : kPt.is H v p) (b : kPt.is H v q) : p = q := by
  obtain ⟨t, e, h⟩ := a
  obtain ⟨u, e', h'⟩ := b
  subst e
  cases e'
  rw [h] at h'
  have z := HO.tup.inj (Option.some.inj h')
  have z1 := List.cons.inj z
  have z2 := List.cons.inj z1.2
  obtain ⟨p1, p2⟩ := p
  obtain ⟨q1, q2⟩ := q
  have e1 : p1 = q1 := V.int.inj z1.1
  have e2 : p2 = q2 := V.int.inj z2.1
  rw [e1, e2]
theorem ptOf_eq {H : Hp} {v : V} {p : Pt} (h : kPt.is H v p) : ptOf H v = p := by
  have e : ∃ p : Pt, kPt.is H v p := ⟨p, h⟩
  unfold ptOf
  rw [dif_pos e]
  exact kPt_inj e.choose_spec h
theorem isPair_of {pins : List (Addr × Obj)} {σ : L2.St} {H : Hp} {s : Shared} (I : Inv X pins σ H s) {t : Addr} {p : Pt} (h : kPt.is H (.ref t) p) : Srt.IsPair s.heap (.ref t) p.1 p.2 := by
  obtain ⟨u, e, ht⟩ := h
  cases e
  obtain ⟨_, its2, r2, o, ho, hc, n, hd⟩ := I.hok _ _ ht
  obtain ⟨u1, u2, rfl, ri, rj⟩ := vals2 r2
  obtain ⟨t1, rfl⟩ := ri
  obtain ⟨t2, rfl⟩ := rj
  exact ⟨_, o, t1, t2, n, rfl, ho, hc, hd⟩
theorem keys_pts {H : Hp} : ∀ {kvs : List (List Key × V)} {bs : List Addr} {ps : List Pt}, IsKeys H kvs bs → kvs.map (·.1) = ps.map kk → Paired (kPt.is H) (bs.map V.ref) ps
  | [], _, [], .nil, _ => .nil
  | [], _, _ :: _, .nil, e => by simp at e
  | _ :: _, _, [], _, e => by simp at e
  | kv :: kvs, _, p :: ps, .cons (b := b) r t, e => by
    have e1 := List.cons.inj e
    refine .cons ⟨b, rfl, ?_⟩ (keys_pts t e1.2)
    have : kv.1 = kk p := e1.1
    rw [this] at r
    exact r
theorem pr_perm {α : Type} {R : V → α → Prop} {f : V → α} (hf : ∀ v x, R v x → f v = x) : ∀ {vs : List V} {xs : List α}, Paired R vs xs → xs = vs.map f
  | _, _, .nil => rfl
  | _, _, .cons r t => by rw [List.map_cons, ← pr_perm hf t, hf _ _ r]
theorem pr_of_all {α : Type} {R : V → α → Prop} {f : V → α} : ∀ {vs : List V}, (∀ v ∈ vs, R v (f v)) → Paired R vs (vs.map f)
  | [], _ => .nil
  | v :: vs, h => .cons (h v List.mem_cons_self) (pr_of_all fun u hu => h u (List.mem_cons_of_mem _ hu))
/-- what behind a sort of pairs stands: the points, in order -/
theorem sorted_pts {H : Hp} {vs ys : List V} {ps : List Pt} (h : Paired (kPt.is H) vs ps) (nd : ps.Nodup) (hs : SrtO.Srtd (ltP (ptOf H)) ys) (hb : SrtO.Stb (ltP (ptOf H)) ys vs) :
    ∃ qs : List Pt, Paired (kPt.is H) ys qs ∧ qs.Perm ps ∧ qs.Pairwise lt2 := by
  have e : ps = vs.map (ptOf H) := pr_perm (fun v x r => ptOf_eq r) h
  have all : ∀ v ∈ ys, kPt.is H v (ptOf H v) := fun v hv => by
    obtain ⟨x, _, r⟩ := pr_mem h (hb.perm.mem_iff.mp hv)
    rw [ptOf_eq r]
    exact r
  have perm : (ys.map (ptOf H)).Perm ps := by rw [e]; exact hb.perm.map _
  refine ⟨ys.map (ptOf H), pr_of_all all, perm, ?_⟩
  have nd' : (ys.map (ptOf H)).Nodup := perm.nodup_iff.mpr nd
  rw [List.pairwise_map]
  have nd2 : ys.Pairwise fun a b => ptOf H a ≠ ptOf H b := List.pairwise_map.mp nd'
  refine (List.Pairwise.and hs nd2).imp fun {a b} z => ?_
  have a1 := SrtO.lexB_no.mp z.1
  have a2 := z.2
  unfold lt2
  have a3 : ¬ ((ptOf H a).1 = (ptOf H b).1 ∧ (ptOf H a).2 = (ptOf H b).2) := fun q => a2 (Prod.ext q.1 q.2)
  omega
def rSortedDT : List V → Hp → VK → Prop := fun vs H Q => ∃ (d : Addr) (kvs : List (List Key × V)) (ps : List Pt), vs = [V.ref d] ∧ H d = some (.dT kvs) ∧ kvs.map (·.1) = ps.map kk ∧ ps.Nodup ∧
  ∀ (ys : List V) (qs : List Pt) (p : Addr), Paired (kPt.is H) ys qs → qs.Perm ps → qs.Pairwise lt2 → H p = none → Q (.ref p) (upd H p (.lst ys))
theorem cr_sortedDT (hc : X.calm = true) : CallR X (.builtin "sorted") rSortedDT := by
  intro pins s σ H xs us Q I r h
  obtain ⟨d, kvs, ps, rfl, hd, hps, hnd, q⟩ := h
  obtain ⟨u, rfl, rx⟩ := r.one
  cases rx
  obtain ⟨z, hs, ks, pr, o, es, ep, ho, hx, hdt, he, hn⟩ := (show ObjOk X.prog X.w H s.heap d (.dT kvs) from I.hok d _ hd)
  have l1 : es.size = ks.length := size_of_entries he
  have l2 : kvs.length = ks.length := Paired.length pr
  have hpp : Paired (kPt.is H) ((ks.map fun x => x.2.1).map V.ref) ps := keys_pts (isKeys_of pr) hps
  refine sorted_src (vs := (ks.map fun x => x.2.1).map Value.ref) (k := fun u => ptOf H (backV u)) (kdl_raw hs hx hdt) (I.ok.hd hc) ho (by omega) (fun acc' it => ?_) (fun v hv => ?_) fun h1 h' tk e out hs1 hb1 k1 k2 hle hob => ?_
  · have hl : acc'.toList.length = ks.length := by rw [Array.length_toList, it.1]; exact l1
    rw [List.map_map]
    apply List.ext_getElem?
    intro j
    rw [List.getElem?_map]
    cases hj : acc'.toList[j]? with
    | none =>
      have h1 := List.getElem?_eq_none_iff.mp hj
      rw [List.getElem?_eq_none (by omega)]
      all_goals rfl
    | some v =>
      obtain ⟨en, hen, hv⟩ := it.2 j v (by rw [← Array.getElem?_toList]; exact hj)
      have qe := entry_at he j
      rw [hen] at qe
      cases hb : ks[j]? with
      | none =>
        rw [hb] at qe
        exact nomatch (show some en = none from qe)
      | some b =>
        rw [hb] at qe
        have e2 : en = entryOfKey (tupleKind (mixKind X.prog X.w)) b := Option.some.inj qe
        rw [hv, e2]
        all_goals rfl
  · obtain ⟨t, ht, rfl⟩ := List.mem_map.mp hv
    obtain ⟨x, _, rx⟩ := pr_mem hpp (List.mem_map.mpr ⟨t, ht, rfl⟩)
    have : ptOf H (backV (Value.ref t)) = x := ptOf_eq rx
    show Srt.IsPair _ _ (ptOf H (backV (Value.ref t))).1 (ptOf H (backV (Value.ref t))).2
    rw [this]
    exact isPair_of I rx
  · have h3 : ∀ u ∈ out, ∃ a, u = Value.ref a := fun u hu => by
      have := hb1.perm.mem_iff.mp hu
      obtain ⟨t, _, rfl⟩ := List.mem_map.mp this
      exact ⟨t, rfl⟩
    have hback : ((ks.map fun x => x.2.1).map Value.ref).map backV = (ks.map fun x => x.2.1).map V.ref := by
      rw [List.map_map]
      exact List.map_congr_left fun _ _ => rfl
    have hb2 : SrtO.Stb (ltP (ptOf H)) (out.map backV) ((ks.map fun x => x.2.1).map V.ref) := by
      rw [← hback]
      exact SrtO.Stb.map (ltP_swo (ptOf H)) backV hb1
    obtain ⟨qs, a1, a2, a3⟩ := sorted_pts hpp hnd (SrtO.srtd_map hs1) hb2
    obtain ⟨n, hob⟩ := hob
    have I1 : Inv X pins σ H { s with heap := h1 } := I.kept (t' := s.toks) k1
    refine ⟨.ref e, upd H e (.lst (out.map backV)), I1.laid (t' := tk) k2 hle ⟨?_, out, n, vals_back h3, hob⟩, rfl, q _ qs e a1 a2 a3 (I1.hok.fresh hle)⟩
    rw [hb2.len, List.length_map, List.length_map, ← l2]
    exact z
end
end Rw
namespace Rw
open PySem L2
section
variable (P : Program) (w : World) (K : PySem.W.Frag) (mg : Str → Option Value) (base : Heap)
/-- a def that may be called by its name -/
def Cal (k : Nat) (x : Str) (ps : List Str) (sp : Sp) : Prop :=
  ∃ (f : Addr) (fd : FuncData), FnOk P w K mg base CX0 k f fd ps sp ∧ mg x = some (.ref f) ∧ PySem.W.keepIn K (.ref f) = true ∧ Binds K fd ps []
end
theorem tyx_int {K : PySem.W.Frag} {H : Hp} (i : Int) : TyX K H (.int i) (.type "int") := .base (.int i)
theorem tyx_tup {K : PySem.W.Frag} {H : Hp} {a : Addr} {xs : List V} (h : H a = some (.tup xs)) : TyX K H (.ref a) (.type "tuple") := .base (.tup h)
theorem tyx_lst {K : PySem.W.Frag} {H : Hp} {a : Addr} {xs : List V} (h : H a = some (.lst xs)) : TyX K H (.ref a) (.type "list") := .base (.lst h)
theorem kit_ii {K : PySem.W.Frag} : PySem.W.kitOne K (.type "int") (.type "int") = some true := kit_ty (by decide +kernel)
theorem kit_ib {K : PySem.W.Frag} : PySem.W.kitOne K (.type "int") (.type "bool") = some false := kit_ty (by decide +kernel)
theorem kit_tt {K : PySem.W.Frag} : PySem.W.kitOne K (.type "tuple") (.type "tuple") = some true := kit_ty (by decide +kernel)
theorem bt_int : bootBuiltins "int" = some (.type "int") := by decide +kernel
theorem bt_bool : bootBuiltins "bool" = some (.type "bool") := by decide +kernel
theorem bt_tuple : bootBuiltins "tuple" = some (.type "tuple") := by decide +kernel
theorem pe_bty {X : Cx} {x : Str} {n : String} {pos : Pos} (hg : Gl X x) (hm : X.mg x = none) (hv : bootBuiltins x = some (.type n)) (hn : x ≠ "__name__" := by decide) (hd : (x == ("__debug__" : Str)) = false := by decide) : PE X (.Name x pos) (tC (.ty n)) :=
  pe_bltn (v := .ty n) (u := .type n) hg hm hv rfl hn hd
end Rw
namespace Rw
open PySem L2
def topS (i : Nat) : Stmt := PySem.Challenge.pw_doneranges_k21_seats.main.body.getD i (.Pass ⟨0, 0, 0, 0⟩)
abbrev s_BadStretches___init__ : Stmt := inClass (topS 2) 0
theorem sc_BadStretches___init__ : FnScope ["self", "at"] ["self", "at"] (defScope s_BadStretches___init__) := ⟨rfl, rfl, rfl, by decide +kernel, rfl, by decide +kernel, by decide +kernel⟩
abbrev s_BadDeed___init__ : Stmt := inClass (topS 5) 0
theorem sc_BadDeed___init__ : FnScope ["self", "at"] ["self", "at"] (defScope s_BadDeed___init__) := ⟨rfl, rfl, rfl, by decide +kernel, rfl, by decide +kernel, by decide +kernel⟩
abbrev s_BadText___init__ : Stmt := inClass (topS 7) 0
theorem sc_BadText___init__ : FnScope ["self", "place"] ["self", "place"] (defScope s_BadText___init__) := ⟨rfl, rfl, rfl, by decide +kernel, rfl, by decide +kernel, by decide +kernel⟩
abbrev s_BadEvent___init__ : Stmt := inClass (topS 10) 0
theorem sc_BadEvent___init__ : FnScope ["self", "at"] ["self", "at"] (defScope s_BadEvent___init__) := ⟨rfl, rfl, rfl, by decide +kernel, rfl, by decide +kernel, by decide +kernel⟩
abbrev s_is_number : Stmt := topS 15
theorem sc_is_number : FnScope ["value", "low", "high"] ["value", "low", "high"] (defScope s_is_number) := ⟨rfl, rfl, rfl, by decide +kernel, rfl, by decide +kernel, by decide +kernel⟩
abbrev s_is_house : Stmt := topS 16
theorem sc_is_house : FnScope ["value"] ["value"] (defScope s_is_house) := ⟨rfl, rfl, rfl, by decide +kernel, rfl, by decide +kernel, by decide +kernel⟩
abbrev s_is_row : Stmt := topS 17
theorem sc_is_row : FnScope ["row", "house", "first", "last"] ["row"] (defScope s_is_row) := ⟨rfl, rfl, rfl, by decide +kernel, rfl, by decide +kernel, by decide +kernel⟩
abbrev s_first_wrong : Stmt := topS 18
theorem sc_first_wrong : FnScope ["rows", "at", "row"] ["rows"] (defScope s_first_wrong) := ⟨rfl, rfl, rfl, by decide +kernel, rfl, by decide +kernel, by decide +kernel⟩
abbrev s_check_rows : Stmt := topS 19
theorem sc_check_rows : FnScope ["rows", "at"] ["rows"] (defScope s_check_rows) := ⟨rfl, rfl, rfl, by decide +kernel, rfl, by decide +kernel, by decide +kernel⟩
abbrev s_changes_of : Stmt := topS 20
theorem sc_changes_of : FnScope ["weighed", "changes", "house", "first", "last", "weight"] ["weighed"] (defScope s_changes_of) := ⟨rfl, rfl, rfl, by decide +kernel, rfl, by decide +kernel, by decide +kernel⟩
abbrev s_reaching : Stmt := topS 21
theorem sc_reaching : FnScope ["weighed", "least", "changes", "out", "total", "start", "house", "number", "ahead"] ["weighed", "least"] (defScope s_reaching) := ⟨rfl, rfl, rfl, by decide +kernel, rfl, by decide +kernel, by decide +kernel⟩
abbrev s_fewest : Stmt := topS 22
theorem sc_fewest : FnScope ["rows", "row"] ["rows"] (defScope s_fewest) := ⟨rfl, rfl, rfl, by decide +kernel, rfl, by decide +kernel, by decide +kernel⟩
abbrev s_Seat___init__ : Stmt := inClass (topS 25) 0
theorem sc_Seat___init__ : FnScope ["self"] ["self"] (defScope s_Seat___init__) := ⟨rfl, rfl, rfl, by decide +kernel, rfl, by decide +kernel, by decide +kernel⟩
abbrev s_Seat_hold : Stmt := inClass (topS 25) 1
theorem sc_Seat_hold : FnScope ["self", "rows"] ["self", "rows"] (defScope s_Seat_hold) := ⟨rfl, rfl, rfl, by decide +kernel, rfl, by decide +kernel, by decide +kernel⟩
abbrev s_Seat_ask : Stmt := inClass (topS 25) 2
theorem sc_Seat_ask : FnScope ["self", "term"] ["self", "term"] (defScope s_Seat_ask) := ⟨rfl, rfl, rfl, by decide +kernel, rfl, by decide +kernel, by decide +kernel⟩
abbrev s_Seat_keep : Stmt := inClass (topS 25) 3
theorem sc_Seat_keep : FnScope ["self", "term", "rows"] ["self", "term", "rows"] (defScope s_Seat_keep) := ⟨rfl, rfl, rfl, by decide +kernel, rfl, by decide +kernel, by decide +kernel⟩
abbrev s_Seat_holds : Stmt := inClass (topS 25) 4
theorem sc_Seat_holds : FnScope ["self"] ["self"] (defScope s_Seat_holds) := ⟨rfl, rfl, rfl, by decide +kernel, rfl, by decide +kernel, by decide +kernel⟩
abbrev s_Seat_last_term : Stmt := inClass (topS 25) 5
theorem sc_Seat_last_term : FnScope ["self"] ["self"] (defScope s_Seat_last_term) := ⟨rfl, rfl, rfl, by decide +kernel, rfl, by decide +kernel, by decide +kernel⟩
abbrev s_law_dice : Stmt := topS 27
theorem sc_law_dice : FnScope ["_law_script", "_law_mixed", "_law_cell"] ["_law_script"] (defScope s_law_dice) := ⟨rfl, rfl, rfl, by decide +kernel, rfl, by decide +kernel, by decide +kernel⟩
abbrev s_law_next : Stmt := topS 28
theorem sc_law_next : FnScope ["_law_dice_here", "_law_many", "_law_found", "_law_cell"] ["_law_dice_here", "_law_many"] (defScope s_law_next) := ⟨rfl, rfl, rfl, by decide +kernel, rfl, by decide +kernel, by decide +kernel⟩
abbrev s_law_like : Stmt := topS 29
theorem sc_law_like : FnScope ["_law_found", "_law_due", "_law_k"] ["_law_found", "_law_due"] (defScope s_law_like) := ⟨rfl, rfl, rfl, by decide +kernel, rfl, by decide +kernel, by decide +kernel⟩
abbrev s_law_rows : Stmt := topS 30
theorem sc_law_rows : FnScope ["_law_d", "_law_houses", "_law_far", "_law_most", "_law_found", "_law_k", "_law_first", "_law_wide"] ["_law_d", "_law_houses", "_law_far", "_law_most"] (defScope s_law_rows) := ⟨rfl, rfl, rfl, by decide +kernel, rfl, by decide +kernel, by decide +kernel⟩
abbrev s_law_names : Stmt := topS 31
theorem sc_law_names : FnScope ["_law_rows_here", "_law_found", "_law_house", "_law_first", "_law_last", "_law_number"] ["_law_rows_here"] (defScope s_law_names) := ⟨rfl, rfl, rfl, by decide +kernel, rfl, by decide +kernel, by decide +kernel⟩
abbrev s_law_told_rows : Stmt := topS 32
theorem sc_law_told_rows : FnScope ["_law_names_here", "_law_found", "_law_house", "_law_number"] ["_law_names_here"] (defScope s_law_told_rows) := ⟨rfl, rfl, rfl, by decide +kernel, rfl, by decide +kernel, by decide +kernel⟩
abbrev s_law_seat : Stmt := topS 33
theorem sc_law_seat : FnScope [] [] (defScope s_law_seat) := ⟨rfl, rfl, rfl, by decide +kernel, rfl, by decide +kernel, by decide +kernel⟩
abbrev s_law_asked : Stmt := topS 34
theorem sc_law_asked : FnScope ["_law_seat_here", "_law_term"] ["_law_seat_here", "_law_term"] (defScope s_law_asked) := ⟨rfl, rfl, rfl, by decide +kernel, rfl, by decide +kernel, by decide +kernel⟩
abbrev s_law_kept : Stmt := topS 35
theorem sc_law_kept : FnScope ["_law_seat_here", "_law_term", "_law_rows_here", "_law_name"] ["_law_seat_here", "_law_term", "_law_rows_here"] (defScope s_law_kept) := ⟨rfl, rfl, rfl, by decide +kernel, rfl, by decide +kernel, by decide +kernel⟩
abbrev s_law_told : Stmt := topS 36
theorem sc_law_told : FnScope ["_law_work", "e", "_law_kinds", "_law_words", "_law_word"] ["_law_work"] (defScope s_law_told) := ⟨rfl, rfl, rfl, by decide +kernel, rfl, by decide +kernel, by decide +kernel⟩
abbrev s_law_deed : Stmt := topS 37
theorem sc_law_deed : FnScope ["_law_d", "_law_seat_here", "_law_own", "_law_kind", "_law_due", "_law_found", "_law_bad", "_law_handed", "_law_rows_here", "_law_term", "_law_a"] ["_law_d", "_law_seat_here", "_law_own"] (defScope s_law_deed) := ⟨rfl, rfl, rfl, by decide +kernel, rfl, by decide +kernel, by decide +kernel⟩
abbrev s_law : Stmt := topS 38
theorem sc_law : FnScope ["_law_script", "_law_d", "_law_sides", "_law_turn", "_law_seat_here", "_law_own", "_law_one", "_law_other", "_law_again", "_law_found"] ["_law_script"] (defScope s_law) := ⟨rfl, rfl, rfl, by decide +kernel, rfl, by decide +kernel, by decide +kernel⟩
end Rw
namespace Rw
open PySem L2
/-! ### the refusals' readers, of what is right -/
def LIM : Int := 1000000000000
def spIsNumber : Sp := fun vs H Q _ => ∃ v lo hi : Int, vs = [.int v, .int lo, .int hi] ∧ Q (.bl (decide (lo ≤ v ∧ v ≤ hi))) H
def spIsHouse : Sp := fun vs H Q _ => ∃ v : Int, vs = [.int v] ∧ Q (.bl (decide (0 ≤ v ∧ v ≤ 7))) H
/-- a row as it may be handed in -/
def RowOk (r : Row) : Prop := 0 ≤ r.1 ∧ r.1 ≤ 7 ∧ 1 ≤ r.2.1 ∧ r.2.1 ≤ r.2.2 ∧ r.2.2 ≤ LIM
def spIsRow : Sp := fun vs H Q _ => ∃ (v : V) (r : Row), vs = [v] ∧ kRow.is H v r ∧ RowOk r ∧ Q (.bl true) H
def RowsOk (rs : List Row) : Prop := rs.length ≤ 200 ∧ ∀ r ∈ rs, RowOk r
def spFirstWrong : Sp := fun vs H Q _ => ∃ (v : V) (rs : List Row), vs = [v] ∧ (kL kRow).is H v rs ∧ RowsOk rs ∧ ∀ H', Same H H' → Q .non H'
structure TxA (mg : Str → Option Value) : Prop where
  isinst : mg "isinstance" = none
  int : mg "int" = none
  bool : mg "bool" = none
  tuple : mg "tuple" = none
  len : mg "len" = none
  enum : mg "enumerate" = none
  last : ∃ t, mg "LAST_HOUSE" = some (.int 7 t)
  lim : ∃ t, mg "LIMIT" = some (.int LIM t)
  most : ∃ t, mg "MOST_ROWS" = some (.int 200 t)
section
variable {P : Program} {w : World} {K : PySem.W.Frag} {mg : Str → Option Value} {base : Heap}
theorem ok_is_number {f : Addr} {fd : FuncData} (F : Fun K "is_number" "is_number" s_is_number f fd) (T : TxA mg) : FnOk P w K mg base CX0 1 f fd ["value", "low", "high"] spIsNumber := by
  refine F.ok sc_is_number (fun vs H Q E h => ?_) (fun cdv A outer s H vs Q E hr h => ?_)
  · obtain ⟨v, lo, hi, rfl, _⟩ := h
    rfl
  · obtain ⟨v, lo, hi, rfl, q⟩ := h
    refine ⟨_, pss_one (ps_ret (pe_and (pe_callB call_isi (by rfl) T.isinst (by decide +kernel) (pa_cons (pv 0) (pa_cons (pe_bty (by rfl) T.int bt_int) pa_nil)))
      (pe_and (pe_not (pe_callB call_isi (by rfl) T.isinst (by decide +kernel) (pa_cons (pv 0) (pa_cons (pe_bty (by rfl) T.bool bt_bool) pa_nil))))
      (pe_one (pe_chain op_le op_le (pv 1) (pv 0) (pv 2)))))), ?_⟩
    refine ⟨_, rfl, _, .ty "int", _, _, _, rfl, .ty _, tyx_int _, kit_ii, true, rfl, iteT ?_⟩
    refine ⟨_, rfl, _, .ty "bool", _, _, _, rfl, .ty _, tyx_int _, kit_ib, false, rfl, true, rfl, iteT ?_⟩
    refine ⟨_, rfl, _, rfl, _, _, rfl, rfl, _, rfl, ite2 (fun h1 => ?_) (fun h1 => ?_)⟩
    · have h1 := of_decide_eq_true h1
      refine ⟨_, rfl, _, _, rfl, rfl, ?_⟩
      have e : decide (v ≤ hi) = decide (lo ≤ v ∧ v ≤ hi) := by
        by_cases z : v ≤ hi
        · rw [decide_eq_true z, decide_eq_true ⟨h1, z⟩]
        · rw [decide_eq_false z, decide_eq_false fun q => z q.2]
      rw [← e] at q
      exact q
    · have h1' : ¬ lo ≤ v := fun z => h1 (decide_eq_true z)
      rw [decide_eq_false fun q => h1' q.1] at q
      exact q
theorem ok_is_house {f : Addr} {fd : FuncData} (F : Fun K "is_house" "is_house" s_is_house f fd) (T : TxA mg) (CN : Cal P w K mg base 1 "is_number" ["value", "low", "high"] spIsNumber) : FnOk P w K mg base CX0 2 f fd ["value"] spIsHouse := by
  obtain ⟨f1, fd1, G1, g1, kp1, b1⟩ := CN
  obtain ⟨t7, h7⟩ := T.last
  refine F.ok sc_is_house (fun vs H Q E h => ?_) (fun cdv A outer s H vs Q E hr h => ?_)
  · obtain ⟨v, rfl, _⟩ := h
    rfl
  · obtain ⟨v, rfl, q⟩ := h
    refine ⟨_, pss_one (ps_ret (pe_call G1 hr (by rfl) g1 kp1 b1 .nil pass0 (pa_cons (pv 0) (pa_cons pe_int (pa_cons (pe_glob (v := .int 7) (by rfl) h7 ⟨_, rfl⟩) pa_nil))))), ?_⟩
    exact ⟨_, rfl, v, 0, 7, rfl, q⟩
theorem ok_is_row {f : Addr} {fd : FuncData} (F : Fun K "is_row" "is_row" s_is_row f fd) (T : TxA mg) (CN : Cal P w K mg base 1 "is_number" ["value", "low", "high"] spIsNumber) (CH : Cal P w K mg base 2 "is_house" ["value"] spIsHouse) : FnOk P w K mg base CX0 3 f fd ["row"] spIsRow := by
  obtain ⟨f1, fd1, G1, g1, kp1, b1⟩ := CN
  obtain ⟨f2, fd2, G2, g2, kp2, b2⟩ := CH
  obtain ⟨tl, hl⟩ := T.lim
  refine F.ok sc_is_row (fun vs H Q E h => ?_) (fun cdv A outer s H vs Q E hr h => ?_)
  · obtain ⟨v, r, rfl, _⟩ := h
    rfl
  · obtain ⟨v, r, rfl, ⟨t, rfl, ht⟩, ⟨r1, r2, r3, r4, r5⟩, q⟩ := h
    have hr1 : Room 1 _ := hr.mono (by decide)
    refine ⟨_, pss_cons (ps_if (PW.pt (pw_or (pt_not (pt_val (pe_callB call_isi (by rfl) T.isinst (by decide +kernel) (pa_cons (pv 0) (pa_cons (pe_bty (by rfl) T.tuple bt_tuple) pa_nil)))))
        (pw_or1 (pt_cmpR op_ne (pe_callB call_len (by rfl) T.len PySem.boot_len (pa_cons (pv 0) pa_nil)) pe_int (nomark _))))) (pss_one (ps_ret pe_bl)) pss_nil)
      (pss_cons (ps_asg (pv 0) (pg_tup (by rfl) (pgs_cons (pg_name (i := 1) sc_is_row.nd rfl (.inl rfl)) (pgs_cons (pg_name (i := 2) sc_is_row.nd rfl (.inl rfl)) (pgs_cons (pg_name (i := 3) sc_is_row.nd rfl (.inl rfl)) pgs_nil)))))
      (pss_one (ps_ret (pe_and (pe_call G2 hr (by rfl) g2 kp2 b2 .nil pass0 (pa_cons (pv 1) pa_nil))
        (pe_and (pe_call G1 hr1 (by rfl) g1 kp1 b1 .nil pass0 (pa_cons (pv 2) (pa_cons pe_int (pa_cons (pe_glob (v := .int LIM) (by rfl) hl ⟨_, rfl⟩) pa_nil))))
          (pe_one (pe_call G1 hr1 (by rfl) g1 kp1 b1 .nil pass0 (pa_cons (pv 3) (pa_cons (pv 2) (pa_cons (pe_glob (v := .int LIM) (by rfl) hl ⟨_, rfl⟩) pa_nil)))))))))), ?_⟩
    refine ⟨_, rfl, _, .ty "tuple", _, _, _, rfl, .ty _, tyx_tup ht, kit_tt, true, rfl, iteF ?_⟩
    refine ⟨_, rfl, _, 3, rfl, .inr ⟨_, SqT.of ht, rfl⟩, rfl, false, by decide, iteF ?_⟩
    refine ⟨_, rfl, _, _, rfl, SqT.of ht, rfl, _, _, rfl, _, _, rfl, _, _, rfl, rfl, ?_⟩
    refine ⟨_, rfl, r.1, rfl, _, rfl, ?_⟩
    rw [decide_eq_true ⟨r1, r2⟩]
    refine iteT ⟨_, rfl, r.2.1, 1, LIM, rfl, _, rfl, ?_⟩
    rw [decide_eq_true ⟨r3, Int.le_trans r4 r5⟩]
    refine iteT ⟨_, rfl, _, rfl, r.2.2, r.2.1, LIM, rfl, ?_⟩
    rw [decide_eq_true ⟨r4, r5⟩]
    exact q
end
end Rw
namespace Rw
open PySem L2
theorem mem_cut {xs : List V} {lo hi : Option Int} {i : Nat} {x : V} (h : (cutV xs lo hi)[i]? = some x) : x ∈ xs := by
  have h1 := List.mem_of_getElem? h
  unfold cutV at h1
  exact List.mem_of_mem_drop (List.mem_of_mem_take h1)
theorem kL_mem {α : Type} {k : Kd α} {F : Hp} {vs : List V} {xs : List α} (h : Paired (k.is F) vs xs) {v : V} (m : v ∈ vs) : ∃ x ∈ xs, k.is F v x := pr_mem h m
def spCheckRows : Sp := fun vs H Q _ => ∃ (v : V) (rs : List Row), vs = [v] ∧ (kL kRow).is H v rs ∧ RowsOk rs ∧ ∀ H', Same H H' → Q .non H'
def spCheckHouse : Sp := fun vs H Q _ => ∃ (h : Int), vs = [.int h] ∧ 0 ≤ h ∧ h ≤ 7 ∧ Q .non H
section
variable {P : Program} {w : World} {K : PySem.W.Frag} {mg : Str → Option Value} {base : Heap}
theorem ok_first_wrong {f : Addr} {fd : FuncData} (F : Fun K "first_wrong" "first_wrong" s_first_wrong f fd) (T : TxA mg) (CR : Cal P w K mg base 3 "is_row" ["row"] spIsRow) : FnOk P w K mg base CX0 4 f fd ["rows"] spFirstWrong := by
  obtain ⟨f1, fd1, G1, g1, kp1, b1⟩ := CR
  obtain ⟨tm, hm⟩ := T.most
  refine F.ok sc_first_wrong (fun vs H Q E h => ?_) (fun cdv A outer s H vs Q E hr h => ?_)
  · obtain ⟨v, rs, rfl, _⟩ := h
    rfl
  · obtain ⟨v, rs, rfl, ⟨a, xs, rfl, ha, hp⟩, ⟨hl, hok⟩, q⟩ := h
    have el : xs.length = rs.length := pr_len hp
    refine ⟨_, pss_cons (ps_for PassesOwn.never rfl (pi_enum (by rfl) T.enum (pa_cons (pe_slice sl_list (pv 0) po_none (po_some (pe_glob (v := .int 200) (by rfl) hm ⟨_, rfl⟩))) pa_nil))
          (pg_tup rfl (pgs_cons (pg_name (i := 1) sc_first_wrong.nd rfl (.inl rfl)) (pgs_cons (pg_name (i := 2) sc_first_wrong.nd rfl (.inl rfl)) pgs_nil)))
        (pss_one (ps_if (pt_not (pt_val (pe_call G1 hr (by rfl) g1 kp1 b1 .nil pass0 (pa_cons (pv 2) pa_nil)))) (pss_one (ps_ret (pv 1))) pss_nil)))
      (pss_one (ps_ret (pe_ifExp (pt_cmpR op_gt (pe_callB call_len (by rfl) T.len PySem.boot_len (pa_cons (pv 0) pa_nil)) (pe_glob (v := .int 200) (by rfl) hm ⟨_, rfl⟩) (nomark _))
        (pe_glob (v := .int 200) (by rfl) hm ⟨_, rfl⟩) pe_non))), ?_⟩
    refine ⟨_, rfl, 200, rfl, a, xs, rfl, SqL.of ha, fun p np => ?_⟩
    refine ⟨p, _, rfl, SqL.of upd_same, for_it (walk_enum (K := K) (a := p) (xs := cutV xs none (some 200))) (fun i σ H' => Same H H' ∧ SqL K H' p (cutV xs none (some 200)) ∧ ∃ x y, σ = [some (.ref a), x, y])
      ⟨same_upd np, SqL.of upd_same, none, none, rfl⟩ (fun _ _ _ _ h => h.2.1) ?_ ?_⟩
    · rintro i x σ H1 H2 hi ⟨s1, l1, x0, y0, rfl⟩ ⟨U, i', row, rfl, nU, rfl, ei, er⟩
      have s2 : Same H (upd H1 U (.tup [i', row])) := s1.trans (same_upd nU)
      obtain ⟨r, hr1, hr2⟩ := pr_mem hp (mem_cut er)
      refine ⟨U, _, rfl, SqT.of upd_same, rfl, i', [row], rfl, row, [], rfl, rfl, ?_⟩
      refine ⟨_, rfl, _, r, rfl, kRow.mono s2 hr2, hok r hr1, true, rfl, iteF ?_⟩
      exact ⟨s2, (same_upd nU).seq l1, _, _, rfl⟩
    · rintro σ H1 ⟨s1, l1, x0, y0, rfl⟩
      have la : H1 a = some (.lst xs) := s1 _ _ ha
      refine ⟨_, rfl, _, xs.length, rfl, .inl ⟨_, SqL.of la, rfl⟩, _, _, rfl, rfl, _, rfl, ?_⟩
      rw [decide_eq_false (show ¬ (xs.length : Int) > 200 by omega)]
      exact iteF (q _ s1)
theorem ok_check_rows {f : Addr} {fd : FuncData} (F : Fun K "check_rows" "check_rows" s_check_rows f fd) (CR : Cal P w K mg base 4 "first_wrong" ["rows"] spFirstWrong) : FnOk P w K mg base CX0 5 f fd ["rows"] spCheckRows := by
  obtain ⟨f1, fd1, G1, g1, kp1, b1⟩ := CR
  refine F.ok sc_check_rows (fun vs H Q E h => ?_) (fun cdv A outer s H vs Q E hr h => ?_)
  · obtain ⟨v, rs, rfl, _⟩ := h
    rfl
  · obtain ⟨v, rs, rfl, hv, hok, q⟩ := h
    refine ⟨_, pss_cons (ps_set (i := 1) sc_check_rows.nd rfl (.inl rfl) (pe_call G1 hr (by rfl) g1 kp1 b1 .nil pass0 (pa_cons (pv 0) pa_nil)))
      (pss_one (ps_if (pt_cmpR op_notN (pv 1) pe_non (nomark _)) (pss_one ps_never) pss_nil)), ?_⟩
    refine ⟨_, rfl, v, rs, rfl, hv, hok, fun H1 s1 => ?_⟩
    refine ⟨_, rfl, rfl, _, rfl, iteF ?_⟩
    exact q _ s1
end
end Rw
namespace Rw
open PySem L2
/-! ### a dict of points -/
structure DI (kvs : List (List Key × V)) (ps : List Pt) (g : Pt → Int) : Prop where
  keys : kvs.map (·.1) = ps.map kk
  nd : ps.Nodup
  val : ∀ p, valV kvs (kk p) = if p ∈ ps then some (.int (g p)) else none
theorem DI.nil (g : Pt → Int) : DI [] [] g := ⟨rfl, .nil, fun p => by simp [valV]⟩
theorem DI.put {kvs : List (List Key × V)} {ps : List Pt} {g : Pt → Int} (d : DI kvs ps g) (q : Pt) (z : Int) :
    ∃ ps', DI (putK kvs (kk q) (.int z)) ps' (fun p => if p = q then z else g p) ∧ (∀ p, p ∈ ps' ↔ p ∈ ps ∨ p = q) ∧ ps'.length ≤ ps.length + 1 := by
  have vals : ∀ p, valV (putK kvs (kk q) (.int z)) (kk p) = if p = q then some (.int z) else if p ∈ ps then some (.int (g p)) else none := fun p => by
    rw [valV_put]
    by_cases e : p = q
    · rw [if_pos (by rw [e]), if_pos e]
    · rw [if_neg (fun h => e (kk_inj h)), if_neg e, d.val p]
  by_cases m : q ∈ ps
  · refine ⟨ps, ⟨?_, d.nd, fun p => ?_⟩, fun p => ⟨.inl, fun h => h.elim id fun e => e ▸ m⟩, Nat.le_succ _⟩
    · have a : (kvs.any fun kv => decide (kv.1 = kk q)) = true := by rw [valV_any, d.val q, if_pos m]; rfl
      unfold putK
      rw [if_pos a, List.map_map, ← d.keys]
      refine List.map_congr_left fun kv _ => ?_
      by_cases e : kv.1 = kk q
      · simp only [Function.comp, if_pos e]
      · simp only [Function.comp, if_neg e]
    · rw [vals p]
      by_cases e : p = q
      · rw [if_pos e, if_pos (e ▸ m)]
        simp only [if_pos e]
      · simp only [if_neg e]
  · refine ⟨ps ++ [q], ⟨?_, ?_, fun p => ?_⟩, fun p => by simp, by simp⟩
    · rw [putK_new _ (by rw [d.val q, if_neg m]), List.map_append, List.map_append, d.keys]
      rfl
    · exact List.nodup_append.mpr ⟨d.nd, by simp, fun a ha b hb e => by rw [List.mem_singleton.mp hb] at e; exact m (e ▸ ha)⟩
    · rw [vals p]
      by_cases e : p = q
      · rw [if_pos e, if_pos (by rw [e]; simp)]
        simp only [if_pos e]
      · simp [e]
theorem putK_le (kvs : List (List Key × V)) (k : List Key) (v : V) : (putK kvs k v).length ≤ kvs.length + 1 := by
  unfold putK
  split
  · rw [List.length_map]; omega
  · rw [List.length_append]; simp
theorem DI.len {kvs : List (List Key × V)} {ps : List Pt} {g : Pt → Int} (d : DI kvs ps g) : kvs.length = ps.length := by
  have h := congrArg List.length d.keys
  rw [List.length_map, List.length_map] at h
  exact h
/-- what stands at a point, 0 where nothing does -/
theorem DI.get {kvs : List (List Key × V)} {ps : List Pt} {g : Pt → Int} (d : DI kvs ps g) (z : ∀ p, p ∉ ps → g p = 0) (p : Pt) : (valV kvs (kk p)).getD (.int 0) = .int (g p) := by
  rw [d.val p]
  by_cases m : p ∈ ps
  · rw [if_pos m]; rfl
  · rw [if_neg m, z p m]; rfl
theorem DI.congr {kvs : List (List Key × V)} {ps : List Pt} {g g' : Pt → Int} (d : DI kvs ps g) (h : ∀ p, g p = g' p) : DI kvs ps g' := by
  have e : g = g' := funext h
  rw [← e]; exact d
theorem chg_snoc (ws : List WRow) (r : Row) (z : Int) (p : Pt) : chg (ws ++ [(r, z)]) p = chg ws p + z * (ind (fstP r = p) - ind (endP r = p)) := by
  unfold chg
  rw [S_append]
  show _ + (z * (ind (fstP r = p) - ind (endP r = p)) + 0) = _
  omega
/-- what the program's dict of changes tells of weighed rows -/
structure ChD (kvs : List (List Key × V)) (ws : List WRow) : Prop where
  ex : ∃ ps : List Pt, DI kvs ps (chg ws) ∧ (∀ p, p ∉ ps → chg ws p = 0) ∧ Has ps ws ∧ ps.length ≤ 2 * ws.length
theorem ChD.nil : ChD [] [] := ⟨[], DI.nil _, fun _ _ => rfl, fun x h => absurd h (by simp), Nat.le_refl _⟩
/-- one row more: the two stores -/
theorem ChD.step {kvs : List (List Key × V)} {ws : List WRow} (c : ChD kvs ws) (r : Row) (z : Int) (hne : fstP r ≠ endP r) :
    ∃ v1 : Int, (valV kvs (kk (fstP r))).getD (.int 0) = .int v1 ∧ ∃ v2 : Int, (valV (putK kvs (kk (fstP r)) (.int (v1 + z))) (kk (endP r))).getD (.int 0) = .int v2 ∧
      ChD (putK (putK kvs (kk (fstP r)) (.int (v1 + z))) (kk (endP r)) (.int (v2 - z))) (ws ++ [(r, z)]) := by
  obtain ⟨ps, d, hz, hh, hl⟩ := c.ex
  refine ⟨chg ws (fstP r), d.get hz _, ?_⟩
  obtain ⟨ps1, d1, m1, l1⟩ := d.put (fstP r) (chg ws (fstP r) + z)
  have hz1 : ∀ p, p ∉ ps1 → (if p = fstP r then chg ws (fstP r) + z else chg ws p) = 0 := fun p hp => by
    have a : ¬ (p ∈ ps ∨ p = fstP r) := fun q => hp ((m1 p).mpr q)
    rw [if_neg fun e => a (.inr e)]
    exact hz p fun q => a (.inl q)
  have e2 : (if endP r = fstP r then chg ws (fstP r) + z else chg ws (endP r)) = chg ws (endP r) := if_neg fun e => hne e.symm
  refine ⟨chg ws (endP r), by rw [d1.get hz1, e2], ?_⟩
  obtain ⟨ps2, d2, m2, l2⟩ := d1.put (endP r) (chg ws (endP r) - z)
  have ev : ∀ p, (if p = endP r then chg ws (endP r) - z else if p = fstP r then chg ws (fstP r) + z else chg ws p) = chg (ws ++ [(r, z)]) p := fun p => by
    rw [chg_snoc]
    by_cases a : p = endP r
    · subst a
      rw [if_pos rfl, ind_pos (rfl : endP r = endP r), ind_neg hne]
      omega
    · rw [if_neg a, ind_neg (fun e => a e.symm : ¬ endP r = p)]
      by_cases b : p = fstP r
      · subst b
        rw [if_pos rfl, ind_pos (rfl : fstP r = fstP r)]
        omega
      · rw [if_neg b, ind_neg (fun e => b e.symm : ¬ fstP r = p)]
        omega
  refine ⟨ps2, d2.congr ev, fun p hp => ?_, fun x hx => ?_, ?_⟩
  · rw [← ev p]
    have a : ¬ (p ∈ ps1 ∨ p = endP r) := fun q => hp ((m2 p).mpr q)
    rw [if_neg fun e => a (.inr e)]
    exact hz1 p fun q => a (.inl q)
  · rcases List.mem_append.mp hx with hx | hx
    · obtain ⟨a, b⟩ := hh x hx
      exact ⟨(m2 _).mpr (.inl ((m1 _).mpr (.inl a))), (m2 _).mpr (.inl ((m1 _).mpr (.inl b)))⟩
    · rw [List.mem_singleton.mp hx]
      exact ⟨(m2 _).mpr (.inl ((m1 _).mpr (.inr rfl))), (m2 _).mpr (.inr rfl)⟩
  · rw [List.length_append, List.length_singleton]
    omega
def spChangesOf : Sp := fun vs H Q _ => ∃ (F : Hp) (v : V) (ws : List WRow), vs = [v] ∧ Same F H ∧ (kL kW).is F v ws ∧ Wok ws ∧ ws.length ≤ 1000000 ∧
  ∀ (H' : Hp) (d : Addr) (kvs : List (List Key × V)), Ext M0 F H F H' → H d = none → F d = none → H' d = some (.dT kvs) → ChD kvs ws → Q (.ref d) H'
section
variable {P : Program} {w : World} {K : PySem.W.Frag} {mg : Str → Option Value} {base : Heap}
theorem ok_changes_of {f : Addr} {fd : FuncData} (F0 : Fun K "changes_of" "changes_of" s_changes_of f fd) : FnOk P w K mg base CX0 1 f fd ["weighed"] spChangesOf := by
  refine F0.ok sc_changes_of (fun vs H Q E h => ?_) (fun cdv A outer s H vs Q E hr h => ?_)
  · obtain ⟨F, v, ws, rfl, _⟩ := h
    rfl
  · obtain ⟨F, v, ws, rfl, fh, ⟨a, xs, rfl, ha, hp⟩, hok, hlen, q⟩ := h
    have hu := hu_of hr
    refine ⟨_, pss_cons (ps_set (i := 1) sc_changes_of.nd rfl (.inl rfl) pe_dnewT)
      (pss_cons (ps_for PassesOwn.never rfl (pi_list (pv 0))
          (pg_tup rfl (pgs_cons (pg_tup rfl (pgs_cons (pg_name (i := 2) sc_changes_of.nd rfl (.inl rfl)) (pgs_cons (pg_name (i := 3) sc_changes_of.nd rfl (.inl rfl)) (pgs_cons (pg_name (i := 4) sc_changes_of.nd rfl (.inl rfl)) pgs_nil))))
            (pgs_cons (pg_name (i := 5) sc_changes_of.nd rfl (.inl rfl)) pgs_nil)))
        (pss_cons (ps_dput hu (pv 1) (pe_tup (pa_cons (pv 2) (pa_cons (pv 3) pa_nil))) (pe_op op_add (pe_dget2 hu (pv 1) (pe_tup (pa_cons (pv 2) (pa_cons (pv 3) pa_nil))) pe_int ⟨rfl, rfl, rfl, rfl⟩) (pv 5)) rfl)
          (pss_one (ps_dput hu (pv 1) (pe_tup (pa_cons (pv 2) (pa_cons (pe_op op_add (pv 4) pe_int) pa_nil))) (pe_op op_sub (pe_dget2 hu (pv 1) (pe_tup (pa_cons (pv 2) (pa_cons (pe_op op_add (pv 4) pe_int) pa_nil))) pe_int ⟨rfl, rfl, rfl, rfl⟩) (pv 5)) rfl))))
      (pss_one (ps_ret (pv 1)))), ?_⟩
    intro d nd
    have fd0 : F d = none := fh.free nd
    refine ⟨_, rfl, a, rfl, ⟨xs, SqL.of ((same_upd nd) _ _ (fh _ _ ha))⟩, for_list (K := K) (a := a) (xs := xs) (fun i σ H1 => ∃ kvs y2 y3 y4 y5, σ = [some (.ref a), some (.ref d), y2, y3, y4, y5] ∧ Ext M0 F H F H1 ∧ H1 d = some (.dT kvs) ∧ ChD kvs (ws.take i))
      ⟨[], none, none, none, none, rfl, (Ext.refl fh).put (.inl nd) fd0, upd_same, ChD.nil⟩ (fun i σ H1 _ ⟨_, _, _, _, _, _, X1, _, _⟩ => SqL.of (X1.fh _ _ ha)) ?_ ?_⟩
    · rintro i x σ H1 hi ⟨kvs, y2, y3, y4, y5, rfl, X1, hd, hc⟩
      obtain ⟨⟨r, z⟩, hri, t, u, rfl, ht, ⟨t2, rfl, ht2⟩⟩ := pr_get hp hi
      have hro := hok _ (List.mem_of_getElem? hri)
      have hne : fstP r ≠ endP r := fun e => by
        have e2 := congrArg Prod.snd e
        simp only [fstP, endP] at e2
        simp only at hro
        omega
      obtain ⟨v1, e1, v2, e2, hc2⟩ := hc.step r z hne
      have hlen2 : ∀ {kvs : List (List Key × V)} {n : Nat}, ChD kvs (ws.take n) → kvs.length < sizeLine - 2 := fun {kvs n} c => by
        obtain ⟨ps, dd, _, _, l⟩ := c.ex
        have l2 : (ws.take n).length ≤ ws.length := List.length_take_le' n ws
        rw [dd.len, sizeLine_eq]
        omega
      have hk := hlen2 hc
      refine ⟨t, _, rfl, SqT.of (X1.fh _ _ ht), rfl, _, _, rfl, t2, _, rfl, SqT.of (X1.fh _ _ ht2), rfl, _, _, rfl, _, _, rfl, _, _, rfl, rfl, _, _, rfl, rfl, ?_⟩
      -- changes[house, first] = changes.get((house, first), 0) + weight
      refine ⟨_, rfl, d, rfl, .inr ⟨kvs, .inl hd⟩, _, rfl, _, rfl, (by show 2 ≤ sizeLine; decide), fun k1 nk1 => ?_⟩
      have dk1 : d ≠ k1 := ne_of_none hd nk1
      have hd1 : upd H1 k1 (.tup [.int r.1, .int r.2.1]) d = some (.dT kvs) := by rw [upd_ne dk1]; exact hd
      refine ⟨_, DGet.t (k := kk (fstP r)) hd1 upd_same, _, rfl, v1, z, e1, rfl, _, rfl, _, rfl, _, rfl, (by show 2 ≤ sizeLine; decide), fun k2 nk2 => ?_⟩
      have dk2 : d ≠ k2 := ne_of_none hd1 nk2
      have hd2 : upd (upd H1 k1 (.tup [.int r.1, .int r.2.1])) k2 (.tup [.int r.1, .int r.2.1]) d = some (.dT kvs) := by rw [upd_ne dk2]; exact hd1
      refine ⟨d, _, rfl, DPut.t (k := kk (fstP r)) hd2 upd_same (by omega), ?_⟩
      have X2 := (((X1.tmp (o := .tup [.int r.1, .int r.2.1]) nk1).tmp (o := .tup [.int r.1, .int r.2.1]) nk2).put (o := .dT (putK kvs (kk (fstP r)) (.int (v1 + z)))) (.inl nd) fd0)
      have hd3 : upd (upd (upd H1 k1 (.tup [.int r.1, .int r.2.1])) k2 (.tup [.int r.1, .int r.2.1])) d (.dT (putK kvs (kk (fstP r)) (.int (v1 + z)))) d = some (.dT (putK kvs (kk (fstP r)) (.int (v1 + z)))) := upd_same
      revert hd3 X2
      generalize upd (upd (upd H1 k1 (.tup [.int r.1, .int r.2.1])) k2 (.tup [.int r.1, .int r.2.1])) d (.dT (putK kvs (kk (fstP r)) (.int (v1 + z)))) = H2
      intro X2 hd3
      -- changes[house, last + 1] = changes.get((house, last + 1), 0) - weight
      refine ⟨_, rfl, d, rfl, .inr ⟨_, .inl hd3⟩, _, rfl, _, rfl, _, _, rfl, rfl, (by show 2 ≤ sizeLine; decide), fun k3 nk3 => ?_⟩
      have dk3 : d ≠ k3 := ne_of_none hd3 nk3
      have hd4 : upd H2 k3 (.tup [.int r.1, .int (r.2.2 + 1)]) d = some (.dT (putK kvs (kk (fstP r)) (.int (v1 + z)))) := by rw [upd_ne dk3]; exact hd3
      refine ⟨_, DGet.t (k := kk (endP r)) hd4 upd_same, _, rfl, v2, z, e2, rfl, _, rfl, _, rfl, _, rfl, _, _, rfl, rfl, (by show 2 ≤ sizeLine; decide), fun k4 nk4 => ?_⟩
      have dk4 : d ≠ k4 := ne_of_none hd4 nk4
      have hd5 : upd (upd H2 k3 (.tup [.int r.1, .int (r.2.2 + 1)])) k4 (.tup [.int r.1, .int (r.2.2 + 1)]) d = some (.dT (putK kvs (kk (fstP r)) (.int (v1 + z)))) := by rw [upd_ne dk4]; exact hd4
      have lp : (putK kvs (kk (fstP r)) (.int (v1 + z))).length ≤ kvs.length + 1 := putK_le _ _ _
      refine ⟨d, _, rfl, DPut.t (k := kk (endP r)) hd5 upd_same (by omega), ?_⟩
      refine ⟨_, _, _, _, _, rfl, (((X2.tmp nk3).tmp nk4).put (.inl nd) fd0), upd_same, ?_⟩
      rw [List.take_add_one, hri]
      exact hc2
    · rintro σ H1 ⟨kvs, y2, y3, y4, y5, rfl, X1, hd, hc⟩
      refine ⟨_, rfl, q H1 d kvs X1 nd fd0 hd ?_⟩
      rw [pr_len hp, List.take_length] at hc
      exact hc
end
end Rw
namespace Rw
open PySem L2
theorem same_put {G H : Hp} {p : Addr} {o : HO} (s : Same G H) (g : G p = none) : Same G (upd H p o) := fun b u e => by
  rw [upd_ne (ne_of_none e g)]
  exact s b u e
/-- all but one place -/
def but (H : Hp) (o : Addr) : Hp := fun b => if b = o then none else H b
theorem but_same {H : Hp} {o : Addr} : Same (but H o) H := fun b u e => by
  unfold but at e
  by_cases h : b = o
  · rw [if_pos h] at e; cases e
  · rw [if_neg h] at e; exact e
theorem but_self {H : Hp} {o : Addr} : but H o o = none := if_pos rfl
theorem but_at {H : Hp} {o b : Addr} (h : b ≠ o) : but H o b = H b := if_neg h
theorem kPt_but {H : Hp} {o : Addr} {xs : List V} (ho : H o = some (.lst xs)) {v : V} {p : Pt} (h : kPt.is H v p) : kPt.is (but H o) v p := by
  obtain ⟨t, e, ht⟩ := h
  exact ⟨t, e, by rw [but_at (ne_of ht ho (by intro z; cases z))]; exact ht⟩
def sweepM (ws : List WRow) (least : Int) (ks : List Pt) : St := ks.foldl (stepM (chg ws) least) ⟨[], 0, 0⟩
theorem stepM_out (ch : Pt → Int) (least : Int) (s : St) (k : Pt) : (stepM ch least s k).out.length ≤ s.out.length + 1 := by
  unfold stepM
  split
  · exact Nat.le_succ _
  · split
    · simp
    · exact Nat.le_succ _
theorem sweepM_snoc (ws : List WRow) (least : Int) (ks : List Pt) (k : Pt) : sweepM ws least (ks ++ [k]) = stepM (chg ws) least (sweepM ws least ks) k := by
  unfold sweepM
  rw [List.foldl_append]
  rfl
theorem sweepM_len (ws : List WRow) (least : Int) (ks : List Pt) : (sweepM ws least ks).out.length ≤ ks.length := by
  have key : ∀ (ks : List Pt) (s : St), (ks.foldl (stepM (chg ws) least) s).out.length ≤ s.out.length + ks.length := by
    intro ks
    induction ks with
    | nil => intro s; exact Nat.le_refl _
    | cons k ks ih =>
      intro s
      have h1 := ih (stepM (chg ws) least s k)
      have h2 := stepM_out (chg ws) least s k
      rw [List.foldl_cons, List.length_cons]
      omega
  have h := key ks ⟨[], 0, 0⟩
  simp only [List.length_nil, Nat.zero_add] at h
  exact h
/-- what the sweep tells -/
structure Told (ws : List WRow) (least : Int) (out : List Row) : Prop where
  can : Canon out
  mem : ∀ p, mem out p ↔ least ≤ cover ws p
def spReaching : Sp := fun vs H Q _ => ∃ (F : Hp) (v : V) (ws : List WRow) (least : Int), vs = [v, .int least] ∧ Same F H ∧ (kL kW).is F v ws ∧ Wok ws ∧ ws.length ≤ 1000000 ∧ 0 < least ∧ RetL M0 F H kRow (Told ws least) Q
structure TxB (mg : Str → Option Value) : Prop where
  sorted : mg "sorted" = none
section
variable {P : Program} {w : World} {K : PySem.W.Frag} {mg : Str → Option Value} {base : Heap}
theorem ok_reaching {f : Addr} {fd : FuncData} (F0 : Fun K "reaching" "reaching" s_reaching f fd) (T : TxB mg) (CC : Cal P w K mg base 1 "changes_of" ["weighed"] spChangesOf) : FnOk P w K mg base CX0 2 f fd ["weighed", "least"] spReaching := by
  obtain ⟨f1, fd1, G1, g1, kp1, b1⟩ := CC
  refine F0.ok sc_reaching (fun vs H Q E h => ?_) (fun cdv A outer s H vs Q E hr h => ?_)
  · obtain ⟨F, v, ws, least, rfl, _⟩ := h
    rfl
  · obtain ⟨F, v, ws, least, rfl, fh, hv, hok, hlen, hle, q⟩ := h
    have hu := hu_of hr
    refine ⟨_, pss_cons (ps_set (i := 2) sc_reaching.nd rfl (.inl rfl) (pe_call G1 hr (by rfl) g1 kp1 b1 .nil pass0 (pa_cons (pv 0) pa_nil)))
      (pss_cons (ps_set (i := 3) sc_reaching.nd rfl (.inl rfl) (pe_lst pa_nil))
      (pss_cons (ps_set (i := 4) sc_reaching.nd rfl (.inl rfl) pe_int)
      (pss_cons (ps_set (i := 5) sc_reaching.nd rfl (.inl rfl) pe_int)
      (pss_cons (ps_for PassesOwn.never rfl (pi_list (pe_callB (cr_sortedDT (by rfl)) (by rfl) T.sorted (by decide +kernel) (pa_cons (pv 2) pa_nil)))
          (pg_tup rfl (pgs_cons (pg_name (i := 6) sc_reaching.nd rfl (.inl rfl)) (pgs_cons (pg_name (i := 7) sc_reaching.nd rfl (.inl rfl)) pgs_nil)))
        (pss_cons (ps_set (i := 8) sc_reaching.nd rfl (.inl rfl) (pv 4))
        (pss_cons (ps_set (i := 4) sc_reaching.nd rfl (.inl rfl) (pe_op op_add (pv 8) (pe_dget hu (pv 2) (pe_tup (pa_cons (pv 6) (pa_cons (pv 7) pa_nil))) (fun _ _ => rfl))))
        (pss_one (ps_if (pt_chain op_lt op_le (pv 8) (pv 1) (pv 4)) (pss_one (ps_set (i := 5) sc_reaching.nd rfl (.inl rfl) (pv 7)))
          (pss_one (ps_if (pt_chain op_lt op_le (pv 4) (pv 1) (pv 8))
            (pss_one (ps_expr (pe_bm PySem.F.plainAttrs_list PySem.F.slot_list_append PySem.F.type_list_append mt_append (pv 3) (pa_cons (pe_tup (pa_cons (pv 6) (pa_cons (pv 5) (pa_cons (pe_op op_sub (pv 7) pe_int) pa_nil)))) pa_nil)))) pss_nil)))))))
      (pss_one (ps_ret (pv 3))))))), ?_⟩
    refine ⟨_, rfl, F, v, ws, rfl, fh, hv, hok, hlen, fun H1 d kvs X1 nd fd hd hc => ?_⟩
    refine ⟨Nat.zero_le _, fun o no => ?_⟩
    have X2 := X1.tmp (o := .lst []) no
    have dno : d ≠ o := ne_of_none hd no
    have hd2 : upd H1 o (.lst []) d = some (.dT kvs) := by rw [upd_ne dno]; exact hd
    have ho2 : upd H1 o (.lst []) o = some (.lst []) := upd_same
    have Ho : H o = none := X1.free no
    have Fo : F o = none := X1.ffree no
    revert X2 hd2 ho2
    generalize upd H1 o (.lst []) = H2
    intro X2 hd2 ho2
    obtain ⟨ps, dd, hz, hh, hl⟩ := hc.ex
    refine ⟨_, rfl, d, kvs, ps, rfl, hd2, dd.keys, dd.nd, fun ys qs p hys hperm hsort np => ?_⟩
    have pno : o ≠ p := ne_of_none ho2 np
    have dnp : d ≠ p := ne_of_none hd2 np
    have X3 := X2.tmp (o := .lst ys) np
    have ho3 : upd H2 p (.lst ys) o = some (.lst []) := by rw [upd_ne pno]; exact ho2
    have hd3 : upd H2 p (.lst ys) d = some (.dT kvs) := by rw [upd_ne dnp]; exact hd2
    have hp3 : upd H2 p (.lst ys) p = some (.lst ys) := upd_same
    have hys3 : Paired (kPt.is (but (upd H2 p (.lst ys)) o)) ys qs := pr_mono (fun _ _ r => kPt_but ho3 (kPt.mono (same_upd np) r)) hys
    revert X3 ho3 hd3 hp3 hys3
    generalize upd H2 p (.lst ys) = H3
    intro X3 ho3 hd3 hp3 hys3
    have gd : but H3 o d = some (.dT kvs) := by rw [but_at dno]; exact hd3
    have gp : but H3 o p = some (.lst ys) := by rw [but_at pno.symm]; exact hp3
    have go : but H3 o o = none := but_self
    have gs : Same (but H3 o) H3 := but_same
    revert gd gp go gs hys3
    generalize but H3 o = G
    intro hys3 gd gp go gs
    have lq : qs.length ≤ 2 * ws.length := by rw [hperm.length_eq]; exact hl
    refine ⟨p, rfl, ⟨ys, SqL.of (gs _ _ gp)⟩, for_list (K := K) (a := p) (xs := ys) (fun i σ H' => ∃ F' outs y6 y7 y8, σ = [some v, some (.int least), some (.ref d), some (.ref o), some (.int (sweepM ws least (qs.take i)).total), some (.int (sweepM ws least (qs.take i)).start), y6, y7, y8] ∧
        Ext M0 F H F' H' ∧ Same G H' ∧ F' o = none ∧ H' o = some (.lst outs) ∧ Paired (kRow.is F') outs (sweepM ws least (qs.take i)).out)
      ⟨F, [], none, none, none, rfl, X3, gs, Fo, ho3, .nil⟩ (fun i σ H' _ ⟨_, _, _, _, _, _, _, s1, _⟩ => SqL.of (s1 _ _ gp)) ?_ ?_⟩
    · rintro i x σ H' hi ⟨F', outs, y6, y7, y8, rfl, X4, s4, fo, hout, hpr⟩
      obtain ⟨k, hk, t, rfl, ht⟩ := pr_get hys3 hi
      have kps : k ∈ ps := hperm.mem_iff.mp (List.mem_of_getElem? hk)
      have hval : valV kvs (kk k) = some (.int (chg ws k)) := by rw [dd.val k, if_pos kps]
      have hst : sweepM ws least (qs.take (i + 1)) = stepM (chg ws) least (sweepM ws least (qs.take i)) k := by
        rw [List.take_add_one, hk, ← sweepM_snoc]
        rfl
      have hlo : outs.length ≤ 2 * ws.length := by
        have h1 := sweepM_len ws least (qs.take i)
        have h2 : (qs.take i).length ≤ qs.length := List.length_take_le' i qs
        rw [pr_len hpr]
        omega
      revert hpr hst
      generalize sweepM ws least (qs.take i) = st
      intro hpr hst
      refine ⟨t, _, rfl, SqT.of (s4 _ _ ht), rfl, _, _, rfl, _, _, rfl, rfl, ?_⟩
      refine ⟨_, rfl, _, rfl, _, rfl, _, rfl, _, rfl, (by show 2 ≤ sizeLine; decide), fun k1 nk1 => ?_⟩
      have hd4 : H' d = some (.dT kvs) := s4 _ _ gd
      have dk1 : d ≠ k1 := ne_of_none hd4 nk1
      have ok1 : o ≠ k1 := ne_of_none hout nk1
      have e5 : upd H' k1 (.tup [.int k.1, .int k.2]) d = some (.dT kvs) := by rw [upd_ne dk1]; exact hd4
      refine ⟨d, _, rfl, hval ▸ DGet.t (k := kk k) e5 upd_same, _, _, rfl, rfl, ?_⟩
      have X5 := X4.tmp (o := .tup [.int k.1, .int k.2]) nk1
      have s5 : Same G (upd H' k1 (.tup [.int k.1, .int k.2])) := s4.trans (same_upd nk1)
      have ho5 : upd H' k1 (.tup [.int k.1, .int k.2]) o = some (.lst outs) := by rw [upd_ne ok1]; exact hout
      revert X5 s5 ho5
      generalize upd H' k1 (.tup [.int k.1, .int k.2]) = H5
      intro X5 s5 ho5
      by_cases c1 : st.total < least
      · by_cases c2 : least ≤ st.total + chg ws k
        · have es : sweepM ws least (qs.take (i + 1)) = ⟨st.out, st.total + chg ws k, k.2⟩ := by rw [hst]; unfold stepM; rw [if_pos ⟨c1, c2⟩]
          refine ⟨_, rfl, _, rfl, _, _, rfl, rfl, _, rfl, ?_⟩
          rw [decide_eq_true c1]
          refine iteT ⟨_, rfl, _, _, rfl, rfl, _, rfl, ?_⟩
          rw [decide_eq_true c2]
          refine iteT ⟨_, rfl, F', outs, some (.int k.1), some (.int k.2), some (.int st.total), ?_, X5, s5, fo, ho5, ?_⟩
          · rw [es]; rfl
          · rw [es]; exact hpr
        · have es : sweepM ws least (qs.take (i + 1)) = ⟨st.out, st.total + chg ws k, st.start⟩ := by
            rw [hst]; unfold stepM; rw [if_neg (fun z => c2 z.2), if_neg (fun z => absurd z.2 (by omega))]
          refine ⟨_, rfl, _, rfl, _, _, rfl, rfl, _, rfl, ?_⟩
          rw [decide_eq_true c1]
          refine iteT ⟨_, rfl, _, _, rfl, rfl, _, rfl, ?_⟩
          rw [decide_eq_false c2]
          refine iteF ⟨_, rfl, _, rfl, _, _, rfl, rfl, _, rfl, ?_⟩
          rw [decide_eq_true (show st.total + chg ws k < least by omega)]
          refine iteT ⟨_, rfl, _, _, rfl, rfl, _, rfl, ?_⟩
          rw [decide_eq_false (show ¬ least ≤ st.total by omega)]
          refine iteF ⟨F', outs, some (.int k.1), some (.int k.2), some (.int st.total), ?_, X5, s5, fo, ho5, ?_⟩
          · rw [es]; rfl
          · rw [es]; exact hpr
      · by_cases c2 : st.total + chg ws k < least
        · have es : sweepM ws least (qs.take (i + 1)) = ⟨st.out ++ [(k.1, st.start, k.2 - 1)], st.total + chg ws k, st.start⟩ := by
            rw [hst]; unfold stepM; rw [if_neg (fun z => c1 z.1), if_pos ⟨c2, by omega⟩]
          refine ⟨_, rfl, _, rfl, _, _, rfl, rfl, _, rfl, ?_⟩
          rw [decide_eq_false c1]
          refine iteF ⟨_, rfl, iteF ⟨_, rfl, _, rfl, _, _, rfl, rfl, _, rfl, ?_⟩⟩
          rw [decide_eq_true c2]
          refine iteT ⟨_, rfl, _, _, rfl, rfl, _, rfl, ?_⟩
          rw [decide_eq_true (show least ≤ st.total by omega)]
          refine iteT ⟨_, rfl, .inl ⟨rfl, _, SqL.of ho5⟩, _, rfl, _, rfl, _, rfl, _, _, rfl, rfl, (by show 3 ≤ sizeLine; decide), fun t6 nt6 => ?_⟩
          have ot6 : o ≠ t6 := ne_of_none ho5 nt6
          refine ⟨o, outs, _, rfl, rfl, by rw [upd_ne ot6]; exact ho5, by rw [sizeLine_eq]; omega, ?_⟩
          have fo6 : upd F' t6 (.tup [.int k.1, .int st.start, .int (k.2 - 1)]) o = none := by rw [upd_ne ot6]; exact fo
          refine ⟨upd F' t6 (.tup [.int k.1, .int st.start, .int (k.2 - 1)]), outs ++ [.ref t6], some (.int k.1), some (.int k.2), some (.int st.total), ?_, (X5.lay nt6).put (.inl Ho) fo6, same_put (s5.trans (same_upd nt6)) go, fo6, upd_same, ?_⟩
          · rw [es]; rfl
          · rw [es]
            exact pr_snoc (pr_mono (fun _ _ r => kRow.mono (same_upd (X5.ffree nt6)) r) hpr) ⟨t6, rfl, upd_same⟩
        · have es : sweepM ws least (qs.take (i + 1)) = ⟨st.out, st.total + chg ws k, st.start⟩ := by
            rw [hst]; unfold stepM; rw [if_neg (fun z => c1 z.1), if_neg (fun z => c2 z.1)]
          refine ⟨_, rfl, _, rfl, _, _, rfl, rfl, _, rfl, ?_⟩
          rw [decide_eq_false c1]
          refine iteF ⟨_, rfl, iteF ⟨_, rfl, _, rfl, _, _, rfl, rfl, _, rfl, ?_⟩⟩
          rw [decide_eq_false c2]
          refine iteF ⟨_, rfl, iteF ⟨F', outs, some (.int k.1), some (.int k.2), some (.int st.total), ?_, X5, s5, fo, ho5, ?_⟩⟩
          · rw [es]; rfl
          · rw [es]; exact hpr
    · rintro σ H' ⟨F', outs, y6, y7, y8, rfl, X4, s4, fo, hout, hpr⟩
      rw [pr_len hys3, List.take_length] at hpr
      obtain ⟨a1, a2⟩ := sweep hle hok hsort (fun x hx => ⟨hperm.mem_iff.mpr (hh x hx).1, hperm.mem_iff.mpr (hh x hx).2⟩) 0
      refine ⟨_, rfl, q F' H' o outs _ X4 Ho fo hout hpr ⟨a1, a2⟩⟩
end
end Rw
namespace Rw
open PySem L2
/-! ### how long what is told can be; its rows are rows -/
theorem nodup_sub {α : Type} [DecidableEq α] : ∀ (l D : List α), l.Nodup → (∀ x ∈ l, x ∈ D) → l.length ≤ D.length
  | [], _, _, _ => Nat.zero_le _
  | x :: l, D, hn, h => by
    have h1 := List.nodup_cons.mp hn
    have hx := h x List.mem_cons_self
    have ih := nodup_sub l (D.erase x) h1.2 fun y hy => by
      have ne : y ≠ x := fun e => h1.1 (e ▸ hy)
      exact (List.mem_erase_of_ne ne).mpr (h y (List.mem_cons_of_mem _ hy))
    rw [List.length_erase_of_mem hx] at ih
    have : 0 < D.length := List.length_pos_of_mem hx
    rw [List.length_cons]
    omega
theorem S_drop {f g : Row → Int} : ∀ {ws : List WRow}, S f ws < S g ws → ∃ x ∈ ws, x.2 * f x.1 < x.2 * g x.1
  | [], h => by simp [S] at h
  | (r, w) :: ws, h => by
    by_cases c : w * f r < w * g r
    · exact ⟨_, List.mem_cons_self, c⟩
    · have h' : w * f r + S f ws < w * g r + S g ws := h
      obtain ⟨x, hx, e⟩ := S_drop (f := f) (g := g) (ws := ws) (by omega)
      exact ⟨x, List.mem_cons_of_mem _ hx, e⟩
/-- where a weighed row can end a told one -/
def stopP (x : WRow) : Pt := if 0 < x.2 then endP x.1 else fstP x.1
theorem Canon.ends {out : List Row} (c : Canon out) : (out.map endP).Nodup := by
  refine List.pairwise_map.mpr (c.ord.imp_of_mem fun {r s} hr hs b e => ?_)
  have o := c.ok s hs
  have e1 := congrArg Prod.fst e
  have e2 := congrArg Prod.snd e
  unfold endP at e1 e2
  simp only at e1 e2
  unfold before at b
  omega
theorem Canon.gap {out : List Row} (c : Canon out) {r : Row} (hr : r ∈ out) : ¬ mem out (endP r) := by
  rintro ⟨s, hs, i1, i2, i3⟩
  unfold endP at i1 i2 i3
  simp only at i1 i2 i3
  rcases Classical.em (r = s) with e | e
  · subst e; omega
  · have key : before r s ∨ before s r := by
      obtain ⟨i, hi, ei⟩ := List.getElem_of_mem hr
      obtain ⟨j, hj, ej⟩ := List.getElem_of_mem hs
      have p := List.pairwise_iff_getElem.mp c.ord
      rcases Nat.lt_trichotomy i j with l | l | l
      · exact .inl (by have := p i j hi hj l; rw [ei, ej] at this; exact this)
      · subst l; exact absurd (ei.symm.trans ej) e
      · exact .inr (by have := p j i hj hi l; rw [ei, ej] at this; exact this)
    have o := c.ok r hr
    have o2 := c.ok s hs
    unfold before at key
    omega
theorem Canon.last {out : List Row} (c : Canon out) {r : Row} (hr : r ∈ out) : mem out (r.1, r.2.2) := ⟨r, hr, rfl, c.ok r hr, Int.le_refl _⟩
theorem Canon.first {out : List Row} (c : Canon out) {r : Row} (hr : r ∈ out) : mem out (r.1, r.2.1) := ⟨r, hr, rfl, Int.le_refl _, c.ok r hr⟩
theorem Told.len {ws : List WRow} {least : Int} {out : List Row} (t : Told ws least out) : out.length ≤ ws.length := by
  have h := nodup_sub (out.map endP) (ws.map stopP) t.can.ends fun p hp => by
    obtain ⟨r, hr, rfl⟩ := List.mem_map.mp hp
    have a := (t.mem _).mp (t.can.last hr)
    have b : ¬ least ≤ cover ws (endP r) := fun z => t.can.gap hr ((t.mem _).mpr z)
    obtain ⟨x, hx, e⟩ := S_drop (f := fun s => ind (inRow s (endP r))) (g := fun s => ind (inRow s (r.1, r.2.2))) (ws := ws) (by unfold cover at a b; omega)
    refine List.mem_map.mpr ⟨x, hx, ?_⟩
    obtain ⟨s, w⟩ := x
    simp only at e
    unfold stopP
    rcases ind_or (inRow s (endP r)) with ⟨u1, e1⟩ | ⟨u1, e1⟩ <;> rcases ind_or (inRow s (r.1, r.2.2)) with ⟨u2, e2⟩ | ⟨u2, e2⟩ <;> rw [e1, e2] at e
    · omega
    · rw [if_neg (show ¬ 0 < w by omega)]
      unfold inRow endP at u1
      unfold inRow at u2
      unfold fstP endP
      simp only at u1 u2 ⊢
      exact Prod.ext (by simp only; omega) (by simp only; omega)
    · rw [if_pos (show 0 < w by omega)]
      unfold inRow endP at u1
      unfold inRow at u2
      unfold endP
      simp only at u1 u2 ⊢
      exact Prod.ext (by simp only; omega) (by simp only; omega)
    · omega
  rw [List.length_map, List.length_map] at h
  exact h
def InBox (p : Pt) : Prop := 0 ≤ p.1 ∧ p.1 ≤ 7 ∧ 1 ≤ p.2 ∧ p.2 ≤ LIM
theorem RowOk.box {r : Row} (h : RowOk r) {p : Pt} (i : inRow r p) : InBox p := by
  obtain ⟨a, b, c, d, e⟩ := h
  obtain ⟨i1, i2, i3⟩ := i
  unfold InBox
  omega
theorem rows_box {rs : List Row} (h : ∀ r ∈ rs, RowOk r) {p : Pt} (m : mem rs p) : InBox p := by
  obtain ⟨r, hr, i⟩ := m
  exact (h r hr).box i
theorem canon_ok {out : List Row} (c : Canon out) (h : ∀ p, mem out p → InBox p) : ∀ r ∈ out, RowOk r := fun r hr => by
  have a := h _ (c.last hr)
  have b := h _ (c.first hr)
  have o := c.ok r hr
  unfold InBox at a b
  unfold RowOk
  simp only at a b
  omega
/-! ### what the sums come to -/
def once (rs : List Row) : List WRow := rs.map fun r => (r, 1)
theorem cover_once (rs : List Row) (p : Pt) : 0 ≤ cover (once rs) p ∧ (1 ≤ cover (once rs) p ↔ mem rs p) := by
  induction rs with
  | nil => exact ⟨Int.le_refl _, fun h => absurd h (by show ¬ (1 : Int) ≤ 0; omega), fun h => absurd h mem_nil⟩
  | cons r rs ih =>
    have e : cover (once (r :: rs)) p = 1 * ind (inRow r p) + cover (once rs) p := rfl
    rw [e, mem_cons]
    rcases ind_or (inRow r p) with ⟨u, eu⟩ | ⟨u, eu⟩ <;> rw [eu]
    · exact ⟨by omega, fun _ => .inl u, fun _ => by omega⟩
    · refine ⟨by omega, fun h => .inr (ih.2.mp (by omega)), fun h => ?_⟩
      have := ih.2.mpr (h.resolve_left u)
      omega
instance (rs : List Row) (p : Pt) : Decidable (mem rs p) := by unfold mem; infer_instance
/-- of a canonical list each point is covered at most once -/
theorem cover_canon {rs : List Row} (c : Canon rs) (p : Pt) : cover (once rs) p = ind (mem rs p) := by
  induction rs with
  | nil => exact (ind_neg mem_nil).symm
  | cons r rs ih =>
    have e : cover (once (r :: rs)) p = 1 * ind (inRow r p) + cover (once rs) p := rfl
    rw [e, ih c.tail]
    rcases ind_or (inRow r p) with ⟨u, eu⟩ | ⟨u, eu⟩ <;> rw [eu]
    · have n : ¬ mem rs p := fun m => by
        have := c.later m
        obtain ⟨i1, i2, i3⟩ := u
        omega
      rw [ind_neg n, ind_pos (mem_cons.mpr (.inl u))]
      omega
    · by_cases m : mem rs p
      · rw [ind_pos m, ind_pos (mem_cons.mpr (.inr m))]; omega
      · rw [ind_neg m, ind_neg (fun z => (mem_cons.mp z).elim u m)]; omega
end Rw
namespace Rw
open PySem L2
/-! ### loops of comprehensions, by a walk -/
theorem it_by {J : It} {n : Nat} {G : Hp → Prop} {Y : Nat → Hp → V → Hp → Prop} (w : Walk J n G Y) {B : (Hp → Prop) → V → Hp → Prop} {H0 : Hp} {Qd : Hp → Prop} (Pv : Nat → Hp → Prop) (h0 : Pv 0 H0)
    (hG : ∀ i H, i ≤ n → Pv i H → G H) (hs : ∀ i x H H', i < n → Pv i H → Y i H x H' → B (Pv (i + 1)) x H') (hd : ∀ H, Pv n H → Qd H) :
    ∃ W : Nat → Nat → Hp → Prop, (∃ m, W 0 m H0) ∧ ∀ i m H, W i m H →
      (J.stop i H ∧ Qd H) ∨ (J.go i H ∧ ∃ Nx : Hp → Prop, (∀ H', Nx H' → ∃ m', m' < m ∧ W (i + 1) m' H') ∧ ∀ x H', J.yld i H x H' → B Nx x H') := by
  refine ⟨fun i m H => m = n - i ∧ i ≤ n ∧ Pv i H, ⟨n, by simp, Nat.zero_le _, h0⟩, ?_⟩
  rintro i m H ⟨rfl, hi, p⟩
  have g := hG i H hi p
  by_cases c : i < n
  · exact .inr ⟨w.goes i H c g, Pv (i + 1), fun H' p' => ⟨n - (i + 1), by omega, rfl, c, p'⟩, fun x H' y => hs i x H H' c p (w.yields i H x H' c g y)⟩
  · obtain rfl : i = n := by omega
    exact .inl ⟨w.stops H g, hd H p⟩
theorem RetL.step {α : Type} {M : Addr → Prop} {F H F1 H1 : Hp} {k : Kd α} {φ ψ : List α → Prop} {Q : VK} (X : Ext M F H F1 H1) (q : RetL M F H k ψ Q) (h : ∀ xs, φ xs → ψ xs) : RetL M0 F1 H1 k φ Q :=
  fun F' H' a vs xs X' ha fa hl hp hx => q F' H' a vs xs (X.trans X'.up) (X.free ha) fa hl hp (h xs hx)
/-- how many of some sets hold a point -/
def cnt : List (List Row) → Pt → Int
  | [], _ => 0
  | rs :: sets, p => ind (mem rs p) + cnt sets p
def total : List (List Row) → Nat
  | [] => 0
  | rs :: sets => rs.length + total sets
theorem cnt_snoc (p : Pt) (rs : List Row) : ∀ sets : List (List Row), cnt (sets ++ [rs]) p = cnt sets p + ind (mem rs p)
  | [] => by show ind _ + 0 = 0 + ind _; omega
  | x :: sets => by
    show ind _ + cnt (sets ++ [rs]) p = ind _ + cnt sets p + ind _
    rw [cnt_snoc p rs sets]; omega
theorem total_snoc (rs : List Row) : ∀ sets : List (List Row), total (sets ++ [rs]) = total sets + rs.length
  | [] => by show rs.length + 0 = 0 + rs.length; omega
  | x :: sets => by
    show x.length + total (sets ++ [rs]) = x.length + total sets + rs.length
    rw [total_snoc rs sets]; omega
theorem total_take (sets : List (List Row)) (i : Nat) : total (sets.take i) ≤ total sets := by
  induction sets generalizing i with
  | nil => simp [total]
  | cons x sets ih =>
    cases i with
    | zero => simp [total]
    | succ i =>
      have := ih i
      show x.length + total (sets.take i) ≤ x.length + total sets
      omega
def Valid (rs : List Row) : Prop := ∀ r ∈ rs, r.2.1 ≤ r.2.2
theorem wok_once {rs : List Row} (h : Valid rs) : Wok (once rs) := fun x hx => by
  obtain ⟨r, hr, rfl⟩ := List.mem_map.mp hx
  exact h r hr
structure Fewest (rs out : List Row) : Prop where
  can : Canon out
  mem : ∀ p, mem out p ↔ mem rs p
  len : out.length ≤ rs.length
def spFewest : Sp := fun vs H Q _ => ∃ (F : Hp) (v : V) (rs : List Row), vs = [v] ∧ Same F H ∧ (kL kRow).is F v rs ∧ Valid rs ∧ rs.length ≤ 100000 ∧ RetL M0 F H kRow (Fewest rs) Q
structure Held (sets : List (List Row)) (least : Int) (out : List Row) : Prop where
  can : Canon out
  mem : ∀ p, mem out p ↔ least ≤ cnt sets p
  len : out.length ≤ total sets
def spHeld : Sp := fun vs H Q _ => ∃ (F : Hp) (v : V) (sets : List (List Row)) (least : Int), vs = [v, .int least] ∧ Same F H ∧ (kL (kL kRow)).is F v sets ∧ (∀ rs ∈ sets, Valid rs) ∧ total sets ≤ 100000 ∧ 0 < least ∧ RetL M0 F H kRow (Held sets least) Q
structure Without (one other out : List Row) : Prop where
  can : Canon out
  mem : ∀ p, mem out p ↔ mem one p ∧ ¬ mem other p
  len : out.length ≤ one.length + other.length
def spWithout : Sp := fun vs H Q _ => ∃ (F : Hp) (v u : V) (one other : List Row), vs = [v, u] ∧ Same F H ∧ (kL kRow).is F v one ∧ (kL kRow).is F u other ∧ Valid one ∧ Valid other ∧ one.length ≤ 50000 ∧ other.length ≤ 50000 ∧ RetL M0 F H kRow (Without one other) Q
theorem once_len (rs : List Row) : (once rs).length = rs.length := List.length_map ..
theorem told_fewest {rs out : List Row} (t : Told (once rs) 1 out) : Fewest rs out := ⟨t.can, fun p => (t.mem p).trans (cover_once rs p).2, by have := t.len; rw [once_len] at this; exact this⟩
section
variable {P : Program} {w : World} {K : PySem.W.Frag} {mg : Str → Option Value} {base : Heap}
theorem ok_fewest {f : Addr} {fd : FuncData} (F0 : Fun K "fewest" "fewest" s_fewest f fd) (CR : Cal P w K mg base 2 "reaching" ["weighed", "least"] spReaching) : FnOk P w K mg base CX0 3 f fd ["rows"] spFewest := by
  obtain ⟨f1, fd1, G1, g1, kp1, b1⟩ := CR
  refine F0.ok sc_fewest (fun vs H Q E h => ?_) (fun cdv A outer s H vs Q E hr h => ?_)
  · obtain ⟨F, v, rs, rfl, _⟩ := h
    rfl
  · obtain ⟨F, v, rs, rfl, fh, ⟨a, xs, rfl, ha, hp⟩, hval, hlen, q⟩ := h
    refine ⟨_, pss_one (ps_ret (pe_call G1 hr (by rfl) g1 kp1 b1 .nil pass0 (pa_cons (pe_lc (own := [("row", 1)]) (g := gName 1) (tt := tYes) (by rfl) sc_fewest.nd (pi_list (pv 0))
      (blkOk_by (own := [("row", 1)]) (N := ["rows", "row"]) (sc := defScope s_fewest) (by decide +kernel)) (fun _ _ _ _ _ => pg_name (i := 1) sc_fewest.nd rfl (Or.inl rfl)) (fun _ _ _ _ _ => pts_nil)
      (fun _ _ _ _ _ => pe_tup (pa_cons (pv 1) (pa_cons pe_int pa_nil)))) (pa_cons pe_int pa_nil)))), ?_⟩
    refine ⟨_, rfl, a, rfl, ⟨_, SqL.of (fh _ _ ha)⟩, fun D nD => ?_⟩
    have fD : F D = none := fh.free nD
    refine it_by (walk_list (K := K) (a := a) (xs := xs)) (fun i H' => ∃ F' acc, Ext M0 F H F' H' ∧ H' D = some (.lst acc) ∧ F' D = none ∧ Paired (kW.is F') acc (once (rs.take i)))
      ⟨F, [], (Ext.refl fh).tmp nD, upd_same, fD, .nil⟩ (fun i H' _ ⟨_, _, X1, _⟩ => SqL.of (X1.fh _ _ (X1.ff _ _ ha))) ?_ ?_
    · rintro i x H1 _ hi ⟨F', acc, X1, hD, fD', hacc⟩ ⟨rfl, hx⟩
      obtain ⟨r, hri, hr1⟩ := pr_get hp hx
      refine ⟨rfl, ?_⟩
      refine ⟨_, rfl, (by show 2 ≤ sizeLine; decide), fun t nt => ?_⟩
      have Dt : D ≠ t := ne_of_none hD nt
      have la : acc.length ≤ rs.length := by rw [pr_len hacc, once_len]; exact List.length_take_le' i rs
      refine ⟨acc, by rw [upd_ne Dt]; exact hD, by rw [sizeLine_eq]; omega, ?_⟩
      have fD2 : upd F' t (.tup [x, .int 1]) D = none := by rw [upd_ne Dt]; exact fD'
      refine ⟨upd F' t (.tup [x, .int 1]), acc ++ [.ref t], (X1.lay nt).put (.inl nD) fD2, upd_same, fD2, ?_⟩
      rw [List.take_add_one, hri]
      have e : once (rs.take i ++ [r]) = once (rs.take i) ++ [(r, 1)] := List.map_append ..
      show Paired _ _ (once (rs.take i ++ [r]))
      rw [e]
      have sm : Same F' (upd F' t (.tup [x, .int 1])) := same_upd (X1.ffree nt)
      exact pr_snoc (pr_mono (fun _ _ z => kW.mono sm z) hacc) ⟨t, x, rfl, upd_same, kRow.mono (X1.ff.trans sm) hr1⟩
    · rintro H1 ⟨F', acc, X1, hD, fD', hacc⟩
      rw [pr_len hp, List.take_length] at hacc
      have X2 := X1.frz nD fD' hD
      refine ⟨upd F' D (.lst acc), .ref D, once rs, 1, rfl, X2.fh, kL_new fD' hacc, wok_once hval, by rw [once_len]; omega, by decide, RetL.step X2 q fun out t => told_fewest t⟩
end
end Rw
namespace Rw
open PySem L2
theorem kLL_get {α : Type} {k : Kd α} {F : Hp} {vs : List V} {xss : List (List α)} {i : Nat} {v : V} (h : Paired ((kL k).is F) vs xss) (e : vs[i]? = some v) : ∃ xs, xss[i]? = some xs ∧ (kL k).is F v xs := pr_get h e
theorem cover_append (as bs : List WRow) (p : Pt) : cover (as ++ bs) p = cover as p + cover bs p := S_append _ as bs
theorem wok_append {as bs : List WRow} (h : Wok as) (h' : Wok bs) : Wok (as ++ bs) := fun x hx => (List.mem_append.mp hx).elim (h x) (h' x)
theorem once_snoc (rs : List Row) (r : Row) : once (rs ++ [r]) = once rs ++ [(r, 1)] := List.map_append ..
theorem valid_canon {rs : List Row} (c : Canon rs) : Valid rs := c.ok
def anti (rs : List Row) : List WRow := rs.map fun r => (r, -1)
theorem cover_anti (rs : List Row) (p : Pt) : cover (anti rs) p = - cover (once rs) p := by
  induction rs with
  | nil => rfl
  | cons r rs ih =>
    have e1 : cover (anti (r :: rs)) p = -1 * ind (inRow r p) + cover (anti rs) p := rfl
    have e2 : cover (once (r :: rs)) p = 1 * ind (inRow r p) + cover (once rs) p := rfl
    rw [e1, e2, ih]; omega
theorem wok_anti {rs : List Row} (h : Valid rs) : Wok (anti rs) := fun x hx => by
  obtain ⟨r, hr, rfl⟩ := List.mem_map.mp hx
  exact h r hr
theorem told_without {one other kept out : List Row} (k : Fewest one kept) (t : Told (once kept ++ anti other) 1 out) : Without one other out := by
  refine ⟨t.can, fun p => ?_, ?_⟩
  · rw [t.mem p, cover_append, cover_anti, cover_canon k.can, ← k.mem p]
    have c := cover_once other p
    rcases ind_or (mem kept p) with ⟨u, eu⟩ | ⟨u, eu⟩ <;> rw [eu]
    · constructor
      · intro h; exact ⟨u, fun z => by have := c.2.mpr z; omega⟩
      · intro h
        have : ¬ 1 ≤ cover (once other) p := fun z => h.2 (c.2.mp z)
        omega
    · exact ⟨fun h => by omega, fun h => absurd h.1 u⟩
  · have h := t.len
    rw [List.length_append, once_len] at h
    have e : (anti other).length = other.length := List.length_map ..
    have := k.len
    omega
section
variable {P : Program} {w : World} {K : PySem.W.Frag} {mg : Str → Option Value} {base : Heap}
end
end Rw
namespace Rw
open PySem L2
theorem eqv_row (r s : Row) : PyData.eqv (dRow r) (dRow s) = decide (r = s) := by
  obtain ⟨a, b, c⟩ := r
  obtain ⟨a', b', c'⟩ := s
  unfold dRow
  simp only [PyData.eqv, PyData.eqvAll, Bool.and_true]
  by_cases e1 : a = a' <;> by_cases e2 : b = b' <;> by_cases e3 : c = c' <;> simp [e1, e2, e3]
theorem eqvAll_rows : ∀ xs ys : List Row, PyData.eqvAll (xs.map dRow) (ys.map dRow) = decide (xs = ys)
  | [], [] => rfl
  | [], _ :: _ => by simp [PyData.eqvAll]
  | _ :: _, [] => by simp [PyData.eqvAll]
  | x :: xs, y :: ys => by
    rw [List.map_cons, List.map_cons, PyData.eqvAll, eqv_row, eqvAll_rows xs ys]
    by_cases e1 : x = y <;> by_cases e2 : xs = ys <;> simp [e1, e2]
theorem eqv_rows (xs ys : List Row) : PyData.eqv (dL dRow xs) (dL dRow ys) = decide (xs = ys) := by
  unfold dL
  rw [PyData.eqv]
  exact eqvAll_rows xs ys
theorem canLay_rows : ∀ xs : List Row, PyData.canLayAll0 (xs.map dRow) = true
  | [] => rfl
  | x :: xs => by
    rw [List.map_cons, PyData.canLayAll0, canLay_rows xs]
    simp [dRow, PyData.canLay0, PyData.canLayAll0]
theorem depth_rows : ∀ xs : List Row, PyData.depthAll (xs.map dRow) ≤ 1
  | [] => by simp [PyData.depthAll]
  | x :: xs => by
    rw [List.map_cons, PyData.depthAll]
    have := depth_rows xs
    have h : (dRow x).depth ≤ 1 := by simp [dRow, PyData.depth, PyData.depthAll]
    omega
theorem shaped_rows (xs : List Row) : SeqAt.shaped (dL dRow xs) = true := by
  unfold SeqAt.shaped dL
  rw [PyData.canLay0, canLay_rows, PyData.depth]
  have := depth_rows xs
  simp
  omega
end Rw
namespace Rw
open PySem L2
theorem rows_valid {rs : List Row} (h : ∀ r ∈ rs, RowOk r) : Valid rs := fun r hr => (h r hr).2.2.2.1
def spPlain : Sp := fun vs H Q _ => ∃ (F : Hp) (v : V) (rs : List Row), vs = [v] ∧ Same F H ∧ (kL kRow).is F v rs ∧ RowsOk rs ∧ RetL M0 F H kRow (Fewest rs) Q
/-- of two sets: which points are told -/
structure Of2 (one other : List Row) (φ : Prop → Prop → Prop) (out : List Row) : Prop where
  can : Canon out
  mem : ∀ p, mem out p ↔ φ (mem one p) (mem other p)
  len : out.length ≤ one.length + other.length
def sp2 (φ : Prop → Prop → Prop) : Sp := fun vs H Q _ => ∃ (F : Hp) (v u : V) (one other : List Row), vs = [v, u] ∧ Same F H ∧ (kL kRow).is F v one ∧ (kL kRow).is F u other ∧ RowsOk one ∧ RowsOk other ∧ RetL M0 F H kRow (Of2 one other φ) Q
abbrev fOr : Prop → Prop → Prop := fun a b => a ∨ b
abbrev fAnd : Prop → Prop → Prop := fun a b => a ∧ b
abbrev fLess : Prop → Prop → Prop := fun a b => a ∧ ¬ b
def spByMany : Sp := fun vs H Q _ => ∃ (F : Hp) (v : V) (sets : List (List Row)) (least : Int), vs = [v, .int least] ∧ Same F H ∧ (kL (kL kRow)).is F v sets ∧ (∀ rs ∈ sets, RowsOk rs) ∧ sets.length ≤ 100 ∧ 1 ≤ least ∧ least ≤ sets.length ∧ RetL M0 F H kRow (Held sets least) Q
def fore (rs : List Row) : List Row := rs.map fun r => (r.1, 1, r.2.2)
def spGaps : Sp := fun vs H Q _ => ∃ (F : Hp) (v : V) (rs : List Row), vs = [v] ∧ Same F H ∧ (kL kRow).is F v rs ∧ RowsOk rs ∧ RetL M0 F H kRow (Without (fore rs) rs) Q
def spWithin : Sp := fun vs H Q _ => ∃ (F : Hp) (v u : V) (one other : List Row), vs = [v, u] ∧ Same F H ∧ (kL kRow).is F v one ∧ (kL kRow).is F u other ∧ RowsOk one ∧ RowsOk other ∧
  ∀ (b : Bool) (F' H' : Hp), Ext M0 F H F' H' → (b = true ↔ ∀ p, mem one p → mem other p) → Q (.bl b) H'
/-- up to where there is no gap -/
structure Whole (rs : List Row) (h z : Int) : Prop where
  nn : 0 ≤ z
  all : ∀ n, 1 ≤ n → n ≤ z → mem rs (h, n)
  stop : ¬ mem rs (h, z + 1)
def spWholeTo : Sp := fun vs H Q _ => ∃ (F : Hp) (v : V) (rs : List Row) (h : Int), vs = [v, .int h] ∧ Same F H ∧ (kL kRow).is F v rs ∧ RowsOk rs ∧ 0 ≤ h ∧ h ≤ 7 ∧ ∀ (z : Int) (F' H' : Hp), Ext M0 F H F' H' → Whole rs h z → Q (.int z) H'
theorem ext_of_same {F H H' : Hp} (s : Same F H) (t : Same H H') : Ext M0 F H F H' :=
  ⟨Same.refl F, s.trans t, fun b o h _ => t b o h, fun b h e => h (t.free e), fun _ _ => rfl⟩
section
variable {P : Program} {w : World} {K : PySem.W.Frag} {mg : Str → Option Value} {base : Heap}
abbrev CalCheck (P : Program) (w : World) (K : PySem.W.Frag) (mg : Str → Option Value) (base : Heap) := Cal P w K mg base 5 "check_rows" ["rows"] spCheckRows
theorem two_sets {F' : Hp} {v u : V} {one other : List Row} (h1 : (kL kRow).is F' v one) (h2 : (kL kRow).is F' u other) : Paired ((kL kRow).is F') [v, u] [one, other] := .cons h1 (.cons h2 .nil)
end
end Rw
namespace Rw
open PySem L2
theorem total_le {n : Nat} : ∀ {sets : List (List Row)}, (∀ rs ∈ sets, rs.length ≤ n) → total sets ≤ n * sets.length
  | [], _ => Nat.zero_le _
  | rs :: sets, h => by
    have h1 := h rs List.mem_cons_self
    have h2 := total_le (sets := sets) fun x hx => h x (List.mem_cons_of_mem _ hx)
    show rs.length + total sets ≤ n * (sets.length + 1)
    rw [Nat.mul_add]; omega
section
variable {P : Program} {w : World} {K : PySem.W.Frag} {mg : Str → Option Value} {base : Heap}
def spWholeIn : Sp := fun vs H Q _ => ∃ (F : Hp) (v : V) (rs : List Row) (h : Int), vs = [v, .int h] ∧ Same F H ∧ (kL kRow).is F v rs ∧ Valid rs ∧ (∀ r ∈ rs, 1 ≤ r.2.1) ∧ rs.length ≤ 100000 ∧ ∀ (z : Int) (F' H' : Hp), Ext M0 F H F' H' → Whole rs h z → Q (.int z) H'
end
end Rw
namespace Rw
open PySem L2
/-! ### the law's dice -/
def dice (s : Addr) (i m r : Int) : HO := .lst [.ref s, .int i, .int m, .int r]
structure Good (i m r : Int) : Prop where
  i0 : 0 ≤ i
  m0 : 0 ≤ m
  m1 : m < 2147483647
  r0 : 0 ≤ r
def spDice (K : PySem.W.Frag) : Sp := fun vs H Q _ => ∃ (s : Addr) (ns : List Int), vs = [.ref s] ∧ SqL K H s (ns.map V.int) ∧ ∀ (d : Addr) (m : Int), H d = none → Good 0 m 0 → Q (.ref d) (upd H d (dice s 0 m 0))
/-- the dice at d over the script at s -/
structure DiceAt (K : PySem.W.Frag) (F H : Hp) (d s : Addr) (ns : List Int) : Prop where
  fh : Same F H
  fd : F d = none
  sc : SqL K F s (ns.map V.int)
  ex : ∃ i m r : Int, H d = some (dice s i m r) ∧ Good i m r
/-- what a draw may do -/
def RetN (K : PySem.W.Frag) (F H : Hp) (d s : Addr) (ns : List Int) (many : Int) (Q : VK) : Prop := ∀ (z : Int) (H' : Hp), 0 ≤ z → z < many → Ext (· = d) F H F H' → DiceAt K F H' d s ns → Q (.int z) H'
def spNext (K : PySem.W.Frag) : Sp := fun vs H Q _ => ∃ (F : Hp) (d s : Addr) (ns : List Int) (many : Int), vs = [.ref d, .int many] ∧ DiceAt K F H d s ns ∧ 1 ≤ many ∧ many < 2 ^ 64 ∧ RetN K F H d s ns many Q
structure TxL (mg : Str → Option Value) : Prop where
  int : mg "int" = none
  len : mg "len" = none
  range : mg "range" = none
  min : mg "min" = none
theorem atI_int {ns : List Int} {i : Int} (h0 : 0 ≤ i) (h1 : i < ns.length) : ∃ c, atI (ns.map V.int) i = some (.int c) := by
  obtain ⟨j, rfl⟩ : ∃ j : Nat, i = (j : Int) := ⟨i.toNat, by omega⟩
  have hl : j < ns.length := by omega
  exact ⟨ns[j], atI_nat (by rw [List.getElem?_map, List.getElem?_eq_getElem hl]; rfl)⟩
theorem DiceAt.put {K : PySem.W.Frag} {F H : Hp} {d s : Addr} {ns : List Int} (D : DiceAt K F H d s ns) {i m r : Int} (g : Good i m r) : Ext (· = d) F H F (upd H d (dice s i m r)) ∧ DiceAt K F (upd H d (dice s i m r)) d s ns :=
  ⟨(Ext.refl D.fh).put (.inr rfl) D.fd, ⟨same_put D.fh D.fd, D.fd, D.sc, ⟨i, m, r, upd_same, g⟩⟩⟩
section
variable {P : Program} {w : World} {K : PySem.W.Frag} {mg : Str → Option Value} {base : Heap}
theorem ok_law_dice {f : Addr} {fd : FuncData} (F0 : Fun K "_law_dice" "_law_dice" s_law_dice f fd) (T : TxL mg) : FnOk P w K mg base CX0 1 f fd ["_law_script"] (spDice K) := by
  refine F0.ok sc_law_dice (fun vs H Q E h => ?_) (fun cdv A outer s H vs Q E hr h => ?_)
  · obtain ⟨s, ns, rfl, _⟩ := h
    rfl
  · obtain ⟨s, ns, rfl, hs, q⟩ := h
    refine ⟨_, pss_cons (ps_set (i := 1) sc_law_dice.nd rfl (.inl rfl) pe_int)
      (pss_cons (ps_for PassesOwn.never rfl (pi_list (pv 0)) (pg_name (i := 2) sc_law_dice.nd rfl (.inl rfl))
        (pss_one (ps_set (i := 1) sc_law_dice.nd rfl (.inl rfl) (pe_op op_mod (pe_op op_add (pe_op op_add (pe_op op_mul (pv 1) pe_int) (pe_op op_mul (pe_op op_mod (pv 2) pe_int) pe_int)) pe_int) pe_int))))
      (pss_one (ps_ret (pe_lst (pa_cons (pv 0) (pa_cons pe_int (pa_cons (pe_op op_mul (pv 1) (pe_callTy call_int1 (by rfl) T.int (by decide +kernel) (pa_cons (pe_cmpR op_gt (pe_callB call_len (by rfl) T.len PySem.boot_len (pa_cons (pv 0) pa_nil)) pe_int (nomark _)) pa_nil))) (pa_cons pe_int pa_nil)))))))), ?_⟩
    refine ⟨_, rfl, s, rfl, ⟨_, hs⟩, for_list (K := K) (a := s) (xs := ns.map V.int) (fun i σ H' => ∃ (m : Int) (y : Option V), σ = [some (.ref s), some (.int m), y] ∧ 0 ≤ m ∧ m < 2147483647 ∧ H' = H) ⟨0, none, rfl, by decide, by decide, rfl⟩ (fun i σ H' _ ⟨_, _, _, _, _, e⟩ => e ▸ hs) ?_ ?_⟩
    · rintro i x σ H' hi ⟨m, y, rfl, h0, h1, rfl⟩
      obtain ⟨c, hc, rfl⟩ : ∃ c, ns[i]? = some c ∧ x = .int c := by
        rw [List.getElem?_map] at hi
        cases e : ns[i]? with
        | none => rw [e] at hi; cases hi
        | some c => rw [e] at hi; exact ⟨c, rfl, (Option.some.inj hi).symm⟩
      have p1 : (0 : Int) < 2147483647 := by decide
      refine ⟨_, rfl, _, _, rfl, rfl, .inl ⟨by omega, by omega⟩, _, rfl, _, _, rfl, rfl, p1, _, _, rfl, rfl, .inr ⟨by decide, by decide⟩, _, _, rfl, rfl, _, _, rfl, rfl, _, _, rfl, rfl, p1, ?_⟩
      exact ⟨_, _, rfl, Int.emod_nonneg _ (by decide), Int.emod_lt_of_pos _ p1, rfl⟩
    · rintro σ H' ⟨m, y, rfl, h0, h1, rfl⟩
      refine ⟨_, rfl, _, rfl, _, rfl, _, _, rfl, .inl ⟨_, hs, rfl⟩, _, _, rfl, rfl, .inr ⟨_, rfl, _, _, rfl, rfl, .inl ⟨by omega, by omega⟩, ?_⟩⟩
      refine ⟨by show 4 ≤ sizeLine; decide, fun d nd => ?_⟩
      refine q d _ nd ⟨Int.le_refl _, ?_, ?_, Int.le_refl _⟩
      · split <;> omega
      · split <;> omega
theorem ok_law_next {f : Addr} {fd : FuncData} (F0 : Fun K "_law_next" "_law_next" s_law_next f fd) (T : TxL mg) : FnOk P w K mg base CX0 1 f fd ["_law_dice_here", "_law_many"] (spNext K) := by
  refine F0.ok sc_law_next (fun vs H Q E h => ?_) (fun cdv A outer s H vs Q E hr h => ?_)
  · obtain ⟨F, d, s, ns, many, rfl, _⟩ := h
    rfl
  · obtain ⟨F, d, s, ns, many, rfl, D, m1, m2, q⟩ := h
    obtain ⟨i, m, r, hd, g⟩ := D.ex
    have hdv : many.natAbs < 2 ^ 64 := by omega
    refine ⟨_, pss_cons (ps_if (pt_cmpR op_gt (pe_ix ix_list (pv 0) pe_int (fun _ _ => rfl)) pe_int (nomark _))
        (pss_cons (ps_set (i := 2) sc_law_next.nd rfl (.inl rfl) (pe_op op_mod (pe_ix ix_list (pv 0) pe_int (fun _ _ => rfl)) (pv 1)))
        (pss_cons (ps_asg (pe_op op_fdivW (pe_ix ix_list (pv 0) pe_int (fun _ _ => rfl)) (pv 1)) (pg_sub (pv 0) pe_int set_list))
        (pss_one (ps_ret (pv 2))))) pss_nil)
      (pss_cons (ps_asg (pe_op op_add (pe_ix ix_list (pv 0) pe_int (fun _ _ => rfl)) pe_int) (pg_sub (pv 0) pe_int set_list))
      (pss_cons (ps_if (pt_cmpR op_le (pe_ix ix_list (pv 0) pe_int (fun _ _ => rfl)) (pe_callB call_len (by rfl) T.len PySem.boot_len (pa_cons (pe_ix ix_list (pv 0) pe_int (fun _ _ => rfl)) pa_nil)) (nomark _))
        (pss_cons (ps_set (i := 3) sc_law_next.nd rfl (.inl rfl) (pe_ix ix_list (pe_ix ix_list (pv 0) pe_int (fun _ _ => rfl)) (pe_op op_sub (pe_ix ix_list (pv 0) pe_int (fun _ _ => rfl)) pe_int) (fun _ _ => rfl)))
        (pss_cons (ps_asg (pe_ifExp (pt_cmpR op_ge (pv 3) (pe_op op_pow pe_int pe_int) (nomark _)) (pe_op op_fdivW (pv 3) (pv 1)) pe_int) (pg_sub (pv 0) pe_int set_list))
        (pss_one (ps_ret (pe_op op_mod (pv 3) (pv 1)))))) pss_nil)
      (pss_cons (ps_asg (pe_op op_mod (pe_op op_mul (pe_ix ix_list (pv 0) pe_int (fun _ _ => rfl)) pe_int) pe_int) (pg_sub (pv 0) pe_int set_list))
      (pss_one (ps_ret (pe_op op_mod (pe_op op_fdiv (pe_ix ix_list (pv 0) pe_int (fun _ _ => rfl)) pe_int) (pv 1))))))), ?_⟩
    have p1 : (0 : Int) < 2147483647 := by decide
    have pm : 0 < many := by omega
    refine ⟨_, rfl, d, _, 3, .int r, rfl, rfl, SqL.of hd, rfl, _, _, rfl, rfl, _, rfl, ite2 (fun c => ?_) (fun c => ?_)⟩
    · -- some digits are left
      refine ⟨_, rfl, d, _, 3, .int r, rfl, rfl, SqL.of hd, rfl, _, rfl, _, _, rfl, rfl, pm, ?_⟩
      refine ⟨_, rfl, d, _, 3, .int r, rfl, rfl, SqL.of hd, rfl, _, rfl, _, _, rfl, rfl, wide_div pm hdv (by decide) (by decide), ?_⟩
      refine ⟨_, rfl, d, _, 3, 3, rfl, rfl, hd, rfl, ?_⟩
      have g' : Good i m (r / many) := ⟨g.i0, g.m0, g.m1, Int.ediv_nonneg g.r0 (by omega)⟩
      exact ⟨_, rfl, q _ _ (Int.emod_nonneg _ (by omega)) (Int.emod_lt_of_pos _ pm) (D.put g').1 (D.put g').2⟩
    · refine ⟨_, rfl, d, _, 1, .int i, rfl, rfl, SqL.of hd, rfl, _, _, rfl, rfl, ?_⟩
      refine ⟨_, rfl, d, _, 1, 1, rfl, rfl, hd, rfl, ?_⟩
      have g1 : Good (i + 1) m r := ⟨by have := g.i0; omega, g.m0, g.m1, g.r0⟩
      have D1 := (D.put g1).2
      have X1 := (D.put g1).1
      have hs1 : SqL K (upd H d (dice s (i + 1) m r)) s (ns.map V.int) := D1.fh.seq D.sc
      have go2 : ∀ {i' m' r' z : Int}, Good i' m' r' → 0 ≤ z → z < many → Q (.int z) (upd (upd H d (dice s (i + 1) m r)) d (dice s i' m' r')) := fun g' h0 h1 =>
        q _ _ h0 h1 (X1.trans (D1.put g').1) (D1.put g').2
      refine ⟨_, rfl, d, _, 1, .int (i + 1), rfl, rfl, SqL.of upd_same, rfl, _, rfl, d, _, 0, .ref s, rfl, rfl, SqL.of upd_same, rfl, _, _, rfl, .inl ⟨_, hs1, rfl⟩, _, _, rfl, rfl, _, rfl, ite2 (fun c2 => ?_) (fun c2 => ?_)⟩
      · have c2 := of_decide_eq_true c2
        rw [List.length_map] at c2
        obtain ⟨cell, hc⟩ := atI_int (ns := ns) (i := i + 1 - 1) (by have := g.i0; omega) (by omega)
        refine ⟨_, rfl, d, _, 0, .ref s, rfl, rfl, SqL.of upd_same, rfl, _, rfl, d, _, 1, .int (i + 1), rfl, rfl, SqL.of upd_same, rfl, _, _, rfl, rfl, s, _, _, .int cell, rfl, rfl, hs1, hc, ?_⟩
        refine ⟨_, rfl, _, _, rfl, rfl, ⟨by decide, by decide, by decide⟩, _, _, rfl, rfl, _, rfl, ite2 (fun c3 => ?_) (fun c3 => ?_)⟩
        · have c3 := of_decide_eq_true c3
          have cp : 0 ≤ cell := by
            have e : (10 : Int) ^ (18 : Int).toNat = 1000000000000000000 := by decide
            rw [e] at c3
            omega
          refine ⟨_, rfl, _, rfl, _, _, rfl, rfl, wide_div pm hdv (by decide) (by decide), _, rfl, d, _, 3, 3, rfl, rfl, upd_same, rfl, ?_⟩
          refine ⟨_, rfl, _, rfl, _, _, rfl, rfl, pm, ?_⟩
          exact go2 ⟨g1.i0, g1.m0, g1.m1, Int.ediv_nonneg cp (by omega)⟩ (Int.emod_nonneg _ (by omega)) (Int.emod_lt_of_pos _ pm)
        · refine ⟨_, rfl, d, _, 3, 3, rfl, rfl, upd_same, rfl, ?_⟩
          refine ⟨_, rfl, _, rfl, _, _, rfl, rfl, pm, ?_⟩
          exact go2 ⟨g1.i0, g1.m0, g1.m1, Int.le_refl _⟩ (Int.emod_nonneg _ (by omega)) (Int.emod_lt_of_pos _ pm)
      · have gm0 := g.m0
        have gm1 := g.m1
        refine ⟨_, rfl, d, _, 2, .int m, rfl, rfl, SqL.of upd_same, rfl, _, _, rfl, rfl, .inl ⟨by omega, by omega⟩, _, _, rfl, rfl, p1, _, rfl, d, _, 2, 2, rfl, rfl, upd_same, rfl, ?_⟩
        have g2 : Good (i + 1) (m * 48271 % 2147483647) r := ⟨g1.i0, Int.emod_nonneg _ (by decide), Int.emod_lt_of_pos _ p1, g1.r0⟩
        refine ⟨_, rfl, d, _, 2, .int (m * 48271 % 2147483647), rfl, rfl, SqL.of upd_same, rfl, _, _, rfl, rfl, ⟨by decide, by decide⟩, _, rfl, _, _, rfl, rfl, pm, ?_⟩
        exact go2 g2 (Int.emod_nonneg _ (by omega)) (Int.emod_lt_of_pos _ pm)
end
end Rw
namespace Rw
open PySem L2
/-- a drawn row -/
def Drawn (houses far : Int) (r : Row) : Prop := 0 ≤ r.1 ∧ r.1 < houses ∧ 1 ≤ r.2.1 ∧ r.2.1 ≤ r.2.2 ∧ r.2.2 ≤ far
def spRows (K : PySem.W.Frag) : Sp := fun vs H Q _ => ∃ (F : Hp) (d s : Addr) (ns : List Int) (houses far most : Int), vs = [.ref d, .int houses, .int far, .int most] ∧ DiceAt K F H d s ns ∧ 1 ≤ houses ∧ houses ≤ 8 ∧ 1 ≤ far ∧ far ≤ LIM ∧ 0 ≤ most ∧ most ≤ 1000 ∧
  ∀ (F' H' : Hp) (a : Addr) (xs : List V) (rows : List Row), Ext (· = d) F H F' H' → DiceAt K F' H' d s ns → H a = none → F' a = none → H' a = some (.lst xs) → Paired (kRow.is F') xs rows → (rows.length : Int) ≤ most → (∀ r ∈ rows, Drawn houses far r) → Q (.ref a) H'
theorem DiceAt.step {K : PySem.W.Frag} {F H F' H' : Hp} {d s : Addr} {ns : List Int} (D : DiceAt K F H d s ns) (X : Ext M0 F H F' H') : DiceAt K F' H' d s ns := by
  obtain ⟨i, m, r, hd, g⟩ := D.ex
  exact ⟨X.fh, by rw [X.new d (by rw [hd]; simp)]; exact D.fd, X.ff.seq D.sc, ⟨i, m, r, X.same _ _ hd, g⟩⟩
theorem DiceAt.ne {K : PySem.W.Frag} {F H : Hp} {d s p : Addr} {ns : List Int} (D : DiceAt K F H d s ns) (h : H p = none) : d ≠ p := by
  obtain ⟨i, m, r, hd, g⟩ := D.ex
  exact ne_of_none hd h
theorem DiceAt.lay {K : PySem.W.Frag} {F H : Hp} {d s p : Addr} {ns : List Int} {o : HO} (D : DiceAt K F H d s ns) (h : H p = none) : DiceAt K (upd F p o) (upd H p o) d s ns :=
  D.step ((Ext.refl D.fh).lay h)
theorem DiceAt.tmp {K : PySem.W.Frag} {F H : Hp} {d s p : Addr} {ns : List Int} {o : HO} (D : DiceAt K F H d s ns) (h : H p = none) : DiceAt K F (upd H p o) d s ns :=
  D.step ((Ext.refl D.fh).tmp h)
theorem DiceAt.set {K : PySem.W.Frag} {F H : Hp} {d s p : Addr} {ns : List Int} {o : HO} (D : DiceAt K F H d s ns) (h : d ≠ p) (f : F p = none) : DiceAt K F (upd H p o) d s ns := by
  obtain ⟨i, m, r, hd, g⟩ := D.ex
  exact ⟨same_put D.fh f, D.fd, D.sc, ⟨i, m, r, by rw [upd_ne h]; exact hd, g⟩⟩
section
variable {P : Program} {w : World} {K : PySem.W.Frag} {mg : Str → Option Value} {base : Heap}
theorem ok_law_rows {f : Addr} {fd : FuncData} (F0 : Fun K "_law_rows" "_law_rows" s_law_rows f fd) (T : TxL mg) (CN : Cal P w K mg base 1 "_law_next" ["_law_dice_here", "_law_many"] (spNext K)) : FnOk P w K mg base CX0 2 f fd ["_law_d", "_law_houses", "_law_far", "_law_most"] (spRows K) := by
  obtain ⟨f1, fd1, G1, g1, kp1, b1⟩ := CN
  refine F0.ok sc_law_rows (fun vs H Q E h => ?_) (fun cdv A outer s0 H vs Q E hr h => ?_)
  · obtain ⟨F, d, s, ns, houses, far, most, rfl, _⟩ := h
    rfl
  · obtain ⟨F, d, s, ns, houses, far, most, rfl, D0, h1, h8, f1', fL, m0, m1, q⟩ := h
    have eL : LIM = 1000000000000 := rfl
    refine ⟨_, pss_cons (ps_set (i := 4) sc_law_rows.nd rfl (.inl rfl) (pe_lst pa_nil))
      (pss_cons (ps_for PassesOwn.never rfl (pi_range1 (by rfl) T.range (pa_cons (pe_call G1 hr (by rfl) g1 kp1 b1 .nil pass0 (pa_cons (pv 0) (pa_cons (pe_op op_add (pv 3) pe_int) pa_nil))) pa_nil)) (pg_name (i := 5) sc_law_rows.nd rfl (.inl rfl))
        (pss_cons (ps_set (i := 6) sc_law_rows.nd rfl (.inl rfl) (pe_op op_add pe_int (pe_call G1 hr (by rfl) g1 kp1 b1 .nil pass0 (pa_cons (pv 0) (pa_cons (pv 2) pa_nil)))))
        (pss_cons (ps_set (i := 7) sc_law_rows.nd rfl (.inl rfl) (pe_ix ix_list (pe_lst (pa_cons pe_int (pa_cons (pe_call G1 hr (by rfl) g1 kp1 b1 .nil pass0 (pa_cons (pv 0) (pa_cons pe_int pa_nil))) (pa_cons (pe_call G1 hr (by rfl) g1 kp1 b1 .nil pass0 (pa_cons (pv 0) (pa_cons (pv 2) pa_nil))) pa_nil))))
            (pe_call G1 hr (by rfl) g1 kp1 b1 .nil pass0 (pa_cons (pv 0) (pa_cons pe_int pa_nil))) (fun _ _ => rfl)))
        (pss_one (ps_expr (pe_bm PySem.F.plainAttrs_list PySem.F.slot_list_append PySem.F.type_list_append mt_append (pv 4) (pa_cons (pe_tup (pa_cons (pe_call G1 hr (by rfl) g1 kp1 b1 .nil pass0 (pa_cons (pv 0) (pa_cons (pv 1) pa_nil))) (pa_cons (pv 6)
            (pa_cons (pe_callB (call_min2 (by rfl)) (by rfl) T.min (by decide +kernel) (pa_cons (pv 2) (pa_cons (pe_op op_add (pv 6) (pv 7)) pa_nil))) pa_nil)))) pa_nil)))))))
      (pss_one (ps_ret (pv 4)))), ?_⟩
    refine ⟨Nat.zero_le _, fun o no => ?_⟩
    have Fo : F o = none := D0.fh.free no
    have dO : d ≠ o := D0.ne no
    have X0 : Ext (· = d) F H F (upd H o (.lst [])) := (Ext.refl D0.fh).tmp no
    have ho0 : upd H o (.lst []) o = some (.lst []) := upd_same
    have D1 : DiceAt K F (upd H o (.lst [])) d s ns := D0.tmp no
    revert X0 ho0 D1
    generalize upd H o (.lst []) = H1
    intro X0 ho0 D1
    refine ⟨_, rfl, _, rfl, _, _, rfl, rfl, F, d, s, ns, most + 1, rfl, D1, by omega, by omega, fun z H2 z0 z1 X1 D2 => ?_⟩
    have ho2 : H2 o = some (.lst []) := X1.hh _ _ ho0 fun e => dO e.symm
    have X2 := X0.trans X1
    refine ⟨z, rfl, by omega, by omega, for_range (lo := 0) (n := z.toNat) (fun i σ H' => ∃ F' acc rows y5 y6 y7, σ = [some (.ref d), some (.int houses), some (.int far), some (.int most), some (.ref o), y5, y6, y7] ∧ Ext (· = d) F H F' H' ∧ DiceAt K F' H' d s ns ∧ H' o = some (.lst acc) ∧ F' o = none ∧ Paired (kRow.is F') acc rows ∧ rows.length = i ∧ ∀ r ∈ rows, Drawn houses far r)
      ⟨F, [], [], none, none, none, rfl, X2, D2, ho2, Fo, .nil, rfl, fun r h => absurd h (by simp)⟩ ?_ ?_⟩
    · rintro i σ H3 hi ⟨F', acc, rows, y5, y6, y7, rfl, X3, D3, ho3, fo3, hpr, hlen, hdr⟩
      -- first = 1 + next(d, far)
      refine ⟨_, rfl, _, rfl, F', d, s, ns, far, rfl, D3, f1', by omega, fun a H4 a0 a1 Y4 D4 => ?_⟩
      refine ⟨_, _, rfl, rfl, ?_⟩
      -- wide
      refine ⟨_, rfl, F', d, s, ns, 3, rfl, D4, by decide, by decide, fun b H5 b0 b1 Y5 D5 => ?_⟩
      refine ⟨_, rfl, _, rfl, F', d, s, ns, far, rfl, D5, f1', by omega, fun c H6 c0 c1 Y6 D6 => ?_⟩
      refine ⟨by show 3 ≤ sizeLine; decide, fun p np => ?_⟩
      have D6' : DiceAt K F' (upd H6 p (.lst [.int 0, .int b, .int c])) d s ns := D6.tmp np
      have dp : d ≠ p := D6.ne np
      refine ⟨_, rfl, F', d, s, ns, 3, rfl, D6', by decide, by decide, fun e H7 e0 e1 Y7 D7 => ?_⟩
      have hp7 : H7 p = some (.lst [.int 0, .int b, .int c]) := Y7.hh _ _ upd_same fun z => dp z.symm
      obtain ⟨wd, w0, hw⟩ : ∃ wd : Int, 0 ≤ wd ∧ atI [V.int 0, V.int b, V.int c] e = some (.int wd) := by
        rcases (show e = 0 ∨ e = 1 ∨ e = 2 by omega) with z | z | z
        · exact ⟨0, Int.le_refl _, by rw [z]; rfl⟩
        · exact ⟨b, b0, by rw [z]; rfl⟩
        · exact ⟨c, c0, by rw [z]; rfl⟩
      have Y : Ext (· = d) F' H3 F' H7 := ((Y4.trans Y5).trans Y6 |>.tmp np).trans Y7
      have ho7 : H7 o = some (.lst acc) := Y.hh _ _ ho3 fun z => dO z.symm
      refine ⟨p, _, e, _, rfl, rfl, SqL.of hp7, hw, ?_⟩
      -- append
      refine ⟨_, rfl, .inl ⟨rfl, _, SqL.of ho7⟩, _, rfl, _, rfl, F', d, s, ns, houses, rfl, D7, h1, by omega, fun h H8 hh0 hh1 Y8 D8 => ?_⟩
      have ho8 : H8 o = some (.lst acc) := Y8.hh _ _ ho7 fun z => dO z.symm
      refine ⟨_, rfl, _, rfl, _, rfl, _, rfl, _, _, rfl, rfl, _, _, rfl, by show 3 ≤ sizeLine; decide, fun t nt => ?_⟩
      have ot : o ≠ t := ne_of_none ho8 nt
      have la : acc.length = i := by rw [pr_len hpr]; exact hlen
      refine ⟨o, acc, _, rfl, rfl, by rw [upd_ne ot]; exact ho8, by rw [sizeLine_eq]; omega, ?_⟩
      have XT := (X3.trans Y).trans Y8
      have fo9 : upd F' t (.tup [.int h, .int (1 + a), .int (if 1 + a + wd < far then 1 + a + wd else far)]) o = none := by rw [upd_ne ot]; exact fo3
      have sm : Same F' (upd F' t (.tup [.int h, .int (1 + a), .int (if 1 + a + wd < far then 1 + a + wd else far)])) := same_upd (XT.ffree nt)
      refine ⟨upd F' t (.tup [.int h, .int (1 + a), .int (if 1 + a + wd < far then 1 + a + wd else far)]), acc ++ [.ref t], rows ++ [(h, 1 + a, if 1 + a + wd < far then 1 + a + wd else far)], _, _, _, rfl,
        (XT.lay nt).put (.inl no) fo9, (D8.lay nt).set dO fo9, upd_same, fo9, pr_snoc (pr_mono (fun _ _ z => kRow.mono sm z) hpr) ⟨t, rfl, upd_same⟩, by rw [List.length_append, hlen]; rfl, fun r hr => ?_⟩
      rcases List.mem_append.mp hr with hr | hr
      · exact hdr r hr
      · rw [List.mem_singleton.mp hr]
        refine ⟨hh0, hh1, ?_, ?_, ?_⟩
        · show 1 ≤ 1 + a; omega
        · show 1 + a ≤ if 1 + a + wd < far then 1 + a + wd else far
          split <;> omega
        · show (if 1 + a + wd < far then 1 + a + wd else far) ≤ far
          split <;> omega
    · rintro σ H3 ⟨F', acc, rows, y5, y6, y7, rfl, X3, D3, ho3, fo3, hpr, hlen, hdr⟩
      exact ⟨_, rfl, q F' H3 o acc rows X3 D3 no fo3 ho3 hpr (by omega) hdr⟩
end
end Rw
namespace Rw
open PySem L2
/-! ### alike: the law's own comparing, sort by sort -/
def sc0 (v u : V) : Prop := (∃ i, v = .int i ∧ u = .int i) ∨ (∃ b, v = .bl b ∧ u = .bl b) ∨ (∃ z, v = .str z ∧ u = .str z) ∨ (v = .non ∧ u = .non)
def Twin (H : Hp) : Nat → V → V → Prop
  | 0, _, _ => False
  | n + 1, v, u => sc0 v u ∨ ∃ a b xs ys, v = .ref a ∧ u = .ref b ∧ ((H a = some (.tup xs) ∧ H b = some (.tup ys)) ∨ (H a = some (.lst xs) ∧ H b = some (.lst ys))) ∧ ys.length ≤ 100000 ∧ xs.length = ys.length ∧ ∀ (i : Nat) (x y : V), xs[i]? = some x → ys[i]? = some y → Twin H n x y
theorem Twin.mono {H H' : Hp} (s : Same H H') : ∀ {n : Nat} {v u : V}, Twin H n v u → Twin H' n v u
  | 0, _, _, h => h
  | n + 1, v, u, .inl h => .inl h
  | n + 1, v, u, .inr ⟨a, b, xs, ys, ev, eu, h, l, e, p⟩ => .inr ⟨a, b, xs, ys, ev, eu, h.imp (fun ⟨x, y⟩ => ⟨s _ _ x, s _ _ y⟩) (fun ⟨x, y⟩ => ⟨s _ _ x, s _ _ y⟩), l, e, fun i x y hx hy => (p i x y hx hy).mono s⟩
def spLike (n : Nat) : Sp := fun vs H Q _ => ∃ (v u : V), vs = [v, u] ∧ Twin H n v u ∧ Q (.bl true) H
structure TxK (mg : Str → Option Value) : Prop where
  isinst : mg "isinstance" = none
  int : mg "int" = none
  bool : mg "bool" = none
  str : mg "str" = none
  tuple : mg "tuple" = none
  list : mg "list" = none
  len : mg "len" = none
  range : mg "range" = none
theorem bt_str : bootBuiltins "str" = some (.type "str") := by decide +kernel
theorem bt_list : bootBuiltins "list" = some (.type "list") := by decide +kernel
theorem isi_use {K : PySem.W.Frag} {H : Hp} {x : V} {t n : String} {r : Bool} {Q : VK} (ty : TyX K H x (.type t)) (k : kitB t n = some r) (q : Q (.bl r) H) : rIsi K [x, .ty n] H Q :=
  ⟨_, .ty n, _, _, _, rfl, .ty _, ty, kit_ty k, q⟩
section
variable {P : Program} {w : World} {K : PySem.W.Frag} {mg : Str → Option Value} {base : Heap}
theorem ok_law_like {f : Addr} {fd : FuncData} {n : Nat} (F0 : Fun K "_law_like" "_law_like" s_law_like f fd) (T : TxK mg) (CL : Cal P w K mg base (n + 1) "_law_like" ["_law_found", "_law_due"] (spLike n)) :
    FnOk P w K mg base CX0 (n + 2) f fd ["_law_found", "_law_due"] (spLike (n + 1)) := by
  obtain ⟨f1, fd1, G1, g1, kp1, b1⟩ := CL
  refine F0.ok sc_law_like (fun vs H Q E h => ?_) (fun cdv A outer s H vs Q E hr h => ?_)
  · obtain ⟨v, u, rfl, _⟩ := h
    rfl
  · obtain ⟨v, u, rfl, t, q⟩ := h
    refine ⟨_, pss_cons (ps_if (pt_val (pe_callB call_isi (by rfl) T.isinst (by decide +kernel) (pa_cons (pv 1) (pa_cons (pe_bty (by rfl) T.bool bt_bool) pa_nil))))
        (pss_one (ps_ret (pe_and (pe_callB call_isi (by rfl) T.isinst (by decide +kernel) (pa_cons (pv 0) (pa_cons (pe_bty (by rfl) T.bool bt_bool) pa_nil))) (pe_one (pe_cmpR op_eq (pv 0) (pv 1) (nomark _)))))) pss_nil)
      (pss_cons (ps_if (pt_val (pe_callB call_isi (by rfl) T.isinst (by decide +kernel) (pa_cons (pv 1) (pa_cons (pe_bty (by rfl) T.str bt_str) pa_nil))))
        (pss_one (ps_ret (pe_and (pe_callB call_isi (by rfl) T.isinst (by decide +kernel) (pa_cons (pv 0) (pa_cons (pe_bty (by rfl) T.str bt_str) pa_nil))) (pe_one (pe_cmpR op_eq (pv 0) (pv 1) (nomark _)))))) pss_nil)
      (pss_cons (ps_if (pt_val (pe_callB call_isi (by rfl) T.isinst (by decide +kernel) (pa_cons (pv 1) (pa_cons (pe_bty (by rfl) T.int bt_int) pa_nil))))
        (pss_one (ps_ret (pe_and (pe_callB call_isi (by rfl) T.isinst (by decide +kernel) (pa_cons (pv 0) (pa_cons (pe_bty (by rfl) T.int bt_int) pa_nil))) (pe_and (pe_not (pe_callB call_isi (by rfl) T.isinst (by decide +kernel) (pa_cons (pv 0) (pa_cons (pe_bty (by rfl) T.bool bt_bool) pa_nil)))) (pe_one (pe_cmpR op_eq (pv 0) (pv 1) (nomark _))))))) pss_nil)
      (pss_cons (ps_if (pt_cmp (pc_isN (pv 1))) (pss_one (ps_ret (pe_cmp (pc_isN (pv 0))))) pss_nil)
      (pss_cons (ps_if (PW.pt (pw_or (pt_cmpR op_ne (pe_callB call_isi (by rfl) T.isinst (by decide +kernel) (pa_cons (pv 1) (pa_cons (pe_bty (by rfl) T.tuple bt_tuple) pa_nil))) (pe_callB call_isi (by rfl) T.isinst (by decide +kernel) (pa_cons (pv 0) (pa_cons (pe_bty (by rfl) T.tuple bt_tuple) pa_nil))) (nomark _))
          (pw_or1 (pt_cmpR op_ne (pe_callB call_isi (by rfl) T.isinst (by decide +kernel) (pa_cons (pv 1) (pa_cons (pe_bty (by rfl) T.list bt_list) pa_nil))) (pe_callB call_isi (by rfl) T.isinst (by decide +kernel) (pa_cons (pv 0) (pa_cons (pe_bty (by rfl) T.list bt_list) pa_nil))) (nomark _))))) (pss_one (ps_ret pe_bl)) pss_nil)
      (pss_cons (ps_if (pt_cmpR op_ne (pe_callB call_len (by rfl) T.len PySem.boot_len (pa_cons (pv 0) pa_nil)) (pe_callB call_len (by rfl) T.len PySem.boot_len (pa_cons (pv 1) pa_nil)) (nomark _)) (pss_one (ps_ret pe_bl)) pss_nil)
      (pss_cons (ps_for PassesOwn.never rfl (pi_range1 (by rfl) T.range (pa_cons (pe_callB call_len (by rfl) T.len PySem.boot_len (pa_cons (pv 1) pa_nil)) pa_nil)) (pg_name (i := 2) sc_law_like.nd rfl (.inl rfl))
        (pss_one (ps_if (pt_not (pt_val (pe_call G1 hr (by rfl) g1 kp1 b1 .nil pass0 (pa_cons (pe_ix ix_seq (pv 0) (pv 2) (fun _ _ => rfl)) (pa_cons (pe_ix ix_seq (pv 1) (pv 2) (fun _ _ => rfl)) pa_nil))))) (pss_one (ps_ret pe_bl)) pss_nil)))
      (pss_one (ps_ret pe_bl)))))))), ?_⟩
    obtain (⟨i, rfl, rfl⟩ | ⟨b, rfl, rfl⟩ | ⟨z, rfl, rfl⟩ | ⟨rfl, rfl⟩) | ⟨a, b, xs, ys, rfl, rfl, hab, hl, hlen, hp⟩ := t
    · refine ⟨_, rfl, _, .ty "bool", _, _, _, rfl, .ty _, .base (.int i), kit_ib, false, rfl, iteF ?_⟩
      refine ⟨_, rfl, _, .ty "str", _, _, _, rfl, .ty _, .base (.int i), kit_ty (r := false) (by decide +kernel), false, rfl, iteF ?_⟩
      refine ⟨_, rfl, _, .ty "int", _, _, _, rfl, .ty _, .base (.int i), kit_ii, true, rfl, iteT ?_⟩
      refine ⟨_, rfl, _, .ty "int", _, _, _, rfl, .ty _, .base (.int i), kit_ii, true, rfl, iteT ?_⟩
      refine ⟨_, rfl, _, .ty "bool", _, _, _, rfl, .ty _, .base (.int i), kit_ib, false, rfl, true, rfl, iteT ?_⟩
      refine ⟨_, rfl, _, rfl, rfl, ?_⟩
      rw [decide_eq_true rfl]
      exact q
    · refine ⟨_, rfl, _, .ty "bool", _, _, _, rfl, .ty _, .base (.bl b), kit_ty (r := true) (by decide +kernel), true, rfl, iteT ?_⟩
      refine ⟨_, rfl, _, .ty "bool", _, _, _, rfl, .ty _, .base (.bl b), kit_ty (r := true) (by decide +kernel), true, rfl, iteT ?_⟩
      refine ⟨_, rfl, _, rfl, rfl, ?_⟩
      rw [decide_eq_true rfl]
      exact q
    · refine ⟨_, rfl, _, .ty "bool", _, _, _, rfl, .ty _, .base (.str z), kit_ty (r := false) (by decide +kernel), false, rfl, iteF ?_⟩
      refine ⟨_, rfl, _, .ty "str", _, _, _, rfl, .ty _, .base (.str z), kit_ty (r := true) (by decide +kernel), true, rfl, iteT ?_⟩
      refine ⟨_, rfl, _, .ty "str", _, _, _, rfl, .ty _, .base (.str z), kit_ty (r := true) (by decide +kernel), true, rfl, iteT ?_⟩
      refine ⟨_, rfl, _, rfl, rfl, ?_⟩
      rw [decide_eq_true rfl]
      exact q
    · refine ⟨_, rfl, _, .ty "bool", _, _, _, rfl, .ty _, .base .non, kit_ty (r := false) (by decide +kernel), false, rfl, iteF ?_⟩
      refine ⟨_, rfl, _, .ty "str", _, _, _, rfl, .ty _, .base .non, kit_ty (r := false) (by decide +kernel), false, rfl, iteF ?_⟩
      refine ⟨_, rfl, _, .ty "int", _, _, _, rfl, .ty _, .base .non, kit_ty (r := false) (by decide +kernel), false, rfl, iteF ?_⟩
      exact ⟨_, rfl, _, rfl, iteT ⟨_, rfl, q⟩⟩
    · -- a list or a tuple
      obtain ⟨T', c1, c2, ta, tb, k1, k2, k3, k4, k5, hs⟩ : ∃ (T' : String) (c1 c2 : Bool), TyX K H (.ref a) (.type T') ∧ TyX K H (.ref b) (.type T') ∧ kitB T' "bool" = some false ∧ kitB T' "str" = some false ∧ kitB T' "int" = some false ∧ kitB T' "tuple" = some c1 ∧ kitB T' "list" = some c2 ∧
          ((SqL K H a xs ∧ SqL K H b ys) ∨ (SqT K H a xs ∧ SqT K H b ys)) := by
        rcases hab with ⟨ha, hb⟩ | ⟨ha, hb⟩
        · exact ⟨"tuple", true, false, tyx_tup ha, tyx_tup hb, by decide +kernel, by decide +kernel, by decide +kernel, by decide +kernel, by decide +kernel, .inr ⟨SqT.of ha, SqT.of hb⟩⟩
        · exact ⟨"list", false, true, tyx_lst ha, tyx_lst hb, by decide +kernel, by decide +kernel, by decide +kernel, by decide +kernel, by decide +kernel, .inl ⟨SqL.of ha, SqL.of hb⟩⟩
      have la : LenV K (.ref a) H xs.length := hs.imp (fun z => ⟨xs, z.1, rfl⟩) fun z => ⟨xs, z.1, rfl⟩
      have lb : LenV K (.ref b) H ys.length := hs.imp (fun z => ⟨ys, z.2, rfl⟩) fun z => ⟨ys, z.2, rfl⟩
      refine ⟨_, rfl, _, .ty "bool", _, _, _, rfl, .ty _, tb, kit_ty k1, false, rfl, iteF ?_⟩
      refine ⟨_, rfl, _, .ty "str", _, _, _, rfl, .ty _, tb, kit_ty k2, false, rfl, iteF ?_⟩
      refine ⟨_, rfl, _, .ty "int", _, _, _, rfl, .ty _, tb, kit_ty k3, false, rfl, iteF ?_⟩
      refine ⟨_, rfl, _, rfl, iteF ?_⟩
      refine ⟨_, rfl, _, .ty "tuple", _, _, _, rfl, .ty _, tb, kit_ty k4, _, rfl, _, .ty "tuple", _, _, _, rfl, .ty _, ta, kit_ty k4, rfl, _, rfl, iteNS rfl ?_⟩
      refine ⟨_, rfl, _, .ty "list", _, _, _, rfl, .ty _, tb, kit_ty k5, _, rfl, _, .ty "list", _, _, _, rfl, .ty _, ta, kit_ty k5, rfl, _, rfl, iteNS rfl ?_⟩
      refine ⟨_, rfl, _, _, rfl, la, _, rfl, _, _, rfl, lb, rfl, _, rfl, iteNS (by rw [hlen]) ?_⟩
      refine ⟨_, rfl, _, _, rfl, lb, _, rfl, by omega, by omega, for_range (lo := 0) (n := ys.length) (fun i σ H' => ∃ y2, σ = [some (.ref a), some (.ref b), y2] ∧ H' = H) ⟨none, rfl, rfl⟩ ?_ ?_⟩
      · rintro i σ H' hi ⟨y2, rfl, rfl⟩
        obtain ⟨x, hx⟩ : ∃ x, xs[i]? = some x := ⟨_, List.getElem?_eq_getElem (by omega)⟩
        obtain ⟨y, hy⟩ : ∃ y, ys[i]? = some y := ⟨_, List.getElem?_eq_getElem hi⟩
        have ax : atI xs (0 + (i : Int)) = some x := by rw [Int.zero_add]; exact atI_nat hx
        have ay : atI ys (0 + (i : Int)) = some y := by rw [Int.zero_add]; exact atI_nat hy
        refine ⟨_, rfl, _, rfl, ?_⟩
        have ix : ∀ (Q : VK), (Q x H' → rIx K (.ref a) (.int (0 + (i : Int))) H' Q) := fun Q q => hs.elim (fun z => .inl ⟨a, xs, _, x, rfl, rfl, z.1, ax, q⟩) fun z => .inr (.inl ⟨a, xs, _, x, rfl, rfl, z.1, ax, q⟩)
        have iy : ∀ (Q : VK), (Q y H' → rIx K (.ref b) (.int (0 + (i : Int))) H' Q) := fun Q q => hs.elim (fun z => .inl ⟨b, ys, _, y, rfl, rfl, z.2, ay, q⟩) fun z => .inr (.inl ⟨b, ys, _, y, rfl, rfl, z.2, ay, q⟩)
        refine ix _ ⟨_, rfl, _, rfl, iy _ ⟨x, y, rfl, hp i x y hx hy, true, rfl, iteF ⟨_, rfl, rfl⟩⟩⟩
      · rintro σ H' ⟨y2, rfl, rfl⟩
        exact q
end
end Rw
namespace Rw
open PySem L2
/-! ### rows moved along -/
def mv1 (by' : Int) (r : Row) : Row := (r.1, r.2.1 + by', r.2.2 + by')
def moved (by' : Int) (rs : List Row) : List Row := rs.map (mv1 by')
def spMoved : Sp := fun vs H Q _ => ∃ (F : Hp) (v : V) (rs : List Row) (b : Int), vs = [v, .int b] ∧ Same F H ∧ (kL kRow).is F v rs ∧ rs.length ≤ 100000 ∧ RetL M0 F H kRow (· = moved b rs) Q
section
variable {P : Program} {w : World} {K : PySem.W.Frag} {mg : Str → Option Value} {base : Heap}
end
end Rw
namespace Rw
open PySem L2
/-! ### the names of rows, one by one -/
structure DKy (kvs : List (List Key × V)) (ps : List Pt) : Prop where
  keys : kvs.map (·.1) = ps.map kk
  nd : ps.Nodup
theorem DKy.nil : DKy [] [] := ⟨rfl, .nil⟩
theorem DKy.len {kvs : List (List Key × V)} {ps : List Pt} (d : DKy kvs ps) : kvs.length = ps.length := by
  have h := congrArg List.length d.keys
  rw [List.length_map, List.length_map] at h
  exact h
theorem DKy.put {kvs : List (List Key × V)} {ps : List Pt} (d : DKy kvs ps) (q : Pt) (v : V) : ∃ ps', DKy (putK kvs (kk q) v) ps' ∧ (∀ p, p ∈ ps' ↔ p ∈ ps ∨ p = q) ∧ ps'.length ≤ ps.length + 1 := by
  by_cases m : q ∈ ps
  · refine ⟨ps, ⟨?_, d.nd⟩, fun p => ⟨.inl, fun h => h.elim id fun e => e ▸ m⟩, Nat.le_succ _⟩
    have a : (kvs.any fun kv => decide (kv.1 = kk q)) = true := by
      have h1 : kk q ∈ kvs.map (·.1) := by rw [d.keys]; exact List.mem_map.mpr ⟨q, m, rfl⟩
      obtain ⟨kv, hkv, e⟩ := List.mem_map.mp h1
      exact List.any_eq_true.mpr ⟨kv, hkv, decide_eq_true e⟩
    unfold putK
    rw [if_pos a, List.map_map, ← d.keys]
    refine List.map_congr_left fun kv _ => ?_
    by_cases e : kv.1 = kk q
    · simp only [Function.comp, if_pos e]
    · simp only [Function.comp, if_neg e]
  · refine ⟨ps ++ [q], ⟨?_, ?_⟩, fun p => by simp, by simp⟩
    · have a : ¬ (kvs.any fun kv => decide (kv.1 = kk q)) = true := fun h => by
        obtain ⟨kv, hkv, e⟩ := List.any_eq_true.mp h
        have h1 : kv.1 ∈ ps.map kk := by rw [← d.keys]; exact List.mem_map.mpr ⟨kv, hkv, rfl⟩
        rw [of_decide_eq_true e] at h1
        obtain ⟨p, hp, e2⟩ := List.mem_map.mp h1
        rw [kk_inj e2] at hp
        exact m hp
      unfold putK
      rw [if_neg a, List.map_append, List.map_append, d.keys]
      rfl
    · exact List.nodup_append.mpr ⟨d.nd, by simp, fun a ha b hb e => by rw [List.mem_singleton.mp hb] at e; exact m (e ▸ ha)⟩
/-- a frame that has all tuples -/
def Full (F H : Hp) : Prop := ∀ t xs, H t = some (.tup xs) → F t = some (.tup xs)
def absb (F H : Hp) : Hp := fun b => match H b with
  | some (.tup xs) => some (.tup xs)
  | _ => F b
theorem absb_tup {F H : Hp} {b : Addr} {xs : List V} (h : H b = some (.tup xs)) : absb F H b = some (.tup xs) := by unfold absb; rw [h]
theorem absb_ne {F H : Hp} {b : Addr} (h : ∀ xs, H b ≠ some (.tup xs)) : absb F H b = F b := by
  unfold absb
  split
  · rename_i xs e; exact absurd e (h xs)
  · rfl
theorem absb_or {F H : Hp} (b : Addr) : (∃ xs, H b = some (.tup xs) ∧ absb F H b = some (.tup xs)) ∨ ((∀ xs, H b ≠ some (.tup xs)) ∧ absb F H b = F b) := by
  by_cases h : ∃ xs, H b = some (.tup xs)
  · obtain ⟨xs, h⟩ := h
    exact .inl ⟨xs, h, absb_tup h⟩
  · have h' : ∀ xs, H b ≠ some (.tup xs) := fun xs e => h ⟨xs, e⟩
    exact .inr ⟨h', absb_ne h'⟩
theorem absb_full {F H : Hp} : Full (absb F H) H := fun _ _ h => absb_tup h
theorem absb_same {F H : Hp} (s : Same F H) : Same (absb F H) H := fun b o e => by
  rcases absb_or (F := F) (H := H) b with ⟨xs, h, e'⟩ | ⟨_, e'⟩
  · rw [e'] at e; rw [h]; exact e
  · rw [e'] at e; exact s _ _ e
theorem absb_sub {F H : Hp} (s : Same F H) : Same F (absb F H) := fun b o e => by
  rcases absb_or (F := F) (H := H) b with ⟨xs, h, e'⟩ | ⟨_, e'⟩
  · rw [e', ← h]; exact s _ _ e
  · rw [e']; exact e
/-- the old frame where there was something, the new heap but for one place elsewhere -/
def lift (F H G : Hp) : Hp := fun b => match H b with
  | some _ => F b
  | none => G b
theorem lift_old {F H G : Hp} {b : Addr} (h : H b ≠ none) : lift F H G b = F b := by
  unfold lift
  split
  · rfl
  · rename_i e; exact absurd e h
theorem lift_new {F H G : Hp} {b : Addr} (h : H b = none) : lift F H G b = G b := by unfold lift; rw [h]
theorem lift_ext {F H F1 H' G : Hp} (s0 : Same F H) (X : Ext M0 F H F1 H') (s : Same G H') : Ext M0 F H (lift F H G) H' := by
  refine ⟨fun b o e => ?_, fun b o e => ?_, X.hh, X.tr, fun b e => lift_old e⟩
  · rw [lift_old (by rw [s0 _ _ e]; simp)]; exact e
  · by_cases h : H b = none
    · rw [lift_new h] at e; exact s _ _ e
    · rw [lift_old h] at e; exact X.fh _ _ (X.ff _ _ e)
theorem lift_pt {F H F1 H' G : Hp} (X : Ext M0 F H F1 H') (fu : Full F H) (s : Same G H') {v : V} {p : Pt} (h : kPt.is G v p) : kPt.is (lift F H G) v p := by
  obtain ⟨t, e, ht⟩ := h
  refine ⟨t, e, ?_⟩
  cases q : H t with
  | none => rw [lift_new q]; exact ht
  | some o =>
    rw [lift_old (by rw [q]; simp)]
    have h1 := X.same _ _ q
    rw [s _ _ ht] at h1
    rw [← Option.some.inj h1] at q
    exact fu _ _ q
structure NamesOf (rs : List Row) (qs : List Pt) : Prop where
  sort : qs.Pairwise lt2
  mem : ∀ p, p ∈ qs ↔ mem rs p
  len : qs.length ≤ 400 * rs.length
def Small (rs : List Row) : Prop := rs.length ≤ 250 ∧ ∀ r ∈ rs, 1 ≤ r.2.1 ∧ r.2.1 ≤ r.2.2 ∧ r.2.2 ≤ 400
def spNames : Sp := fun vs H Q _ => ∃ (F : Hp) (v : V) (rs : List Row), vs = [v] ∧ Same F H ∧ Full F H ∧ (kL kRow).is F v rs ∧ Small rs ∧ RetL M0 F H kPt (NamesOf rs) Q
structure TxN (mg : Str → Option Value) : Prop where
  range : mg "range" = none
  sorted : mg "sorted" = none
theorem mem_take {rs : List Row} {i : Nat} {r : Row} (h : rs[i]? = some r) (p : Pt) : mem (rs.take (i + 1)) p ↔ mem (rs.take i) p ∨ inRow r p := by
  have eT : rs.take (i + 1) = rs.take i ++ [r] := by rw [List.take_add_one, h]; rfl
  rw [eT, mem_append]
  constructor
  · rintro (z | ⟨s, hs, z⟩)
    · exact .inl z
    · rw [List.mem_singleton.mp hs] at z; exact .inr z
  · rintro (z | z)
    · exact .inl z
    · exact .inr ⟨r, List.mem_singleton.mpr rfl, z⟩
section
variable {P : Program} {w : World} {K : PySem.W.Frag} {mg : Str → Option Value} {base : Heap}
theorem ok_law_names {f : Addr} {fd : FuncData} (F0 : Fun K "_law_names" "_law_names" s_law_names f fd) (T : TxN mg) : FnOk P w K mg base CX0 1 f fd ["_law_rows_here"] spNames := by
  refine F0.ok sc_law_names (fun vs H Q E h => ?_) (fun cdv A outer s H vs Q E hr h => ?_)
  · obtain ⟨F, v, rs, rfl, _⟩ := h
    rfl
  · obtain ⟨F, v, rs, rfl, fh, fu, ⟨a, xs, rfl, ha, hp⟩, ⟨hl, hsm⟩, q⟩ := h
    have hu := hu_of hr
    refine ⟨_, pss_cons (ps_set (i := 1) sc_law_names.nd rfl (.inl rfl) pe_dnewT)
      (pss_cons (ps_for PassesOwn.never rfl (pi_list (pv 0))
          (pg_tup rfl (pgs_cons (pg_name (i := 2) sc_law_names.nd rfl (.inl rfl)) (pgs_cons (pg_name (i := 3) sc_law_names.nd rfl (.inl rfl)) (pgs_cons (pg_name (i := 4) sc_law_names.nd rfl (.inl rfl)) pgs_nil))))
        (pss_one (ps_for PassesOwn.never rfl (pi_range2 (by rfl) T.range (pa_cons (pv 3) (pa_cons (pe_op op_add (pv 4) pe_int) pa_nil))) (pg_name (i := 5) sc_law_names.nd rfl (.inl rfl))
          (pss_one (ps_dput hu (pv 1) (pe_tup (pa_cons (pv 2) (pa_cons (pv 5) pa_nil))) pe_bl rfl)))))
      (pss_one (ps_ret (pe_callB (cr_sortedDT (by rfl)) (by rfl) T.sorted (by decide +kernel) (pa_cons (pv 1) pa_nil))))), ?_⟩
    intro d nd
    have fd0 : F d = none := fh.free nd
    refine ⟨_, rfl, a, rfl, ⟨xs, SqL.of ((same_upd nd) _ _ (fh _ _ ha))⟩, for_list (K := K) (a := a) (xs := xs) (fun i σ H1 => ∃ kvs ps y2 y3 y4 y5, σ = [some (.ref a), some (.ref d), y2, y3, y4, y5] ∧ Ext M0 F H F H1 ∧ H1 d = some (.dT kvs) ∧ DKy kvs ps ∧ (∀ p, p ∈ ps ↔ mem (rs.take i) p) ∧ ps.length ≤ 400 * i)
      ⟨[], [], none, none, none, none, rfl, (Ext.refl fh).put (.inl nd) fd0, upd_same, DKy.nil, fun p => ⟨fun h => absurd h (by simp), fun h => absurd h mem_nil⟩, Nat.le_refl _⟩ (fun i σ H1 _ ⟨_, _, _, _, _, _, _, X1, _⟩ => SqL.of (X1.fh _ _ ha)) ?_ ?_⟩
    · rintro i x σ H1 hi ⟨kvs, ps, y2, y3, y4, y5, rfl, X1, hd, hk, hm, hn⟩
      obtain ⟨r, hri, t, rfl, ht⟩ := pr_get hp hi
      obtain ⟨r1, r2, r3⟩ := hsm _ (List.mem_of_getElem? hri)
      have i250 : i < 250 := by
        have := (List.getElem?_eq_some_iff.mp hri).1
        omega
      refine ⟨t, _, rfl, SqT.of (X1.fh _ _ ht), rfl, _, _, rfl, _, _, rfl, _, _, rfl, rfl, ?_⟩
      refine ⟨_, rfl, _, rfl, _, _, rfl, rfl, r.2.1, r.2.2 + 1, rfl, ⟨by omega, by omega, by omega, by omega⟩, for_range (lo := r.2.1) (n := (r.2.2 + 1 - r.2.1).toNat) (fun j σ H' => ∃ kvs ps y5, σ = [some (.ref a), some (.ref d), some (.int r.1), some (.int r.2.1), some (.int r.2.2), y5] ∧ Ext M0 F H F H' ∧ H' d = some (.dT kvs) ∧ DKy kvs ps ∧ (∀ p, p ∈ ps ↔ mem (rs.take i) p ∨ (p.1 = r.1 ∧ r.2.1 ≤ p.2 ∧ p.2 < r.2.1 + (j : Int))) ∧ ps.length ≤ 400 * i + j)
        ⟨kvs, ps, y5, rfl, X1, hd, hk, fun p => by rw [hm p]; exact ⟨.inl, fun z => z.elim id fun z => absurd z (by omega)⟩, hn⟩ ?_ ?_⟩
      · rintro j σ H2 hj ⟨kvs2, ps2, y5', rfl, X2, hd2, hk2, hm2, hn2⟩
        have hj4 : j < 400 := by omega
        refine ⟨_, rfl, _, rfl, _, rfl, (by show 2 ≤ sizeLine; decide), fun k1 nk1 => ?_⟩
        have dk1 : d ≠ k1 := ne_of_none hd2 nk1
        have hd3 : upd H2 k1 (.tup [.int r.1, .int (r.2.1 + (j : Int))]) d = some (.dT kvs2) := by rw [upd_ne dk1]; exact hd2
        obtain ⟨ps3, hk3, hm3, hn3⟩ := hk2.put (r.1, r.2.1 + (j : Int)) (.bl true)
        refine ⟨d, _, rfl, DPut.t (k := kk (r.1, r.2.1 + (j : Int))) hd3 upd_same (by rw [hk2.len, sizeLine_eq]; omega), ?_⟩
        refine ⟨_, ps3, _, rfl, (X2.tmp nk1).put (.inl nd) fd0, upd_same, hk3, fun p => ?_, by omega⟩
        rw [hm3 p, hm2 p]
        constructor
        · rintro ((z | z) | z)
          · exact .inl z
          · exact .inr (by omega)
          · rw [z]; exact .inr ⟨rfl, by simp only; omega, by simp only; omega⟩
        · rintro (z | z)
          · exact .inl (.inl z)
          · by_cases e : p.2 = r.2.1 + (j : Int)
            · exact .inr (Prod.ext z.1 e)
            · exact .inl (.inr (by omega))
      · rintro σ H2 ⟨kvs2, ps2, y5', rfl, X2, hd2, hk2, hm2, hn2⟩
        refine ⟨kvs2, ps2, _, _, _, _, rfl, X2, hd2, hk2, fun p => ?_, by omega⟩
        rw [hm2 p, mem_take hri p]
        refine or_congr Iff.rfl ?_
        unfold inRow
        constructor
        · rintro ⟨z1, z2, z3⟩; exact ⟨z1.symm, z2, by omega⟩
        · rintro ⟨z1, z2, z3⟩; exact ⟨z1.symm, z2, by omega⟩
    · rintro σ H1 ⟨kvs, ps, y2, y3, y4, y5, rfl, X1, hd, hk, hm, hn⟩
      rw [pr_len hp, List.take_length] at hm
      refine ⟨_, rfl, d, kvs, ps, rfl, hd, hk.keys, hk.nd, fun ys qs p hys hperm hsort np => ?_⟩
      have X2 := lift_ext fh X1 (Same.refl H1)
      have X3 := X2.tmp (o := .lst ys) np
      have fp : lift F H H1 p = none := X2.ffree np
      refine q _ _ p ys qs X3 (X1.free np) fp upd_same (pr_mono (fun _ _ z => lift_pt X1 fu (Same.refl H1) z) hys) ⟨hsort, fun p => by rw [hperm.mem_iff, hm p], ?_⟩
      rw [hperm.length_eq]
      have := pr_len hp
      omega
end
end Rw
namespace Rw
open PySem L2
/-! ### names told as rows -/
structure ToldOf (ps : List Pt) (out : List Row) : Prop where
  can : Canon out
  mem : ∀ p, mem out p ↔ p ∈ ps
  len : out.length ≤ ps.length
theorem ToldOf.nil : ToldOf [] [] := ⟨.nil, fun p => ⟨fun h => absurd h mem_nil, fun h => absurd h (by simp)⟩, Nat.le_refl _⟩
theorem ToldOf.behind {ps : List Pt} {out : List Row} {k : Pt} (t : ToldOf ps out) (h : ∀ p ∈ ps, lt2 p k) {r : Row} (hr : r ∈ out) : r.1 < k.1 ∨ (r.1 = k.1 ∧ r.2.2 < k.2) := by
  have m := h _ ((t.mem (r.1, r.2.2)).mp (t.can.last hr))
  unfold lt2 at m
  simp only at m
  omega
theorem ToldOf.grow {ps : List Pt} {init : List Row} {r : Row} {k : Pt} (t : ToldOf ps (init ++ [r])) (h : ∀ p ∈ ps, lt2 p k) (e1 : r.1 = k.1) (e2 : r.2.2 + 1 = k.2) : ToldOf (ps ++ [k]) (init ++ [(k.1, r.2.1, k.2)]) := by
  have hr : r ∈ init ++ [r] := by simp
  have o := t.can.ok r hr
  have pw := List.pairwise_append.mp t.can.ord
  have ci : Canon init := ⟨fun s hs => t.can.ok s (List.mem_append_left _ hs), pw.1⟩
  refine ⟨ci.snoc (by simp only; omega) fun s hs => ?_, fun p => ?_, by have := t.len; simp at this ⊢; omega⟩
  · have b := pw.2.2 s hs r (by simp)
    unfold before at b ⊢
    simp only at b ⊢
    omega
  · have m := t.mem p
    rw [mem_append] at m ⊢
    rw [List.mem_append, List.mem_singleton, ← m]
    have one : Rw.mem [(k.1, r.2.1, k.2)] p ↔ Rw.mem [r] p ∨ p = k := by
      unfold Rw.mem inRow
      simp only [List.mem_singleton, exists_eq_left]
      constructor
      · rintro ⟨a, b, c⟩
        by_cases z : p.2 = k.2
        · exact .inr (Prod.ext a.symm z)
        · exact .inl ⟨by omega, b, by omega⟩
      · rintro (⟨a, b, c⟩ | rfl)
        · exact ⟨by omega, b, by omega⟩
        · exact ⟨rfl, by omega, Int.le_refl _⟩
    rw [one, or_assoc]
theorem ToldOf.more {ps : List Pt} {out : List Row} {k : Pt} (t : ToldOf ps out) (h : ∀ p ∈ ps, lt2 p k) (hn : ∀ init r, out = init ++ [r] → ¬ (r.1 = k.1 ∧ r.2.2 + 1 = k.2)) : ToldOf (ps ++ [k]) (out ++ [(k.1, k.2, k.2)]) := by
  refine ⟨t.can.snoc (Int.le_refl _) fun s hs => ?_, fun p => ?_, by have := t.len; simp; omega⟩
  · have b := t.behind h hs
    unfold before
    simp only
    by_cases e : s.1 = k.1 ∧ s.2.2 + 1 = k.2
    · exfalso
      rcases List.eq_nil_or_concat out with z | ⟨init, r, z⟩
      · rw [z] at hs; simp at hs
      · rw [List.concat_eq_append] at z
        have nr := hn init r z
        rw [z] at hs
        rcases List.mem_append.mp hs with hs | hs
        · have c := t.can.ord
          rw [z] at c
          have q := (List.pairwise_append.mp c).2.2 s hs r (by simp)
          have br := t.behind h (r := r) (by rw [z]; simp)
          have o := t.can.ok r (by rw [z]; simp)
          unfold before at q
          omega
        · rw [List.mem_singleton.mp hs] at e
          exact nr e
    · omega
  · rw [mem_append, List.mem_append, List.mem_singleton, t.mem p]
    refine or_congr Iff.rfl ?_
    unfold Rw.mem inRow
    simp only [List.mem_singleton, exists_eq_left]
    constructor
    · rintro ⟨a, b, c⟩
      exact Prod.ext a.symm (by omega)
    · rintro rfl
      exact ⟨rfl, Int.le_refl _, Int.le_refl _⟩
theorem ixN_last (n : Nat) : ixN (n + 1) (-1) = some n := by
  unfold ixN
  rw [if_neg (by decide), if_pos (by omega)]
  congr 1
  omega
def spTold : Sp := fun vs H Q _ => ∃ (F : Hp) (v : V) (ps : List Pt), vs = [v] ∧ Same F H ∧ (kL kPt).is F v ps ∧ ps.Pairwise lt2 ∧ ps.length ≤ 1000000 ∧ RetL M0 F H kRow (ToldOf ps) Q
theorem pr_concat {α : Type} {R : V → α → Prop} {vs : List V} {xs : List α} {x : α} (h : Paired R vs (xs ++ [x])) : ∃ us u, vs = us ++ [u] ∧ Paired R us xs ∧ R u x := by
  have hl := pr_len h
  rw [List.length_append, List.length_singleton] at hl
  obtain ⟨u, hu, ru⟩ := pr_get' (i := xs.length) (x := x) h (by simp)
  refine ⟨vs.take xs.length, u, ?_, ?_, ru⟩
  · have e : vs.take (xs.length + 1) = vs.take xs.length ++ [u] := by rw [List.take_add_one, hu]; rfl
    rw [← e, ← hl, List.take_length]
  · have := pr_take xs.length h
    rw [List.take_left'] at this
    · exact this
    · rfl
theorem set_last {α : Type} (xs : List α) (x y : α) : (xs ++ [x]).set xs.length y = xs ++ [y] := by
  rw [List.set_append_right _ _ (Nat.le_refl _), Nat.sub_self]
  rfl
section
variable {P : Program} {w : World} {K : PySem.W.Frag} {mg : Str → Option Value} {base : Heap}
theorem ok_law_told_rows {f : Addr} {fd : FuncData} (F0 : Fun K "_law_told_rows" "_law_told_rows" s_law_told_rows f fd) : FnOk P w K mg base CX0 1 f fd ["_law_names_here"] spTold := by
  refine F0.ok sc_law_told_rows (fun vs H Q E h => ?_) (fun cdv A outer s H vs Q E hr h => ?_)
  · obtain ⟨F, v, ps, rfl, _⟩ := h
    rfl
  · obtain ⟨F, v, ps, rfl, fh, ⟨a, xs, rfl, ha, hp⟩, hsort, hl, q⟩ := h
    have hu := hr.units
    refine ⟨_, pss_cons (ps_set (i := 1) sc_law_told_rows.nd rfl (.inl rfl) (pe_lst pa_nil))
      (pss_cons (ps_for PassesOwn.never rfl (pi_list (pv 0)) (pg_tup rfl (pgs_cons (pg_name (i := 2) sc_law_told_rows.nd rfl (.inl rfl)) (pgs_cons (pg_name (i := 3) sc_law_told_rows.nd rfl (.inl rfl)) pgs_nil)))
        (pss_one (ps_if (PW.pt (pw_and (pt_cmpR (op_neD hu) (pv 1) (pe_lst pa_nil) (nomark _))
            (pw_and (pt_cmpR op_eq (pe_ix ix_tup (pe_ix ix_list (pv 1) (pe_un un_neg pe_int) (fun _ _ => rfl)) pe_int (fun _ _ => rfl)) (pv 2) (nomark _))
            (pw_and1 (pt_cmpR op_eq (pe_op op_add (pe_ix ix_tup (pe_ix ix_list (pv 1) (pe_un un_neg pe_int) (fun _ _ => rfl)) pe_int (fun _ _ => rfl)) pe_int) (pv 3) (nomark _))))))
          (pss_one (ps_asg (pe_tup (pa_cons (pv 2) (pa_cons (pe_ix ix_tup (pe_ix ix_list (pv 1) (pe_un un_neg pe_int) (fun _ _ => rfl)) pe_int (fun _ _ => rfl)) (pa_cons (pv 3) pa_nil)))) (pg_sub (pv 1) (pe_un un_neg pe_int) set_list)))
          (pss_one (ps_expr (pe_bm PySem.F.plainAttrs_list PySem.F.slot_list_append PySem.F.type_list_append mt_append (pv 1) (pa_cons (pe_tup (pa_cons (pv 2) (pa_cons (pv 3) (pa_cons (pv 3) pa_nil)))) pa_nil)))))))
      (pss_one (ps_ret (pv 1)))), ?_⟩
    refine ⟨Nat.zero_le _, fun o no => ?_⟩
    have Fo : F o = none := fh.free no
    have X0 : Ext M0 F H F (upd H o (.lst [])) := (Ext.refl fh).tmp no
    have ho0 : upd H o (.lst []) o = some (.lst []) := upd_same
    revert X0 ho0
    generalize upd H o (.lst []) = H0
    intro X0 ho0
    refine ⟨_, rfl, a, rfl, ⟨xs, SqL.of (X0.fh _ _ ha)⟩, for_list (K := K) (a := a) (xs := xs) (fun i σ H' => ∃ F' acc out y2 y3, σ = [some (.ref a), some (.ref o), y2, y3] ∧ Ext M0 F H F' H' ∧ F' o = none ∧ H' o = some (.lst acc) ∧ Paired (kRow.is F') acc out ∧ ToldOf (ps.take i) out)
      ⟨F, [], [], none, none, rfl, X0, Fo, ho0, .nil, ToldOf.nil⟩ (fun i σ H' _ ⟨_, _, _, _, _, _, X, _⟩ => SqL.of (X.fh _ _ (X.ff _ _ ha))) ?_ ?_⟩
    · rintro i x σ H1 hi ⟨F1, acc, out, y2, y3, rfl, X1, fo, ho1, hac, ht⟩
      obtain ⟨k, hk, t, rfl, htk⟩ := pr_get hp hi
      have htk1 := X1.fh _ _ (X1.ff _ _ htk)
      have eT : ps.take (i + 1) = ps.take i ++ [k] := by rw [List.take_add_one, hk]; rfl
      have hik : i < ps.length := (List.getElem?_eq_some_iff.mp hk).1
      have hlt : ∀ p ∈ ps.take i, lt2 p k := fun p hpm => by
        obtain ⟨j, hj, e⟩ := List.getElem_of_mem hpm
        have hji : j < i := by
          have := List.length_take_le i ps
          omega
        rw [List.getElem_take] at e
        have ek : ps[i] = k := by
          have := List.getElem?_eq_getElem hik
          rw [hk] at this
          exact (Option.some.inj this).symm
        rw [← e, ← ek]
        exact List.pairwise_iff_getElem.mp hsort j i (by omega) hik hji
      have la : acc.length ≤ 1000000 := by
        have h1 := List.length_take_le' i ps
        have := ht.len
        rw [pr_len hac]
        omega
      rw [eT]
      refine ⟨t, _, rfl, SqT.of htk1, rfl, _, _, rfl, _, _, rfl, rfl, ?_⟩
      refine ⟨_, rfl, Nat.zero_le _, fun p np => ?_⟩
      have op : o ≠ p := ne_of_none ho1 np
      have X2 := X1.tmp (o := .lst []) np
      have ho2 : upd H1 p (.lst []) o = some (.lst acc) := by rw [upd_ne op]; exact ho1
      refine ⟨dL dRow out, dL dRow [], (enc_L enc_row).dp (X2.frz no fo ho2).fh (kL_new fo hac), (enc_L enc_row).dp (k := kL kRow) (Same.refl _) ⟨p, [], rfl, upd_same, .nil⟩, shaped_rows _, shaped_rows _, ?_⟩
      rw [eqv_rows]
      revert X2 ho2
      generalize upd H1 p (.lst []) = H2
      intro X2 ho2
      by_cases z : ∃ init r, out = init ++ [r] ∧ r.1 = k.1 ∧ r.2.2 + 1 = k.2
      · obtain ⟨init, r, rfl, e1, e2⟩ := z
        obtain ⟨us, u, rfl, hus, tu, rfl, htu⟩ := pr_concat hac
        have lu : us.length = init.length := pr_len hus
        have htu2 := X2.fh _ _ htu
        have ne : (!decide (init ++ [r] = [])) = true := by rw [decide_eq_false (by simp)]; rfl
        rw [ne]
        refine ⟨_, rfl, iteT ?_⟩
        refine ⟨_, rfl, _, rfl, o, _, -1, .ref tu, rfl, rfl, SqL.of ho2, atI_last us _, tu, _, 0, _, rfl, rfl, SqT.of htu2, rfl, _, rfl, rfl, _, rfl, ?_⟩
        rw [decide_eq_true (show V.int r.1 = V.int k.1 by rw [e1])]
        refine iteT ?_
        refine ⟨_, rfl, _, rfl, o, _, -1, .ref tu, rfl, rfl, SqL.of ho2, atI_last us _, tu, _, 2, _, rfl, rfl, SqT.of htu2, rfl, _, _, rfl, rfl, _, rfl, rfl, _, rfl, ?_⟩
        rw [decide_eq_true (show V.int (r.2.2 + 1) = V.int k.2 by rw [e2])]
        refine iteT ?_
        -- found[-1] = (house, found[-1][1], number)
        refine ⟨_, rfl, _, rfl, _, rfl, o, _, -1, .ref tu, rfl, rfl, SqL.of ho2, atI_last us _, tu, _, 1, _, rfl, rfl, SqT.of htu2, rfl, _, rfl, (by show 3 ≤ sizeLine; decide), fun t2 nt2 => ?_⟩
        have ot : o ≠ t2 := ne_of_none ho2 nt2
        refine ⟨_, rfl, _, rfl, o, us ++ [.ref tu], -1, us.length, rfl, rfl, by rw [upd_ne ot]; exact ho2, by rw [List.length_append, List.length_singleton]; exact ixN_last _, ?_⟩
        rw [set_last]
        have fo9 : upd F1 t2 (.tup [.int k.1, .int r.2.1, .int k.2]) o = none := by rw [upd_ne ot]; exact fo
        have sm : Same F1 (upd F1 t2 (.tup [.int k.1, .int r.2.1, .int k.2])) := same_upd (X2.ffree nt2)
        exact ⟨upd F1 t2 (.tup [.int k.1, .int r.2.1, .int k.2]), us ++ [.ref t2], init ++ [(k.1, r.2.1, k.2)], _, _, rfl, (X2.lay nt2).put (.inl no) fo9, fo9, upd_same, pr_snoc (pr_mono (fun _ _ z => kRow.mono sm z) hus) ⟨t2, rfl, upd_same⟩, ht.grow hlt e1 e2⟩
      · have hn : ∀ init r, out = init ++ [r] → ¬ (r.1 = k.1 ∧ r.2.2 + 1 = k.2) := fun init r e q => z ⟨init, r, e, q⟩
        have fin := ht.more hlt hn
        rcases List.eq_nil_or_concat out with c | ⟨init, r, c⟩
        · have ne : (!decide (out = [])) = false := by rw [decide_eq_true c]; rfl
          rw [ne]
          refine ⟨_, rfl, iteF (iteF ?_)⟩
          refine ⟨_, rfl, .inl ⟨rfl, _, SqL.of ho2⟩, _, rfl, _, rfl, _, rfl, (by show 3 ≤ sizeLine; decide), fun t2 nt2 => ?_⟩
          have ot : o ≠ t2 := ne_of_none ho2 nt2
          refine ⟨o, acc, _, rfl, rfl, by rw [upd_ne ot]; exact ho2, by rw [sizeLine_eq]; omega, ?_⟩
          have fo9 : upd F1 t2 (.tup [.int k.1, .int k.2, .int k.2]) o = none := by rw [upd_ne ot]; exact fo
          have sm : Same F1 (upd F1 t2 (.tup [.int k.1, .int k.2, .int k.2])) := same_upd (X2.ffree nt2)
          exact ⟨upd F1 t2 (.tup [.int k.1, .int k.2, .int k.2]), acc ++ [.ref t2], out ++ [(k.1, k.2, k.2)], _, _, rfl, (X2.lay nt2).put (.inl no) fo9, fo9, upd_same, pr_snoc (pr_mono (fun _ _ z => kRow.mono sm z) hac) ⟨t2, rfl, upd_same⟩, fin⟩
        · rw [List.concat_eq_append] at c
          subst c
          have hac' := hac
          obtain ⟨us, u, rfl, hus, tu, rfl, htu⟩ := pr_concat hac
          have htu2 := X2.fh _ _ htu
          have ne : (!decide (init ++ [r] = [])) = true := by rw [decide_eq_false (by simp)]; rfl
          rw [ne]
          refine ⟨_, rfl, iteT ?_⟩
          refine ⟨_, rfl, _, rfl, o, _, -1, .ref tu, rfl, rfl, SqL.of ho2, atI_last us _, tu, _, 0, _, rfl, rfl, SqT.of htu2, rfl, _, rfl, rfl, _, rfl, ?_⟩
          by_cases e1 : r.1 = k.1
          · have e2 : ¬ r.2.2 + 1 = k.2 := fun e2 => hn init r rfl ⟨e1, e2⟩
            rw [decide_eq_true (show V.int r.1 = V.int k.1 by rw [e1])]
            refine iteT ?_
            refine ⟨_, rfl, _, rfl, o, _, -1, .ref tu, rfl, rfl, SqL.of ho2, atI_last us _, tu, _, 2, _, rfl, rfl, SqT.of htu2, rfl, _, _, rfl, rfl, _, rfl, rfl, _, rfl, ?_⟩
            rw [decide_eq_false (show ¬ V.int (r.2.2 + 1) = V.int k.2 from fun z => e2 (V.int.inj z))]
            refine iteF ?_
            refine ⟨_, rfl, .inl ⟨rfl, _, SqL.of ho2⟩, _, rfl, _, rfl, _, rfl, (by show 3 ≤ sizeLine; decide), fun t2 nt2 => ?_⟩
            have ot : o ≠ t2 := ne_of_none ho2 nt2
            refine ⟨o, _, _, rfl, rfl, by rw [upd_ne ot]; exact ho2, by rw [sizeLine_eq]; omega, ?_⟩
            have fo9 : upd F1 t2 (.tup [.int k.1, .int k.2, .int k.2]) o = none := by rw [upd_ne ot]; exact fo
            have sm : Same F1 (upd F1 t2 (.tup [.int k.1, .int k.2, .int k.2])) := same_upd (X2.ffree nt2)
            exact ⟨upd F1 t2 (.tup [.int k.1, .int k.2, .int k.2]), _, _, _, _, rfl, (X2.lay nt2).put (.inl no) fo9, fo9, upd_same, pr_snoc (pr_mono (fun _ _ z => kRow.mono sm z) hac') ⟨t2, rfl, upd_same⟩, fin⟩
          · rw [decide_eq_false (show ¬ V.int r.1 = V.int k.1 from fun z => e1 (V.int.inj z))]
            refine iteF (iteF ?_)
            refine ⟨_, rfl, .inl ⟨rfl, _, SqL.of ho2⟩, _, rfl, _, rfl, _, rfl, (by show 3 ≤ sizeLine; decide), fun t2 nt2 => ?_⟩
            have ot : o ≠ t2 := ne_of_none ho2 nt2
            refine ⟨o, _, _, rfl, rfl, by rw [upd_ne ot]; exact ho2, by rw [sizeLine_eq]; omega, ?_⟩
            have fo9 : upd F1 t2 (.tup [.int k.1, .int k.2, .int k.2]) o = none := by rw [upd_ne ot]; exact fo
            have sm : Same F1 (upd F1 t2 (.tup [.int k.1, .int k.2, .int k.2])) := same_upd (X2.ffree nt2)
            exact ⟨upd F1 t2 (.tup [.int k.1, .int k.2, .int k.2]), _, _, _, _, rfl, (X2.lay nt2).put (.inl no) fo9, fo9, upd_same, pr_snoc (pr_mono (fun _ _ z => kRow.mono sm z) hac') ⟨t2, rfl, upd_same⟩, fin⟩
    · rintro σ H1 ⟨F1, acc, out, y2, y3, rfl, X1, fo, ho1, hac, ht⟩
      rw [pr_len hp, List.take_length] at ht
      exact ⟨_, rfl, q F1 H1 o acc out X1 no fo ho1 hac ht⟩
end
end Rw
namespace Rw
open PySem PySem.Spec PyProof.Rows L2
/-! ### D.__init__(self, ..) of an own class over ValueError without one -/
/-- what the class named must say -/
structure BaseI (K : PySem.W.Frag) (D : Addr) (mc : Value) : Prop where
  rd : PySem.W.readsIn K D mc = true
  ga : PySem.W.specialIn K (.ref D) "__getattribute__" = some (some (.builtin "type.__getattribute__"))
  fi : PySem.W.findCls K (.ref D) mc "__init__" = some (.val (.builtin "ValueError.__init__"))
section
variable {X : Cx} {e : Expr} {es : List Expr} {ta : TA} {x : Str} {D : Addr} {mc : Value} {p1 p2 pos : Pos}
theorem pe_baseI {pl : Sem Bool} (hg : Gl X x) (hm : X.mg x = some (.ref D)) (B : BaseI X.K D mc) (ha : PA X (e :: es) ta)
    (hc : eval (.Call (.Attribute (.Name x p1) "__init__" p2) (e :: es) [] pos) X.env = (do
      let b ← eval (.Name x p1) X.env
      standAt p2.atName
      let (f, one) ← holding [b] (getMethod b "__init__" pl)
      callWith pos f one (backTo pos (starEach (e :: es) X.env)) (backToKw pos (keywordEach [] X.env))) := by rfl)
    (he : starEach (e :: es) X.env = (false, eval e X.env) :: starEach es X.env := by rfl) (hpl : (backTo pos (starEach es X.env)).any (·.1) = false := by rfl) (hdb : (x == ("__debug__" : Str)) = false := by decide) :
    PE X (.Call (.Attribute (.Name x p1) "__init__" p2) (e :: es) [] pos) (tVeI X.K ta) := by
  constructor
  intro pins s σ H Q I h
  refine PySem.W.methodCall_KW (ld_glob I hg hm ?_ hdb) hc
  refine PySem.W.method_cls I.kIn B.ga (PySem.W.cls_value I.kIn B.rd B.fi (by decide +kernel) ?_)
  show wpAny _ _ (callWith pos (Value.builtin "ValueError.__init__") [] (backTo pos (starEach (e :: es) X.env)) []) _ _ _
  refine PyProof.Rows.callWith_method1 (thn (ha.run pos pins _ σ H _ (I.tok _) h) ?_) he hpl
  rintro us s1 ⟨vs, H1, I1, r1, a, C, ws, ev, hl, T, ea, q⟩
  subst ev
  cases r1 with
  | cons ra rw' =>
    rename_i u0 ur
    obtain rfl : u0 = Value.ref a := ra
    refine oinit_ok T I1 ea ?_ fun s' J => ⟨.non, H1, J, rfl, q⟩
    have := Paired.length rw'
    rw [sizeLine_eq]
    omega
end
/-! ### isinstance(e, c) of a caught exception of an own class, with or without fields -/
def exB (K : PySem.W.Frag) (D : Addr) : Bool := decide (PySem.W.findIn K (.ref D) "__getattribute__" = some (some (.builtin "BaseException.__getattribute__"))) && (decide (PySem.W.findIn K (.ref D) "__getattr__" = some none) &&
  (decide (PySem.W.subIn K (.ref D) (.type "BaseException") = some true) && (PySem.W.hasDictIn K D && (decide (PySem.W.findIn K (.ref D) "__class__" = some (some (.builtin "object.__class__"))) &&
  (decide (PySem.W.specialIn K (.builtin "object.__class__") "__get__" = some (some (.builtin "getset_descriptor.__get__"))) && (decide (PySem.W.takesIn K (.builtin "object.__class__") = some true) &&
  (decide (PySem.W.mroIn K D (.type "object") = some true) && (PySem.W.clsIn K D).isSome)))))))
/-- isinstance(e, c): e stands at a, its class is D, its dict d -/
def rIsX (K : PySem.W.Frag) (a : Addr) (cls : Value) (d : Option Addr) : List V → Hp → VK → Prop := fun xs H Q => ∃ (D : Addr) (c : V) (cv : Value) (b : Bool), cls = .ref D ∧ exB K D = true ∧ xs = [.ref a, c] ∧ (∀ u, RelV c u → u = cv) ∧
  PySem.W.kitOne K (.ref D) cv = some b ∧ (∀ dd, d = some dd → ∃ fs, H dd = some (.xd fs)) ∧ Q (.bl b) H
theorem call_isX {X : Cx} {a : Addr} {cls : Value} {d : Option Addr} {oe : Obj} {pn : List (Addr × Obj)} (hz : Zc cls d oe) (hf : ∃ vs, oe.data = .fields vs) : CallR (X.suite a ((a, oe) :: pn)) (.builtin "isinstance") (rIsX X.K a cls d) := by
  intro pins s σ H xs us Q I r h
  obtain ⟨D, c, cv, b, rfl, hD, rfl, hcv, e, hd, q⟩ := h
  unfold exB at hD
  simp only [Bool.and_eq_true, decide_eq_true_eq] at hD
  obtain ⟨g1, g2, g3, g4, g5, g6, g7, g8, g9⟩ := hD
  cases r with
  | cons rx rr =>
    cases rr with
    | cons rt rr =>
      cases rr
      cases rx
      have ec := hcv _ rt
      subst ec
      have hget := (I.pin (a, oe) (List.mem_append.mpr (.inl List.mem_cons_self))).1
      obtain ⟨vs, hv⟩ := hf
      obtain ⟨oc, od, oda, osl⟩ := oe
      obtain ⟨h1, h2⟩ := hz
      dsimp only at h1 h2 hv
      subst h1 h2 hv
      have J : ∃ oo, PySem.W.InstAt s.heap a ⟨.ref D, od, .fields vs, osl⟩ D oo := by
        cases od with
        | none => exact ⟨none, hget, rfl, rfl, trivial⟩
        | some dd =>
          obtain ⟨fs, hdd⟩ := hd dd rfl
          have hx : ObjOk X.prog X.w H s.heap dd (.xd fs) := I.hok dd _ hdd
          obtain ⟨mA, ⟨ob, es, ep, ho, hr⟩, _⟩ := hx
          exact ⟨some ob, hget, rfl, rfl, ho⟩
      obtain ⟨oo, J⟩ := J
      exact PySem.W.kia_one (PySem.W.kitx_exc g9 g1 g2 g3 g5 g6 g7 g8) I.kIn J e (fun z => nomatch z) fun tk => ⟨.bl b, H, I.kept (t' := tk) fun _ _ z => z, rfl, q⟩
/-! ### xs.count(y) of data -/
def rCountD (K : PySem.W.Frag) : V → List V → Hp → VK → Prop := fun x xs H Q => ∃ (a : Addr) (y : V) (d : PyData) (ds : List PyData), x = V.ref a ∧ xs = [y] ∧ Dp K H (V.ref a) (.list ds) ∧ Dp K H y d ∧
  SeqAt.shaped (.list ds) = true ∧ SeqAt.shaped d = true ∧ Q (.int (ds.countP (fun z => PyData.eqv z d) : Nat)) H
theorem mt_countD {X : Cx} (hu : X.A.units + 65 < cLine) : MtR X "list.count" (rCountD X.K) := by
  intro pins s σ H x xs v us Q I rx rxs h
  obtain ⟨a, y, d, ds, rfl, rfl, hl, hy, sl, sd, q⟩ := h
  cases rx
  cases rxs with
  | cons ry rt =>
    rename_i uy ut
    cases rt
    obtain ⟨bs, r1⟩ := Dp.reads I d y uy hy ry
    have lay : PyData.canLayAll0 ds = true := SeqAt.canLay_of_shaped sl
    cases hl with
    | lst hs ha =>
      obtain ⟨its, rv, ⟨⟨cls, dd, data, sls⟩, n, ho, hc, hdn, hdt⟩, hlen⟩ := I.list hs
      simp only at hc hdt
      subst hc hdt
      obtain ⟨as, h4⟩ := Dp.readsAll I ds _ its ha rv
      have em : its.map (SeqAt.readOf s.heap) = ds := SeqAt.readsAll_map ds its as lay h4
      refine call_meets PySem.F.slot_list_count ⟨_, ho, rfl⟩ PySem.F.entry_list_count (PySem.F.args_list_count_2 _ _)
        (SeqAt.list_countAt a its.toArray n dd sls uy (fun u => PyData.eqv (SeqAt.readOf s.heap u) d)) ⟨ho, SeqAt.items_eqAt (vs := its.toArray) (show ReadsAll s.heap its.toArray.toList ds as from h4) r1 lay (SeqAt.canLay_of_shaped sd) (room_in_shaped sd hu), ?_⟩
      have ec : its.toArray.toList.countP (fun u => PyData.eqv (SeqAt.readOf s.heap u) d) = ds.countP (fun z => PyData.eqv z d) := by
        rw [← em, List.countP_map]
        rfl
      rw [ec]
      exact ⟨.int (ds.countP (fun z => PyData.eqv z d) : Nat), H, I.tok _, ⟨_, rfl⟩, q⟩
end Rw
set_option maxHeartbeats 2000000
namespace Rw
open PySem PySem.Spec PyProof.Rows L2
/-! ### a lambda as a value: no parameter, or one with a written int as its default -/
inductive Df where
  | no
  | one (b : Str) (z : Int)
structure Lam where
  ps : Arguments
  body : Expr
  sc : Scope
  df : Df
/-- the lambda's object: its code object at c, its defaults dV -/
def FnO (X : Cx) (l : Lam) (f c : Addr) (dV : Value) : HO := .ext fun h => ∃ (pm doc ctv : Value), h.get? f = some (PySem.W.kdv_obj "<lambda>" (X.env.qual ++ "<lambda>") l.ps (.expr l.body) l.sc (cloFrom X.env.cells l.sc.names []) dV doc pm c ctv)
/-- its defaults -/
def DfAt (H : Hp) : Df → Value → Prop
  | .no, dV => dV = .none
  | .one _ z, dV => ∃ T, dV = .ref T ∧ H T = some (.tup [.int z])
/-- at f stands the lambda l, made in X -/
def LamAt (X : Cx) (l : Lam) (H : Hp) (f : Addr) : Prop := ∃ (c : Addr) (dV : Value), H f = some (FnO X l f c dV) ∧ H c = some (LamX.CodeO c (X.env.qual ++ "<lambda>")) ∧ DfAt H l.df dV
/-- what the making of a lambda does: the table at P grows, else things are new -/
structure Grow (P : Addr) (H H' : Hp) : Prop where
  keep : ∀ b o, H b = some o → b ≠ P → H' b = some o
  tr : ∀ b, H b ≠ none → H' b ≠ none
theorem Grow.refl {P : Addr} {H : Hp} : Grow P H H := ⟨fun _ _ h _ => h, fun _ h => h⟩
theorem Grow.trans {P : Addr} {H H1 H2 : Hp} (a : Grow P H H1) (b : Grow P H1 H2) : Grow P H H2 := ⟨fun c o h n => b.keep c o (a.keep c o h n) n, fun c h => b.tr c (a.tr c h)⟩
theorem Grow.new {P p : Addr} {H : Hp} {o : HO} (h : H p = none) : Grow P H (upd H p o) := ⟨fun b u e _ => by rw [upd_ne (ne_of_none e h)]; exact e, fun b e => by
  by_cases hb : b = p
  · rw [hb, upd_same]; simp
  · rw [upd_ne hb]; exact e⟩
theorem Grow.ext {P : Addr} {F H H' : Hp} (s : Same F H) (f : F P = none) (g : Grow P H H') : Ext (fun b => b = P) F H F H' :=
  ⟨Same.refl F, fun b o e => g.keep b o (s b o e) (ne_of_none e f), fun b o e m => g.keep b o e m, g.tr, fun _ _ => rfl⟩
section
variable {X : Cx} {pins : List (Addr × Obj)} {σ : L2.St} {H : Hp} {s : Shared}
theorem fnO_ok {l : Lam} {f c : Addr} {dV : Value} {h : Heap} (e : ∃ (pm doc ctv : Value), h.get? f = some (PySem.W.kdv_obj "<lambda>" (X.env.qual ++ "<lambda>") l.ps (.expr l.body) l.sc (cloFrom X.env.cells l.sc.names []) dV doc pm c ctv)) : ObjOk X.prog X.w H h f (FnO X l f c dV) := by
  obtain ⟨pm, doc, ctv, e⟩ := e
  exact ⟨⟨pm, doc, ctv, e⟩, ⟨_, e⟩, fun h1 h2 ⟨a, b, c, z⟩ k => ⟨a, b, c, k _ z⟩⟩
/-- the tail of the making: the defaults are known -/
theorem lam_tail {l : Lam} {c P : Addr} {dV : Value} {pos : Pos} {E : Value → Shared → Prop} {Q : Value → Shared → Prop} (I : Inv X pins σ H s) (TB : LamX.TabB X.base X.mg c P) (hcode : X.env.code = .ref c) (hT : LamX.TabS H P (X.env.qual ++ "<lambda>"))
    (hfree : ∀ y ∈ l.sc.names, y.2 = .free → ∃ c, X.env.cells.lookup y.1 = some c)
    (q : ∀ (f c' : Addr) (H1 : Hp) (s' : Shared), Inv X pins σ H1 s' → Grow P H H1 → LamX.TabS H1 P (X.env.qual ++ "<lambda>") → H f = none → H1 f = some (FnO X l f c' dV) → H1 c' = some (LamX.CodeO c' (X.env.qual ++ "<lambda>")) → Q (.ref f) s') :
    wpAny (model X.prog X.w) X.A (makeTail "<lambda>" (X.env.qual ++ "<lambda>") l.ps (.expr l.body) l.sc X.env dV .none none pos pos.line) Q E s := by
  obtain ⟨ps, hP, ht, ha⟩ := hT
  have bP : s.heap.BuiltinsAt X.mg P := TB.bm.keeps I.bk
  have hP' : s.heap.get? P = some { cls := .none, data := .fields ps } := I.hok P _ hP
  cases hc : codeAmong pos ps.toList with
  | none =>
    refine PySem.W.kdv_makeTail (mg := X.mg) (c := c) (P := P) (ps := ps) (closure_ok hfree) I.ok.glob (I.mod.glob.keeps I.bk) hcode (TB.code.keeps I.bk) hP' ht hc TB.gP bP ?_
    intro c' ctv doc h' tk hx hge hlt hrec htb
    obtain ⟨c2, oc, vs, t, e2, hoc, hd, hv⟩ := hrec
    cases e2
    have hsz : s.heap.objs.size ≤ h'.objs.size := Nat.le_trans hge (Nat.le_of_lt hlt)
    have nC : H c' = none := I.hok.fresh hge
    have nPc : P ≠ c' := ne_of_none hP nC
    have I1 := LamX.inv_table (t' := tk) (q := X.env.qual ++ "<lambda>") (more := #[rawInt pos.line, rawInt pos.col, .ref c']) (h' := h') I hP hx htb hge ⟨oc, vs, t, hoc, hd, hv⟩
    have g1 : Grow P H (upd (upd H P (.tbl (ps ++ #[rawInt pos.line, rawInt pos.col, .ref c']))) c' (LamX.CodeO c' (X.env.qual ++ "<lambda>"))) := by
      refine ⟨fun b o e n => by rw [upd_ne (ne_of_none e nC), upd_ne n]; exact e, fun b e => ?_⟩
      by_cases hb : b = c'
      · rw [hb, upd_same]; simp
      · rw [upd_ne hb]
        by_cases hb2 : b = P
        · rw [hb2, upd_same]; simp
        · rw [upd_ne hb2]; exact e
    have I2 := I1.laid (h' := h'.push (PySem.W.kdv_obj "<lambda>" (X.env.qual ++ "<lambda>") l.ps (.expr l.body) l.sc (cloFrom X.env.cells l.sc.names []) dV doc ((X.mg "__name__").getD .none) c' ctv)) (a := h'.objs.size) (o := FnO X l h'.objs.size c' dV) (t' := tk)
      (fun b u e => Heap.get?_push_of_some _ e) (Nat.le_refl _) (fnO_ok ⟨_, _, _, Heap.get?_push_size _ rfl⟩)
    have nf := I1.hok.fresh (Nat.le_refl h'.objs.size)
    have hcf : c' ≠ h'.objs.size := Nat.ne_of_lt hlt
    have hPf : P ≠ h'.objs.size := Nat.ne_of_lt (Nat.lt_of_lt_of_le (Heap.lt_size hP') hsz)
    refine q h'.objs.size c' _ _ I2 (g1.trans (Grow.new nf)) ⟨ps ++ #[rawInt pos.line, rawInt pos.col, .ref c'], ?_, ?_, fun p' cv hcv => ?_⟩ (I.hok.fresh hsz) upd_same ?_
    · rw [upd_ne hPf, upd_ne nPc, upd_same]
    · have eL : (ps ++ #[rawInt pos.line, rawInt pos.col, .ref c']).toList = ps.toList ++ [rawInt pos.line, rawInt pos.col, .ref c'] := by simp
      rw [eL]
      exact PySem.TriplesOk_snoc _ _ _ _ ht
    · have eL : (ps ++ #[rawInt pos.line, rawInt pos.col, .ref c']).toList = ps.toList ++ [rawInt pos.line, rawInt pos.col, .ref c'] := by simp
      rw [eL] at hcv
      rcases LamX.among_app _ ht hcv with z | z
      · obtain ⟨c0, e1, e2⟩ := ha p' cv z
        have n0 : c0 ≠ P := fun e => by
          rw [e, hP] at e2
          exact LamX.codeO_ne ps (Option.some.inj e2).symm
        exact ⟨c0, e1, (g1.trans (Grow.new nf)).keep _ _ e2 n0⟩
      · exact ⟨c', z, by rw [upd_ne hcf, upd_same]⟩
    · rw [upd_ne hcf, upd_same]
  | some cv =>
    obtain ⟨c', e, hco⟩ := ha pos cv hc
    subst e
    refine PySem.W.kdv_makeTailHit (mg := X.mg) (c := c) (P := P) (ps := ps) (closure_ok hfree) I.ok.glob (I.mod.glob.keeps I.bk) hcode (TB.code.keeps I.bk) hP' ht hc bP ?_
    intro ctv doc h' tk hx hsz
    have J : Inv X pins σ H { s with heap := h', toks := tk } := I.kept hx
    have nf := J.hok.fresh (Nat.le_refl h'.objs.size)
    have I2 := J.laid (h' := h'.push (PySem.W.kdv_obj "<lambda>" (X.env.qual ++ "<lambda>") l.ps (.expr l.body) l.sc (cloFrom X.env.cells l.sc.names []) dV doc ((X.mg "__name__").getD .none) c' ctv)) (a := h'.objs.size) (o := FnO X l h'.objs.size c' dV) (t' := tk)
      (fun b u e => Heap.get?_push_of_some _ e) (Nat.le_refl _) (fnO_ok ⟨_, _, _, Heap.get?_push_size _ rfl⟩)
    have tab : LamX.TabS (upd H h'.objs.size (FnO X l h'.objs.size c' dV)) P (X.env.qual ++ "<lambda>") := LamX.TabS.ext ⟨ps, hP, ht, ha⟩ (same_upd nf)
    exact q h'.objs.size c' _ _ I2 (Grow.new nf) tab nf upd_same (same_upd nf _ _ hco)
end
end Rw
namespace Rw
open PySem PySem.Spec PyProof.Rows L2
/-- the parameters say what the lambda's defaults are -/
def DfIs (l : Lam) : Prop := match l.df with
  | .no => l.ps.defaults = [] ∧ l.ps.kw_defaults = []
  | .one _ z => (∃ j p, l.ps.defaults = [.Constant (.int z) j p]) ∧ l.ps.kw_defaults = []
def tLamV (X : Cx) (P : Addr) (l : Lam) : TE := fun _ H Q => LamX.TabS H P (X.env.qual ++ "<lambda>") ∧ ∀ (f : Addr) (H1 : Hp), Grow P H H1 → LamX.TabS H1 P (X.env.qual ++ "<lambda>") → H f = none → LamAt X l H1 f → Q (.ref f) H1
theorem pe_lamV {X : Cx} {l : Lam} {c P : Addr} {ps : Arguments} {body : Expr} {sc : Scope} {pos : Pos} (e1 : l.ps = ps) (e2 : l.body = body) (e3 : l.sc = sc) (TB : LamX.TabB X.base X.mg c P) (hcode : X.env.code = .ref c)
    (hfree : ∀ y ∈ l.sc.names, y.2 = .free → X.env.scope.names.lookup y.1 = some .cell ∨ X.env.scope.names.lookup y.1 = some .free) (hdf : DfIs l) : PE X (.Lambda ps body sc pos) (tLamV X P l) := by
  subst e1 e2 e3
  constructor
  intro pins s σ H Q I h
  obtain ⟨hT, h⟩ := h
  have hfr : ∀ y ∈ l.sc.names, y.2 = .free → ∃ c, X.env.cells.lookup y.1 = some c := fun y hy e => (hfree y hy e).elim (fun k => I.ok.has _ (.inl k)) fun k => I.ok.has _ (.inr k)
  unfold DfIs at hdf
  cases hd : l.df with
  | no =>
    rw [hd] at hdf
    obtain ⟨d1, d2⟩ := hdf
    refine PySem.W.kla_eval ?_ ?_
    · rw [defaultsOf_eq, d1, d2]; rfl
    · rw [makeFunction_eq]
      simp only [List.zip_nil_right, List.filterMap_nil, List.isEmpty_nil, if_true, pure_bind]
      refine lam_tail I TB hcode hT hfr fun f c' H1 s' I1 g t hf e1 e2 => ⟨.ref f, H1, I1, rfl, h f H1 g t hf ⟨c', .none, e1, e2, ?_⟩⟩
      rw [hd]
      exact rfl
  | one b z =>
    rw [hd] at hdf
    obtain ⟨⟨j, p, d1⟩, d2⟩ := hdf
    refine PySem.W.kdv_lam ?_ d2 ?_
    · rw [d1]; rfl
    · rw [d1]
      refine PySem.W.kdv_all1 (thn ((pe_int (X := X) (i := z)).run pins s σ H (fun v H1 => v = .int z ∧ H1 = H) I ⟨rfl, rfl⟩) fun v0 s1 hv => ?_)
      obtain ⟨w1, H0, I1, r1, rfl, rfl⟩ := hv
      refine PySem.W.kdv_all0 ?_
      rw [makeFunction_eq]
      simp only [List.zip_nil_right, List.filterMap_nil, List.isEmpty_nil, if_true, pure_bind, List.isEmpty_cons, Bool.false_eq_true, if_false]
      refine wpAny_bind (wpAny_newTextTuple ?_)
      have hn : H0 s1.heap.objs.size = none := I1.hok.fresh (Nat.le_refl _)
      have I2 := I1.laid (h' := s1.heap.push { cls := .type "tuple", data := .seq [v0].toArray }) (a := s1.heap.objs.size) (o := .tup [.int z]) (t' := s1.toks) (fun b u e => Heap.get?_push_of_some _ e) (Nat.le_refl _)
        ⟨by show 1 ≤ sizeLine; rw [sizeLine_eq]; omega, [v0], .cons r1 .nil, ⟨_, Heap.get?_push_size _ rfl, rfl, _, rfl⟩⟩
      refine lam_tail I2 TB hcode (hT.ext (same_upd hn)) hfr fun f c' H1 s' I3 g t hf e1 e2 => ⟨.ref f, H1, I3, rfl, h f H1 ((Grow.new hn).trans g) t ?_ ⟨c', _, e1, e2, ?_⟩⟩
      · exact (same_upd hn).free hf
      · rw [hd]
        refine ⟨_, rfl, g.keep _ _ upd_same fun z => ?_⟩
        obtain ⟨ps, hp, _⟩ := hT
        rw [z, hp] at hn
        cases hn
end Rw
namespace Rw
open PySem PySem.Spec PyProof.Rows L2
/-- how the arguments of a call without any bind -/
def DfB (l : Lam) : Prop := match l.df with
  | .no => ∀ (q : Str) (cl : List (Str × Addr)) (doc pm cv ctv : Value), bindArgs (PySem.W.kdv_fn "<lambda>" q l.ps (.expr l.body) l.sc cl .none doc pm cv ctv) ⟨[], []⟩ = pure []
  | .one b _ => ∀ (q : Str) (cl : List (Str × Addr)) (T : Addr) (doc pm cv ctv : Value), ∃ k : Option (Array Value) → Sem (List (Str × Value)),
      bindArgs (PySem.W.kdv_fn "<lambda>" q l.ps (.expr l.body) l.sc cl (.ref T) doc pm cv ctv) ⟨[], []⟩ = seqItems? (.ref T) >>= k ∧ ∀ v, k (some #[v]) = pure [(b, v)]
def lamOkB (N : List Str) (sc : Scope) (l : Lam) : Bool := decide (l.sc.kind = .function) && (!l.sc.isCoroutine && (!l.sc.isGenerator && ((l.sc.names.all fun y => !decide (y.2 = .cell) && ((!decide (y.2 = .local) || !N.contains y.1) && (!decide (y.2 = .free) || (decide (sc.names.lookup y.1 = some .cell) || decide (sc.names.lookup y.1 = some .free))))) &&
  (match l.df with | .no => true | .one b _ => decide (l.sc.names.lookup b = some .local)))))
structure LamOk (N : List Str) (sc : Scope) (l : Lam) : Prop where
  kind : l.sc.kind = .function
  co : l.sc.isCoroutine = false
  gen : l.sc.isGenerator = false
  cell : ∀ y ∈ l.sc.names, y.2 ≠ .cell
  loc : ∀ y ∈ l.sc.names, y.2 = .local → y.1 ∉ N
  free : ∀ y ∈ l.sc.names, y.2 = .free → sc.names.lookup y.1 = some .cell ∨ sc.names.lookup y.1 = some .free
  par : match l.df with | .no => True | .one b _ => l.sc.names.lookup b = some .local
theorem lamOk_by {N : List Str} {sc : Scope} {l : Lam} (h : lamOkB N sc l = true) : LamOk N sc l := by
  unfold lamOkB at h
  simp only [Bool.and_eq_true, decide_eq_true_eq, List.all_eq_true, Bool.or_eq_true, Bool.not_eq_true', decide_eq_false_iff_not] at h
  obtain ⟨h1, h2, h3, h4, h5⟩ := h
  refine ⟨h1, h2, h3, fun y hy => (h4 y hy).1, fun y hy e z => ?_, fun y hy e => ?_, ?_⟩
  · rcases (h4 y hy).2.1 with q | q
    · exact q e
    · have := List.contains_iff_mem.mpr z
      rw [q] at this
      cases this
  · rcases (h4 y hy).2.2 with q | q
    · exact absurd e q
    · exact q
  · revert h5
    cases l.df with
    | no => exact fun _ => trivial
    | one b z => exact fun q => of_decide_eq_true q
/-- the lambda's frame -/
abbrev lEnv (X : Cx) (l : Lam) (L f c : Addr) : Env := PySem.W.envX (X.env.qual ++ "<lambda>") l.sc L f (.ref c) (cloFrom X.env.cells l.sc.names [])
/-- where the lambda's body stands, entered at s from the frames outer -/
def lCx (X : Cx) (A : Around) (outer : List Env) (s : Shared) (H : Hp) (E : XK) (l : Lam) (f c : Addr) : Cx where
  prog := X.prog
  w := X.w
  K := X.K
  mg := X.mg
  base := X.base
  A := A.deeper (lEnv X l s.heap.objs.size f c)
  N := X.N
  s_0 := s
  H_0 := H
  env := lEnv X l s.heap.objs.size f c
  outer := outer
  stack := lEnv X l s.heap.objs.size f c :: outer
  ex := []
  fn := fun _ => false
  calm := true
  pn := []
  xe := fun e t => wpAny (model X.prog X.w) (A.deeper (lEnv X l s.heap.objs.size f c)) (leaving (lEnv X l s.heap.objs.size f c) e) (fun _ u => L2.CX X.prog X.w outer H s E e u) (fun e' u => L2.CX X.prog X.w outer H s E e' u) t
section
variable {X : Cx} {pins : List (Addr × Obj)} {σ : L2.St} {H HZ : Hp} {s s1 : Shared}
theorem lam_in {A : Around} {outer : List Env} {E : XK} {l : Lam} {f c' : Addr} {h₁ : Heap} {tk : Nat} {bn : List (Str × Value)} (I : Inv X pins σ H s) (L : LamOk X.N X.env.scope l) (e0 : Env0 X.prog X.w X.K X.mg X.base A outer s1 HZ) (hd : A.handled = none)
    (un : Un (frs X.stack) [] H HZ s.heap s1.heap) (hns : h₁.Ns s1.heap.objs.size fun y => bn.reverse.lookup y) (kp : ∀ b o, s1.heap.get? b = some o → h₁.get? b = some o) :
    Inv (lCx X A outer s1 HZ E l f c') [] σ HZ { s1 with heap := h₁, toks := tk } := by
  have has : ∀ y ∈ l.sc.names, y.2 = .free → ∃ c, X.env.cells.lookup y.1 = some c := fun y hy e => (L.free y hy e).elim (fun k => I.ok.has _ (.inl k)) fun k => I.ok.has _ (.inr k)
  have cm : ∀ {y c}, (cloFrom X.env.cells l.sc.names []).lookup y = some c → X.env.cells.lookup y = some c := by
    intro y c e
    rcases cloFrom_mem (PySem.mem_of_lookup e) with hm | ⟨h1, h2⟩
    · cases hm
    · obtain ⟨c1, hc⟩ := has _ h1 rfl
      have hc' : X.env.cells.lookup y = some c1 := hc
      have e2 : c = c1 := by
        rw [h2, hc'] <;> rfl
      rw [e2]
      exact hc'
  have look : ∀ {y}, l.sc.names.lookup y = some .free → ∃ c, (cloFrom X.env.cells l.sc.names []).lookup y = some c := fun {y} hl => mem_lookup (cloFrom_has (cells := X.env.cells) (acc := []) (PySem.mem_of_lookup hl))
  have cellK : ∀ {c : Addr} {v : Option Value}, H c = none → s.heap.IsCell c v → h₁.IsCell c v := by
    rintro c v n ⟨o, ho, hd⟩
    obtain ⟨sl, q⟩ := un.any ho n (by simp)
    exact ⟨_, kp _ _ q, hd⟩
  have noA : ∀ b : Addr, b ∉ (lCx X A outer s1 HZ E l f c').ex := fun b z => absurd (show b ∈ ([] : List Addr) from z) (by simp)
  have ok : (lCx X A outer s1 HZ E l f c').Ok := by
    refine ⟨e0.mod, L.kind, rfl, rfl, Nat.le_refl _, fun y z c e1 e2 => I.ok.inj y z c (cm e1) (cm e2), ?_, fun y c z _ => ?_, fun _ => hd, Around.frames_deeper e0.frames, .inr ⟨rfl, rfl⟩, fun b z => absurd z (noA b), e0.bs, e0.bsz, fun b _ _ => noA b, fun b z => absurd z (noA b), e0.funs, e0.frf⟩
    · intro y hy
      rcases (show l.sc.names.lookup y = some .cell ∨ l.sc.names.lookup y = some .free from hy) with hy | hy
      · exact absurd rfl (L.cell _ (PySem.mem_of_lookup hy))
      · exact look hy
    · have z : false = true := z
      cases z
  refine ⟨ok, rfl, e0.bare, Un.kept kp, ⟨_, hns, fun i y v e1 e2 e3 => ?_⟩, fun y c e => ?_, e0.hok.fresh (Nat.le_refl _), fun y c e => ?_, fun q hq => absurd (show q ∈ ([] : List (Addr × Obj)) ++ [] from hq) (by simp), e0.hok.kept kp, I.len⟩
  · have e1' : X.N[i]? = some y := e1
    rcases (show Vis l.sc y from e3) with k | k | k
    · exact absurd (List.mem_of_getElem? e1') (L.loc _ (PySem.mem_of_lookup k) rfl)
    · exact absurd rfl (L.cell _ (PySem.mem_of_lookup k))
    · obtain ⟨m, hn, hl⟩ := I.loc
      have fr := L.free _ (PySem.mem_of_lookup k) rfl
      obtain ⟨w', r, q⟩ := hl i y v e1 e2 (fr.elim (fun k => .inr (.inl k)) fun k => .inr (.inr k))
      obtain ⟨c2, h2⟩ := look k
      refine ⟨w', r, .inr ⟨.inr k, c2, h2, ?_⟩⟩
      have c1 := cm h2
      rcases q with ⟨k', _⟩ | ⟨_, c3, e', z⟩
      · have k' : X.env.scope.names.lookup y = some .local := k'
        rcases fr with k2 | k2 <;> rw [show X.env.scope.names.lookup y = _ from k2] at k' <;> cases k'
      · rw [c1] at e'
        cases e'
        exact cellK (I.freeC y _ c1) z
  · obtain ⟨w', z⟩ := I.cell y c (cm e)
    exact ⟨w', cellK (I.freeC y c (cm e)) z⟩
  · obtain ⟨v, o, ho, hd⟩ := I.cell y c (cm e)
    exact un.free c o ho (I.freeC y c (cm e)) (by simp)
/-- x(), within a def that got the lambda and was entered at s -/
theorem pe_actV {CXg : CXT} {Eg : XK} {Ng : List Str} {qg : Str} {sg : Scope} {g : Addr} {cdg : Value} {k i : Nat} {a : Str} {pn : List (Addr × Obj)} {xe : Value → Shared → Prop} {W : WX} {E : XK} {p1 p2 : Pos} {LS : List Lam} {tb : Lam → TE}
    (I : Inv X pins σ H s) (tk : Takes ((cxOf CXg X.prog X.w X.K X.mg X.base Ng qg sg g cdg X.A X.stack s H Eg).tr pn xe) W) (hr : Room (k + 1) (X.A.deeper (envOfC qg sg s.heap.objs.size g cdg)))
    (L : ∀ l ∈ LS, LamOk X.N X.env.scope l ∧ DfB l ∧ ∀ (A : Around) (outer : List Env) (s : Shared) (H : Hp) (f c' : Addr), Room k (A.deeper (lEnv X l s.heap.objs.size f c')) → PE (lCx X A outer s H E l f c') l.body (tb l))
    (hN : Ng[i]? = some a) (hv : Vis sg a) (hd : (a == ("__debug__" : Str)) = false := by decide) (hcd : (a == ("__classdict__" : Str)) = false := by decide) :
    PE ((cxOf CXg X.prog X.w X.K X.mg X.base Ng qg sg g cdg X.A X.stack s H Eg).tr pn xe) (.Call (.Name a p1) [] [] p2)
      (fun σZ HZ Q => (∀ cls d H', E cls d H' → W cls d σZ H') ∧ ∃ l ∈ LS, ∃ f, σZ[i]? = some (some (.ref f)) ∧ LamAt X l HZ f ∧ tb l σ HZ Q) := by
  constructor
  intro pinsZ sZ σZ HZ Q IZ h
  obtain ⟨hW, l, hl, f, hs, ⟨c', dV, hfo, hc, hdv⟩, ht⟩ := h
  obtain ⟨Lo, Lb, hbody⟩ := L l hl
  refine wpAny_Call_Name_kw (thn ((pe_var (pos := p1) (i := i) hN hv hd hcd).run pinsZ sZ σZ HZ (fun v H1 => v = .ref f ∧ H1 = HZ) IZ ⟨.ref f, hs, rfl, rfl⟩) ?_)
  rintro u s1 ⟨v, H1, I1, r1, rfl, rfl⟩
  obtain rfl : u = Value.ref f := r1
  obtain ⟨⟨pm, doc, ctv, of1⟩, _, _⟩ := I1.hok f _ hfo
  refine PySem.W.callWith_F0 ⟨_, _, _, _, of1⟩ ?_
  have un : Un (frs X.stack) [] H H1 s.heap s1.heap := I1.base
  obtain ⟨⟨oc, vs, t, hoc, hdc, hvc⟩, _, _⟩ := I1.hok c' _ hc
  have hbind : ∃ bn, BindsTo s1 (PySem.W.kdv_fn "<lambda>" (X.env.qual ++ "<lambda>") l.ps (.expr l.body) l.sc (cloFrom X.env.cells l.sc.names []) dV doc pm (.ref c') ctv) ⟨[], []⟩ bn ∧ ∀ y ∈ bn, l.sc.names.lookup y.1 = some .local := by
    unfold DfB at Lb
    have par := Lo.par
    cases e : l.df with
    | no =>
      rw [e] at Lb hdv
      obtain rfl : dV = .none := hdv
      exact ⟨[], BindsTo.of_eq (Lb _ _ _ _ _ _), fun y hy => absurd hy (by simp)⟩
    | one b z =>
      rw [e] at Lb hdv par
      obtain ⟨T, rfl, hT⟩ := hdv
      obtain ⟨kk, k1, k2⟩ := Lb (X.env.qual ++ "<lambda>") (cloFrom X.env.cells l.sc.names []) T doc pm (.ref c') ctv
      obtain ⟨_, its, rv, ⟨⟨tc, td, tdata, tsl⟩, ho, htc, n, htd⟩⟩ := I1.hok T _ hT
      simp only at htc htd
      subst htc htd
      cases rv with
      | cons ra rest =>
        rename_i u0 us0
        cases rest
        exact ⟨[(b, u0)], BindsTo.of_defaults rfl ho rfl k1 (k2 u0), fun y hy => by rw [List.mem_singleton.mp hy]; exact par⟩
  obtain ⟨bn, hbn, hbl⟩ := hbind
  have rc : codeAny (model X.prog X.w) (X.A.deeper (envOfC qg sg s.heap.objs.size g cdg)) (.call (.ref f) ⟨[], []⟩) (CR (L2.CX X.prog X.w) (envOfC qg sg s.heap.objs.size g cdg :: X.stack) X.prog X.w H1 s1 Q E) s1 := by
    refine PySem.W.kla_callFunE hr.depth of1 rfl Lo.co Lo.gen rfl ⟨c', oc, vs, t, rfl, hoc, hdc, hvc⟩ (hbn _ _ _ _ ?_)
    refine wpAny_newFunctionEnv Lo.cell hbl (fun h₁ hns hsb => ⟨I1.nolimit.fresh _ hsb, ?_⟩) Lo.kind
    show codeAny _ _ (.expr l.body (lEnv X l s1.heap.objs.size f c')) _ _
    have kp : ∀ b o, s1.heap.get? b = some o → h₁.get? b = some o := fun b o e => hsb.extBut b o (Nat.ne_of_lt (Heap.lt_size e)) (Heap.get?_push_of_some _ e)
    have J := lam_in (A := X.A.deeper (envOfC qg sg s.heap.objs.size g cdg)) (outer := envOfC qg sg s.heap.objs.size g cdg :: X.stack) (E := E) (f := f) (c' := c') (tk := s1.toks + bn.length) I Lo I1.env0 hr.hd un hns kp
    refine PySem.W.kla_codeExpr (wpAny_mono ((hbody _ _ s1 H1 f c' (hr.deeper _)).run [] _ _ H1 Q J ht) ?_ fun e s' hq => hq)
    rintro v s' ⟨w', H', J', rv, q⟩
    exact ⟨w', H', J'.os, J'.bare, J'.base, J'.hok, rv, q⟩
  refine wpAny_call (codeAny_mono rc fun r s' hq => ?_)
  cases r with
  | error e => exact tk e s' (XE.of_call I1 (fun cls d H' h => hW cls d H' h) hq)
  | ok fl =>
    cases fl with
    | ret u => exact I1.after hq
    | next => exact False.elim hq
    | brk => exact False.elim hq
    | cont => exact False.elim hq
end
end Rw
set_option maxHeartbeats 2000000
namespace Rw
open PySem PySem.Spec PyProof.Rows L2
/-! ### the refusals' classes, by their names -/
def exN : List Str := ["BadStretches", "NoHouse", "BadCount", "BadDeed", "NoDeed", "BadText", "NotYet", "TooOld", "BadEvent"]
def exWs : List Str := ["stretches", "house", "count", "deed", "none", "text", "not yet", "old", "event"]
def exW (i : Nat) : Str := exWs.getD i ""
def exAddr (K : PySem.W.Frag) (x : Str) : Option Addr := match PySem.W.nsIn K mainGlobals x with
  | some (some (.ref C)) => some C
  | _ => none
def exD (K : PySem.W.Frag) : Addr := (exAddr K "DoneError").getD 0
def exC (K : PySem.W.Frag) (i : Nat) : Addr := (exAddr K (exN.getD i "")).getD 0
def exOneB (K : PySem.W.Frag) (C : Addr) : Bool := exB K C && (xfB K C && (decide (PySem.W.exmOne K (.ref C) (.ref (exD K)) = some true) && (decide (PySem.W.kitOne K (.ref C) (.type "ValueError") = some true) &&
  (decide (PySem.W.findIn K (.ref C) "at" = some none) && decide (PySem.W.findIn K (.ref C) "place" = some none)))))
def exAllB (K : PySem.W.Frag) : Bool := (exAddr K "DoneError").isSome && ((List.range 9).all fun i => (exAddr K (exN.getD i "")).isSome && (exOneB K (exC K i) &&
  (List.range 9).all fun j => decide (PySem.W.kitOne K (.ref (exC K i)) (.ref (exC K j)) = some (decide (i = j)))))
theorem exAddr_mg {K : PySem.W.Frag} {h : Heap} {mg : Str → Option Value} {x : Str} (X : K.In h) (G : h.Ns mainGlobals mg) (e : (exAddr K x).isSome = true) : mg x = some (.ref ((exAddr K x).getD 0)) := by
  unfold exAddr at e ⊢
  split at e
  · rename_i C q
    exact PySem.W.mg_of X G q
  · cases e
/-- what the head tells of the refusals -/
structure ToldC (K : PySem.W.Frag) (mg : Str → Option Value) : Prop where
  isinst : mg "isinstance" = none
  ve : mg "ValueError" = none
  gD : mg "DoneError" = some (.ref (exD K))
  all : exAllB K = true
  g : ∀ i, i < 9 → mg (exN.getD i "") = some (.ref (exC K i))
theorem toldC_mk {K : PySem.W.Frag} {h : Heap} {mg : Str → Option Value} (X : K.In h) (G : h.Ns mainGlobals mg) (a : exAllB K = true) (i : mg "isinstance" = none) (v : mg "ValueError" = none) : ToldC K mg := by
  have a' := a
  unfold exAllB at a'
  simp only [Bool.and_eq_true, List.all_eq_true, List.mem_range] at a'
  exact ⟨i, v, exAddr_mg X G a'.1, a, fun i hi => exAddr_mg X G (a'.2 i hi).1⟩
structure ExIs (K : PySem.W.Frag) (i : Nat) : Prop where
  b : exB K (exC K i) = true
  xf : XfC K (exC K i)
  m : PySem.W.exmOne K (.ref (exC K i)) (.ref (exD K)) = some true
  v : PySem.W.kitOne K (.ref (exC K i)) (.type "ValueError") = some true
  at_ : PySem.W.findIn K (.ref (exC K i)) "at" = some none
  pl : PySem.W.findIn K (.ref (exC K i)) "place" = some none
  k : ∀ j, j < 9 → PySem.W.kitOne K (.ref (exC K i)) (.ref (exC K j)) = some (decide (i = j))
theorem ToldC.is {K : PySem.W.Frag} {mg : Str → Option Value} (T : ToldC K mg) {i : Nat} (hi : i < 9) : ExIs K i := by
  have a' := T.all
  unfold exAllB exOneB at a'
  simp only [Bool.and_eq_true, List.all_eq_true, List.mem_range, decide_eq_true_eq] at a'
  obtain ⟨_, ⟨h1, h2, h3, h4, h5, h6⟩, h7⟩ := a'.2 i hi
  exact ⟨h1, xfB_ok h2, h3, h4, h5, h6, h7⟩
/-! ### told: what is wished of a refusal -/
def EW (K : PySem.W.Frag) (Q : VK) : XK := fun cls d H => ∃ i, i < 9 ∧ cls = .ref (exC K i) ∧ (∀ dd, d = some dd → ∃ fs, H dd = some (.xd fs)) ∧
  (if i = 0 ∨ i = 3 ∨ i = 8 then ∃ dd fs v, d = some dd ∧ H dd = some (.xd fs) ∧ fs.lookup ("at" : Str) = some v ∧ ∀ H' t, Same H H' → H t = none → H' t = some (.tup [.str (exW i), v]) → Q (.ref t) H'
   else if i = 5 then ∃ dd fs v, d = some dd ∧ H dd = some (.xd fs) ∧ fs.lookup ("place" : Str) = some v ∧ ∀ H' t, Same H H' → H t = none → H' t = some (.tup [.str (exW i), v]) → Q (.ref t) H'
   else ∀ H' t, Same H H' → H t = none → H' t = some (.tup [.str (exW i)]) → Q (.ref t) H')
def kindsD (i : Nat) : List PyData := (List.range 9).map fun j => .bool (decide (i = j))
theorem kinds_count : ∀ i : Nat, i < 9 → (kindsD i).countP (fun z => PyData.eqv z (.bool true)) = 1 := by
  intro i hi
  have h : ∀ i : Fin 9, (kindsD i.1).countP (fun z => PyData.eqv z (.bool true)) = 1 := by decide
  exact h ⟨i, hi⟩
theorem kinds_shaped : ∀ i : Nat, i < 9 → SeqAt.shaped (.list (kindsD i)) = true := by
  intro i hi
  have h : ∀ i : Fin 9, SeqAt.shaped (.list (kindsD i.1)) = true := by decide +kernel
  exact h ⟨i, hi⟩
theorem kinds_get {i m : Nat} (hm : m < 9) : (kindsD i)[m]? = some (.bool (decide (i = m))) := by
  unfold kindsD
  rw [List.getElem?_map, List.getElem?_range hm]
  rfl
theorem kinds_at : ∀ i : Nat, i < 9 → ∀ m, m < i → (kindsD i)[m]? = some (.bool false) := by
  intro i hi m hm
  rw [kinds_get (by omega), decide_eq_false (by omega)]
theorem kinds_hit : ∀ i : Nat, i < 9 → (kindsD i)[i]? = some (.bool true) := by
  intro i hi
  rw [kinds_get hi, decide_eq_true rfl]
theorem exW_at : ∀ i : Nat, i < 9 → (exWs.map V.str)[i]? = some (.str (exW i)) := by
  intro i hi
  have h : ∀ i : Fin 9, (exWs.map V.str)[i.1]? = some (.str (exW i.1)) := fun i => by
    match i with
    | ⟨0, _⟩ | ⟨1, _⟩ | ⟨2, _⟩ | ⟨3, _⟩ | ⟨4, _⟩ | ⟨5, _⟩ | ⟨6, _⟩ | ⟨7, _⟩ | ⟨8, _⟩ => rfl
  exact h ⟨i, hi⟩
theorem exW_in : ∀ i : Nat, i < 9 → inV (.str (exW i)) [.str "stretches", .str "deed", .str "event"] = decide (i = 0 ∨ i = 3 ∨ i = 8) := by
  intro i hi
  have h : ∀ i : Fin 9, inV (.str (exW i.1)) [.str "stretches", .str "deed", .str "event"] = decide (i.1 = 0 ∨ i.1 = 3 ∨ i.1 = 8) := by decide
  exact h ⟨i, hi⟩
theorem exW_text : ∀ i : Nat, i < 9 → decide ((V.str (exW i)) = V.str "text") = decide (i = 5) := by
  intro i hi
  have h : ∀ i : Fin 9, decide ((V.str (exW i.1)) = V.str "text") = decide (i.1 = 5) := by decide
  exact h ⟨i, hi⟩
end Rw
set_option maxHeartbeats 4000000
namespace Rw
open PySem PySem.Spec PyProof.Rows L2
theorem bt_ve : bootBuiltins "ValueError" = some (.type "ValueError") := by decide +kernel
theorem dp_bools {K : PySem.W.Frag} {H : Hp} : ∀ bs : List Bool, DpAll K H (bs.map V.bl) (bs.map PyData.bool)
  | [] => .nil
  | b :: bs => .cons (.bl b) (dp_bools bs)
theorem suite_ok {P : Program} {w : World} {K : PySem.W.Frag} {mg : Str → Option Value} {base : Heap} {g : Addr} {cdg : Value} {A : Around} {outer : List Env} {s : Shared} {H0 : Hp} {a : Addr} {oe : Obj} {cls : Value} {d : Option Addr} {pn : List (Addr × Obj)} {k : Nat}
    (T : ToldC K mg) (hr : Room k (A.deeper (envOfC "_law_told" (defScope s_law_told) s.heap.objs.size g cdg))) (hz : Zc cls d oe) (hf : ∃ vs, oe.data = .fields vs) :
    ∃ st b0 np p1 p2 p3 p4 bt, defBody s_law_told = [.Try [.Return (some (.Call (.Name "_law_work" p1) [] [] p2)) p3] [.ExceptHandler (some (.Name "DoneError" np)) (some "e") (b0 :: st) p4] [] [] bt] ∧
    PSs ((cxOf CX0 P w K mg base ["_law_work", "e", "_law_kinds", "_law_words", "_law_word"] "_law_told" (defScope s_law_told) g cdg A outer s H0 E0).nox.suite a ((a, oe) :: pn)) (b0 :: st)
      (fun D σ H => (∃ x0 y2 y3 y4, σ = [x0, some (.ref a), y2, y3, y4]) ∧ EW K D.rt cls d H) := by
  refine ⟨_, _, _, _, _, _, _, _, rfl, ⟨fun pins s' σ H D I h => ?_⟩⟩
  obtain ⟨⟨x0, y2, y3, y4, rfl⟩, i, hi, rfl, hd, hw⟩ := h
  have X := T.is hi
  have hu : ((cxOf CX0 P w K mg base ["_law_work", "e", "_law_kinds", "_law_words", "_law_word"] "_law_told" (defScope s_law_told) g cdg A outer s H0 E0).nox.suite a ((a, oe) :: pn)).A.units + 65 < cLine := by
    have := hr.un
    show (A.deeper (envOfC "_law_told" (defScope s_law_told) s.heap.objs.size g cdg)).units + 65 < _
    omega
  have nd : (["_law_work", "e", "_law_kinds", "_law_words", "_law_word"] : List Str).Nodup := sc_law_told.nd
  have g0 : mg "BadStretches" = some (.ref (exC K 0)) := T.g 0 (by decide)
  have g1 : mg "NoHouse" = some (.ref (exC K 1)) := T.g 1 (by decide)
  have g2 : mg "BadCount" = some (.ref (exC K 2)) := T.g 2 (by decide)
  have g3 : mg "BadDeed" = some (.ref (exC K 3)) := T.g 3 (by decide)
  have g4 : mg "NoDeed" = some (.ref (exC K 4)) := T.g 4 (by decide)
  have g5 : mg "BadText" = some (.ref (exC K 5)) := T.g 5 (by decide)
  have g6 : mg "NotYet" = some (.ref (exC K 6)) := T.g 6 (by decide)
  have g7 : mg "TooOld" = some (.ref (exC K 7)) := T.g 7 (by decide)
  have g8 : mg "BadEvent" = some (.ref (exC K 8)) := T.g 8 (by decide)
  have hdm : ∀ {H' : Hp}, Same H H' → ∀ dd, d = some dd → ∃ fs, H' dd = some (.xd fs) := fun sm dd e => (hd dd e).imp fun fs z => sm _ _ z
  refine (pss_cons (ps_set (i := 2) nd rfl (.inl rfl) (pe_lst (pa_cons (pe_callB (call_isX hz hf) (by rfl) T.isinst (by decide +kernel) (pa_cons (pv 1) (pa_cons (pe_glob (v := .ref (exC K 0)) (by rfl) g0 rfl) pa_nil)))
      (pa_cons (pe_callB (call_isX hz hf) (by rfl) T.isinst (by decide +kernel) (pa_cons (pv 1) (pa_cons (pe_glob (v := .ref (exC K 1)) (by rfl) g1 rfl) pa_nil)))
      (pa_cons (pe_callB (call_isX hz hf) (by rfl) T.isinst (by decide +kernel) (pa_cons (pv 1) (pa_cons (pe_glob (v := .ref (exC K 2)) (by rfl) g2 rfl) pa_nil)))
      (pa_cons (pe_callB (call_isX hz hf) (by rfl) T.isinst (by decide +kernel) (pa_cons (pv 1) (pa_cons (pe_glob (v := .ref (exC K 3)) (by rfl) g3 rfl) pa_nil))) pa_nil))))))
    (pss_cons (ps_set (i := 2) nd rfl (.inl rfl) (pe_op op_cat (pv 2) (pe_lst (pa_cons (pe_callB (call_isX hz hf) (by rfl) T.isinst (by decide +kernel) (pa_cons (pv 1) (pa_cons (pe_glob (v := .ref (exC K 4)) (by rfl) g4 rfl) pa_nil)))
      (pa_cons (pe_callB (call_isX hz hf) (by rfl) T.isinst (by decide +kernel) (pa_cons (pv 1) (pa_cons (pe_glob (v := .ref (exC K 5)) (by rfl) g5 rfl) pa_nil)))
      (pa_cons (pe_callB (call_isX hz hf) (by rfl) T.isinst (by decide +kernel) (pa_cons (pv 1) (pa_cons (pe_glob (v := .ref (exC K 6)) (by rfl) g6 rfl) pa_nil)))
      (pa_cons (pe_callB (call_isX hz hf) (by rfl) T.isinst (by decide +kernel) (pa_cons (pv 1) (pa_cons (pe_glob (v := .ref (exC K 7)) (by rfl) g7 rfl) pa_nil))) pa_nil)))))))
    (pss_cons (ps_expr (pe_bm PySem.F.plainAttrs_list PySem.F.slot_list_append PySem.F.type_list_append mt_append (pv 2) (pa_cons (pe_callB (call_isX hz hf) (by rfl) T.isinst (by decide +kernel) (pa_cons (pv 1) (pa_cons (pe_glob (v := .ref (exC K 8)) (by rfl) g8 rfl) pa_nil))) pa_nil)))
    (pss_cons (ps_set (i := 3) nd rfl (.inl rfl) (pe_lst (pa_cons pe_str (pa_cons pe_str (pa_cons pe_str (pa_cons pe_str (pa_cons pe_str (pa_cons pe_str (pa_cons pe_str (pa_cons pe_str (pa_cons pe_str pa_nil)))))))))))
    (pss_cons (ps_if (PW.pt (pw_or (pt_cmpR op_ne (pe_bm PySem.F.plainAttrs_list PySem.F.slot_list_count PySem.F.type_list_count (mt_countD hu) (pv 2) (pa_cons pe_bl pa_nil)) pe_int (nomark _))
        (pw_or1 (pt_not (pt_val (pe_callB (call_isX hz hf) (by rfl) T.isinst (by decide +kernel) (pa_cons (pv 1) (pa_cons (pe_bty (by rfl) T.ve bt_ve) pa_nil)))))))) (pss_one (ps_ret (pe_tup (pa_cons pe_str pa_nil)))) pss_nil)
    (pss_cons (ps_set (i := 4) nd rfl (.inl rfl) (pe_ix ix_list (pv 3) (pe_bm PySem.F.plainAttrs_list PySem.F.slot_list_index PySem.F.type_list_index (mt_indexD hu) (pv 2) (pa_cons pe_bl pa_nil)) (fun _ _ => rfl)))
    (pss_cons (ps_if (pt_cmpR op_in_seq (pv 4) (pe_tup (pa_cons pe_str (pa_cons pe_str (pa_cons pe_str pa_nil)))) (by rfl)) (pss_one (ps_ret (pe_tup (pa_cons (pv 4) (pa_cons (pe_xf X.xf X.at_ hz hf (pv 1)) pa_nil))))) pss_nil)
    (pss_one (ps_ret (pe_ifExp (pt_cmpR op_eq (pv 4) pe_str (nomark _)) (pe_tup (pa_cons (pv 4) (pa_cons (pe_xf X.xf X.pl hz hf (pv 1)) pa_nil))) (pe_tup (pa_cons (pv 4) pa_nil)))))))))))).run pins s' _ H D I ?_
  refine ⟨_, rfl, exC K i, .ref (exC K 0), .ref (exC K 0), _, rfl, X.b, rfl, fun u r => r, X.k 0 (by decide), hdm (Same.refl H), _, rfl, exC K i, .ref (exC K 1), .ref (exC K 1), _, rfl, X.b, rfl, fun u r => r, X.k 1 (by decide), hdm (Same.refl H), _, rfl, exC K i, .ref (exC K 2), .ref (exC K 2), _, rfl, X.b, rfl, fun u r => r, X.k 2 (by decide), hdm (Same.refl H), _, rfl, exC K i, .ref (exC K 3), .ref (exC K 3), _, rfl, X.b, rfl, fun u r => r, X.k 3 (by decide), hdm (Same.refl H), by show 4 ≤ sizeLine; decide, fun l nl => ?_⟩
  have s1 : Same H (upd H l (.lst [.bl (decide (i = 0)), .bl (decide (i = 1)), .bl (decide (i = 2)), .bl (decide (i = 3))])) := same_upd nl
  have h1 : upd H l (.lst [.bl (decide (i = 0)), .bl (decide (i = 1)), .bl (decide (i = 2)), .bl (decide (i = 3))]) l = some (.lst [.bl (decide (i = 0)), .bl (decide (i = 1)), .bl (decide (i = 2)), .bl (decide (i = 3))]) := upd_same
  revert s1 h1
  generalize upd H l (.lst [V.bl (decide (i = 0)), .bl (decide (i = 1)), .bl (decide (i = 2)), .bl (decide (i = 3))]) = H1
  intro s1 h1
  refine ⟨_, rfl, _, rfl, exC K i, .ref (exC K 4), .ref (exC K 4), _, rfl, X.b, rfl, fun u r => r, X.k 4 (by decide), hdm s1, _, rfl, exC K i, .ref (exC K 5), .ref (exC K 5), _, rfl, X.b, rfl, fun u r => r, X.k 5 (by decide), hdm s1, _, rfl, exC K i, .ref (exC K 6), .ref (exC K 6), _, rfl, X.b, rfl, fun u r => r, X.k 6 (by decide), hdm s1, _, rfl, exC K i, .ref (exC K 7), .ref (exC K 7), _, rfl, X.b, rfl, fun u r => r, X.k 7 (by decide), hdm s1, by show 4 ≤ sizeLine; decide, fun l2 nl2 => ?_⟩
  refine ⟨l, l2, _, _, rfl, rfl, same_upd nl2 _ _ h1, upd_same, by show 4 + 4 ≤ sizeLine; decide, fun l3 nl3 => ?_⟩
  have s3 : Same H (upd (upd H1 l2 (.lst [.bl (decide (i = 4)), .bl (decide (i = 5)), .bl (decide (i = 6)), .bl (decide (i = 7))])) l3 (.lst ([.bl (decide (i = 0)), .bl (decide (i = 1)), .bl (decide (i = 2)), .bl (decide (i = 3))] ++ [.bl (decide (i = 4)), .bl (decide (i = 5)), .bl (decide (i = 6)), .bl (decide (i = 7))]))) := (s1.trans (same_upd nl2)).trans (same_upd nl3)
  have n3 : H l3 = none := (s1.trans (same_upd nl2)).free nl3
  have h3 : upd (upd H1 l2 (.lst [.bl (decide (i = 4)), .bl (decide (i = 5)), .bl (decide (i = 6)), .bl (decide (i = 7))])) l3 (.lst ([.bl (decide (i = 0)), .bl (decide (i = 1)), .bl (decide (i = 2)), .bl (decide (i = 3))] ++ [.bl (decide (i = 4)), .bl (decide (i = 5)), .bl (decide (i = 6)), .bl (decide (i = 7))])) l3 = some (.lst ([.bl (decide (i = 0)), .bl (decide (i = 1)), .bl (decide (i = 2)), .bl (decide (i = 3))] ++ [.bl (decide (i = 4)), .bl (decide (i = 5)), .bl (decide (i = 6)), .bl (decide (i = 7))])) := upd_same
  revert s3 h3
  generalize upd (upd H1 l2 (.lst [V.bl (decide (i = 4)), .bl (decide (i = 5)), .bl (decide (i = 6)), .bl (decide (i = 7))])) l3 (.lst ([V.bl (decide (i = 0)), .bl (decide (i = 1)), .bl (decide (i = 2)), .bl (decide (i = 3))] ++ [V.bl (decide (i = 4)), .bl (decide (i = 5)), .bl (decide (i = 6)), .bl (decide (i = 7))])) = H3
  intro s3 h3
  refine ⟨_, rfl, .inl ⟨rfl, _, SqL.of h3⟩, _, rfl, exC K i, .ref (exC K 8), .ref (exC K 8), _, rfl, X.b, rfl, fun u r => r, X.k 8 (by decide), hdm s3, l3, _, _, rfl, rfl, h3, by show 8 < sizeLine; decide, ?_⟩
  have s4 : Same H (upd H3 l3 (.lst ([.bl (decide (i = 0)), .bl (decide (i = 1)), .bl (decide (i = 2)), .bl (decide (i = 3))] ++ [.bl (decide (i = 4)), .bl (decide (i = 5)), .bl (decide (i = 6)), .bl (decide (i = 7))] ++ [.bl (decide (i = 8))]))) := fun b o e => by
    rw [upd_ne (ne_of_none e n3)]
    exact s3 _ _ e
  have h4 : upd H3 l3 (.lst ([.bl (decide (i = 0)), .bl (decide (i = 1)), .bl (decide (i = 2)), .bl (decide (i = 3))] ++ [.bl (decide (i = 4)), .bl (decide (i = 5)), .bl (decide (i = 6)), .bl (decide (i = 7))] ++ [.bl (decide (i = 8))])) l3 = some (.lst (((List.range 9).map fun j => decide (i = j)).map V.bl)) := upd_same
  revert s4 h4
  generalize upd H3 l3 (.lst ([V.bl (decide (i = 0)), .bl (decide (i = 1)), .bl (decide (i = 2)), .bl (decide (i = 3))] ++ [V.bl (decide (i = 4)), .bl (decide (i = 5)), .bl (decide (i = 6)), .bl (decide (i = 7))] ++ [V.bl (decide (i = 8))])) = H4
  intro s4 h4
  refine ⟨by show 9 ≤ sizeLine; decide, fun lw nlw => ?_⟩
  have s5 : Same H (upd H4 lw (.lst [V.str "stretches", .str "house", .str "count", .str "deed", .str "none", .str "text", .str "not yet", .str "old", .str "event"])) := s4.trans (same_upd nlw)
  have h5 : upd H4 lw (.lst [V.str "stretches", .str "house", .str "count", .str "deed", .str "none", .str "text", .str "not yet", .str "old", .str "event"]) l3 = _ := same_upd nlw _ _ h4
  have hw5 : upd H4 lw (.lst [V.str "stretches", .str "house", .str "count", .str "deed", .str "none", .str "text", .str "not yet", .str "old", .str "event"]) lw = some (.lst (exWs.map V.str)) := upd_same
  revert s5 h5 hw5
  generalize upd H4 lw (.lst [V.str "stretches", .str "house", .str "count", .str "deed", .str "none", .str "text", .str "not yet", .str "old", .str "event"]) = H5
  intro s5 h5 hw5
  clear s1 h1 s3 h3 s4 h4 nl nl2 nl3 nlw n3
  have hL : Dp K H5 (V.ref l3) (.list (kindsD i)) := .lst (SqL.of h5) (by
    have := dp_bools (K := K) (H := H5) ((List.range 9).map fun j => decide (i = j))
    rw [List.map_map (l := List.range 9) (g := PyData.bool)] at this
    exact this)
  refine ⟨_, rfl, .inl ⟨rfl, _, SqL.of h5⟩, l3, .bl true, .bool true, kindsD i, rfl, rfl, hL, .bl true, kinds_shaped i hi, by decide +kernel, ?_⟩
  rw [kinds_count i hi]
  refine ⟨rfl, false, rfl, iteF ?_⟩
  refine ⟨_, rfl, exC K i, .ty "ValueError", .type "ValueError", _, rfl, X.b, rfl, fun u r => r, X.v, hdm s5, true, rfl, iteF ?_⟩
  refine ⟨_, rfl, _, rfl, .inl ⟨rfl, _, SqL.of h5⟩, l3, .bl true, .bool true, kindsD i, i, .bool true, rfl, rfl, hL, .bl true, kinds_shaped i hi, by decide +kernel, kinds_hit i hi, rfl, fun m z hm e => ?_, ?_⟩
  · rw [kinds_at i hi m hm] at e
    cases e
    rfl
  refine ⟨lw, _, _, _, rfl, rfl, SqL.of hw5, atI_nat (exW_at i hi), ?_⟩
  refine ⟨_, rfl, by show 3 ≤ sizeLine; decide, fun p np => ⟨p, _, rfl, .inr (SqT.of upd_same), rfl, rfl, ?_⟩⟩
  have s6 : Same H (upd H5 p (.tup [.str "stretches", .str "deed", .str "event"])) := s5.trans (same_upd np)
  revert s6
  generalize upd H5 p (.tup [V.str "stretches", .str "deed", .str "event"]) = H6
  intro s6
  rw [if_neg Bool.false_ne_true, exW_in i hi]
  by_cases c1 : i = 0 ∨ i = 3 ∨ i = 8
  · rw [if_pos c1] at hw
    obtain ⟨dd, fs, v, hdd, hfs, hl, q⟩ := hw
    refine ⟨true, by rw [decide_eq_true c1], iteT ?_⟩
    refine ⟨_, rfl, _, rfl, rfl, rfl, dd, fs, v, hdd, s6 _ _ hfs, hl, by show 2 ≤ sizeLine; decide, fun t nt => ?_⟩
    exact q _ t (s6.trans (same_upd nt)) (s6.free nt) upd_same
  · rw [if_neg c1] at hw
    refine ⟨false, by rw [decide_eq_false c1], iteF ?_⟩
    refine ⟨_, rfl, rfl, _, rfl, ?_⟩
    rw [exW_text i hi]
    by_cases c2 : i = 5
    · rw [if_pos c2] at hw
      obtain ⟨dd, fs, v, hdd, hfs, hl, q⟩ := hw
      rw [decide_eq_true c2]
      refine iteT ⟨_, rfl, _, rfl, rfl, rfl, dd, fs, v, hdd, s6 _ _ hfs, hl, by show 2 ≤ sizeLine; decide, fun t nt => ?_⟩
      exact q _ t (s6.trans (same_upd nt)) (s6.free nt) upd_same
    · rw [if_neg c2] at hw
      rw [decide_eq_false c2]
      refine iteF ⟨_, rfl, by show 1 ≤ sizeLine; decide, fun t nt => ?_⟩
      exact hw _ t (s6.trans (same_upd nt)) (s6.free nt) upd_same
end Rw
set_option maxHeartbeats 2000000
namespace Rw
open PySem PySem.Spec PyProof.Rows L2
/-- _law_told(e): e gives one of the lambdas LS, made in X -/
def tTold (X : Cx) (LS : List Lam) (tb : XK → Lam → TE) (te : TE) : TE := fun σ H Q => te σ H fun v H1 => ∃ l ∈ LS, ∃ f, v = .ref f ∧ LamAt X l H1 f ∧ tb (EW X.K Q) l σ H1 Q
theorem pe_told {X : Cx} {e : Expr} {te : TE} {LS : List Lam} {tb : XK → Lam → TE} {k : Nat} {g : Addr} {fd : FuncData} {p pos : Pos} (T : ToldC X.K X.mg) (F : Fun X.K "_law_told" "_law_told" s_law_told g fd) (hg : Gl X "_law_told") (hm : X.mg "_law_told" = some (.ref g))
    (hr : Room (k + 2) X.A) (he : PE X e te)
    (L : ∀ l ∈ LS, LamOk X.N X.env.scope l ∧ DfB l ∧ ∀ (E : XK) (A : Around) (outer : List Env) (s : Shared) (H : Hp) (f c' : Addr), Room k (A.deeper (lEnv X l s.heap.objs.size f c')) → PE (lCx X A outer s H E l f c') l.body (tb E l))
    (h1 : starEach [e] X.env = (false, eval e X.env) :: starEach [] X.env := by rfl) (h2 : (backTo pos (starEach [] X.env)).any (·.1) = false := by rfl) :
    PE X (.Call (.Name "_law_told" p) [e] [] pos) (tTold X LS tb te) := by
  constructor
  intro pins s σ H Q I h
  obtain ⟨oc, od, kV, doc, pm, an, cdv, ct, osl, rfl, lk, hcd⟩ := id F.ex
  have hb : Binds X.K (PySem.W.fnOf "_law_told" "_law_told" (defArgs s_law_told) (defBody s_law_told) (defScope s_law_told) .none kV doc pm an cdv ct) ["_law_work"] [] := F.binds fun _ _ _ _ _ _ us hl => match us, hl with | [_], _ => rfl
  refine wpAny_Call_Name_kw (ld_glob I hg hm ?_)
  refine PySem.W.callWith_K (h₀ := X.base) I.ok.mod.kin F.kp (thn ((pa_cons he pa_nil h1).run pos pins s σ H (fun vs H1 => ∃ v, vs = [v] ∧ ∃ l ∈ LS, ∃ f, v = .ref f ∧ LamAt X l H1 f ∧ tb (EW X.K Q) l σ H1 Q) I ?_) ?_) h1 h2
  · show te σ H fun v H1 => ∃ v', [v] = [v'] ∧ _
    have e0 : (fun (v : V) (H1 : Hp) => ∃ v', [v] = [v'] ∧ ∃ l ∈ LS, ∃ f, v' = .ref f ∧ LamAt X l H1 f ∧ tb (EW X.K Q) l σ H1 Q) = fun v H1 => ∃ l ∈ LS, ∃ f, v = .ref f ∧ LamAt X l H1 f ∧ tb (EW X.K Q) l σ H1 Q := by
      funext v H1
      exact propext ⟨fun ⟨v', e, z⟩ => by cases e; exact z, fun z => ⟨v, rfl, z⟩⟩
    rw [e0]
    exact h
  rintro us s1 ⟨vs, H1, I1, r, v, rfl, l, hl, f, rfl, hla, q⟩
  refine ⟨I1.kIn, ?_⟩
  have rc : codeAny (model X.prog X.w) X.A (.call (.ref g) ⟨us, []⟩) (CR CX0 X.stack X.prog X.w H1 s1 Q E0) s1 := by
    refine LamX.run_ofS (N := ["_law_work", "e", "_law_kinds", "_law_words", "_law_word"]) (ps := ["_law_work"]) (us := us) (vs := [.ref f]) lk hcd sc_law_told hr I1.env0 ?_ r rfl fun hr' => ?_
    · have := hb s1 us I1.kIn (by rw [List.append_nil, ← r.length]; rfl)
      rwa [List.append_nil] at this
    · refine ⟨_, (pss_one (ps_try_as (X := (cxOf CX0 X.prog X.w X.K X.mg X.base ["_law_work", "e", "_law_kinds", "_law_words", "_law_word"] "_law_told" (defScope s_law_told) g cdv X.A X.stack s1 H1 E0).nox) (i := 1) (x := "DoneError") (n := "e") (c := .ref (exD X.K))
        (tb := fun W D σ' H' => (∀ cls d H'', EW X.K Q cls d H'' → W cls d σ' H'') ∧ ∃ l ∈ LS, ∃ f, σ'[0]? = some (some (.ref f)) ∧ LamAt X l H' f ∧ tb (EW X.K Q) l σ H' D.rt)
        (ts := fun a cls d D σ' H' => (∃ x0 y2 y3 y4, σ' = [x0, some (.ref a), y2, y3, y4]) ∧ EW X.K D.rt cls d H')
        rfl rfl sc_law_told.nd rfl rfl ⟨rfl, by decide, .inl T.gD⟩ takes0 (fun W pn xe tk _ => ?body) (fun a oe cls d pn hz hf => ?suite))).nox, ?read⟩
      case body =>
        exact pss_one (ps_ret (pe_actV (CXg := CX0) (Eg := E0) (Ng := ["_law_work", "e", "_law_kinds", "_law_words", "_law_word"]) (qg := "_law_told") (sg := defScope s_law_told) (g := g) (cdg := cdv) (k := k) (i := 0) (a := "_law_work") (pn := pn) (xe := xe) (W := W) (E := EW X.K Q) (LS := LS) (tb := tb (EW X.K Q)) I1 tk hr'
          (fun l hl => ⟨(L l hl).1, (L l hl).2.1, (L l hl).2.2 _⟩) rfl (.inl rfl)))
      case suite =>
        obtain ⟨st', b0', np', p1', p2', p3', p4', bt', eb', hs⟩ := suite_ok (P := X.prog) (w := X.w) (base := X.base) (g := g) (cdg := cdv) (A := X.A) (outer := X.stack) (s := s1) (H0 := H1) (pn := pn) T hr' hz hf
        cases eb'
        exact hs
      case read =>
        refine ⟨fun cls d H'' ew => ?_, l, hl, f, rfl, hla, q⟩
        obtain ⟨i, hi, ec, z⟩ := id ew
        refine ⟨true, by rw [ec]; exact (T.is hi).m, fun _ a na => ⟨⟨_, _, _, _, rfl⟩, ?_⟩, fun z => by cases z⟩
        exact ew
  refine wpAny_call (codeAny_mono rc fun r s2 hq => ?_)
  cases r with
  | error e => exact (show False from hq).elim
  | ok fl =>
    cases fl with
    | ret u => exact I1.after hq
    | next => exact False.elim hq
    | brk => exact False.elim hq
    | cont => exact False.elim hq
end Rw
namespace Rw
open PySem PySem.Spec PyProof.Rows L2
/-! ### rows that may be none: triples of ints -/
instance (r : Row) : Decidable (RowOk r) := by unfold RowOk; infer_instance
def badAt (rs : List Row) : Option Nat := rs.findIdx? fun r => !decide (RowOk r)
theorem badAt_none {rs : List Row} : badAt rs = none ↔ ∀ r ∈ rs, RowOk r := by
  unfold badAt
  rw [List.findIdx?_eq_none_iff]
  constructor
  · intro h r hr
    have := h r hr
    simpa using this
  · intro h r hr
    simpa using h r hr
theorem badAt_some {rs : List Row} {i : Nat} {r : Row} (h1 : ∀ j s, j < i → rs[j]? = some s → RowOk s) (h2 : rs[i]? = some r) (h3 : ¬ RowOk r) : badAt rs = some i := by
  unfold badAt
  rw [List.findIdx?_eq_some_iff_getElem]
  obtain ⟨hi, e⟩ := List.getElem?_eq_some_iff.mp h2
  refine ⟨hi, by rw [e]; simpa using h3, fun j hj => ?_⟩
  have := h1 j _ hj (List.getElem?_eq_getElem (by omega))
  simpa using this
theorem badAt_lt {rs : List Row} {i : Nat} (h : badAt rs = some i) : i < rs.length := by
  unfold badAt at h
  rw [List.findIdx?_eq_some_iff_getElem] at h
  exact h.1
def wrongV (rs : List Row) : V := match badAt rs with
  | none => .non
  | some i => .int i
def spIsRowX : Sp := fun vs H Q _ => ∃ (v : V) (r : Row), vs = [v] ∧ kRow.is H v r ∧ Q (.bl (decide (RowOk r))) H
def spFirstWrongX : Sp := fun vs H Q _ => ∃ (v : V) (rs : List Row), vs = [v] ∧ (kL kRow).is H v rs ∧ rs.length ≤ 200 ∧ ∀ H', Same H H' → Q (wrongV rs) H'
/-- __init__ of the refusals that keep one number under f -/
def spExInit (K : PySem.W.Frag) (f : Str) : Sp := fun vs H Q _ => ∃ (a C : Addr) (z : Int), vs = [.ref a, .int z] ∧ z.natAbs.log2 < 1920 ∧ H a = some (exo a C none) ∧ OexC K C ∧ PySem.W.findIn K (.ref C) f = some none ∧
  ∀ dx, H dx = none → dx ≠ a → Q .non (upd (upd H dx (exd dx [(f, .int z)])) a (exo a C (some dx)))
/-- what is refused of rows -/
def BadAt (K : PySem.W.Frag) (H : Hp) (i : Nat) (E : XK) : Prop := ∀ (H' : Hp) (d : Addr), Same H H' → H d = none → H' d = some (.xd [("at", .int i)]) → E (.ref (exC K 0)) (some d) H'
def spCheckRowsX (K : PySem.W.Frag) : Sp := fun vs H Q E => ∃ (v : V) (rs : List Row), vs = [v] ∧ (kL kRow).is H v rs ∧ rs.length ≤ 200 ∧ (badAt rs = none → ∀ H', Same H H' → Q .non H') ∧ ∀ i, badAt rs = some i → BadAt K H i E
section
variable {P : Program} {w : World} {K : PySem.W.Frag} {mg : Str → Option Value} {base : Heap}
theorem ok_is_rowX {f : Addr} {fd : FuncData} (F : Fun K "is_row" "is_row" s_is_row f fd) (T : TxA mg) (CN : Cal P w K mg base 1 "is_number" ["value", "low", "high"] spIsNumber) (CH : Cal P w K mg base 2 "is_house" ["value"] spIsHouse) : FnOk P w K mg base CX0 3 f fd ["row"] spIsRowX := by
  obtain ⟨f1, fd1, G1, g1, kp1, b1⟩ := CN
  obtain ⟨f2, fd2, G2, g2, kp2, b2⟩ := CH
  obtain ⟨tl, hl⟩ := T.lim
  refine F.ok sc_is_row (fun vs H Q E h => ?_) (fun cdv A outer s H vs Q E hr h => ?_)
  · obtain ⟨v, r, rfl, _⟩ := h
    rfl
  · obtain ⟨v, r, rfl, ⟨t, rfl, ht⟩, q⟩ := h
    have hr1 : Room 1 _ := hr.mono (by decide)
    refine ⟨_, pss_cons (ps_if (PW.pt (pw_or (pt_not (pt_val (pe_callB call_isi (by rfl) T.isinst (by decide +kernel) (pa_cons (pv 0) (pa_cons (pe_bty (by rfl) T.tuple bt_tuple) pa_nil)))))
        (pw_or1 (pt_cmpR op_ne (pe_callB call_len (by rfl) T.len PySem.boot_len (pa_cons (pv 0) pa_nil)) pe_int (nomark _))))) (pss_one (ps_ret pe_bl)) pss_nil)
      (pss_cons (ps_asg (pv 0) (pg_tup (by rfl) (pgs_cons (pg_name (i := 1) sc_is_row.nd rfl (.inl rfl)) (pgs_cons (pg_name (i := 2) sc_is_row.nd rfl (.inl rfl)) (pgs_cons (pg_name (i := 3) sc_is_row.nd rfl (.inl rfl)) pgs_nil)))))
      (pss_one (ps_ret (pe_and (pe_call G2 hr (by rfl) g2 kp2 b2 .nil pass0 (pa_cons (pv 1) pa_nil))
        (pe_and (pe_call G1 hr1 (by rfl) g1 kp1 b1 .nil pass0 (pa_cons (pv 2) (pa_cons pe_int (pa_cons (pe_glob (v := .int LIM) (by rfl) hl ⟨_, rfl⟩) pa_nil))))
          (pe_one (pe_call G1 hr1 (by rfl) g1 kp1 b1 .nil pass0 (pa_cons (pv 3) (pa_cons (pv 2) (pa_cons (pe_glob (v := .int LIM) (by rfl) hl ⟨_, rfl⟩) pa_nil)))))))))), ?_⟩
    refine ⟨_, rfl, _, .ty "tuple", _, _, _, rfl, .ty _, tyx_tup ht, kit_tt, true, rfl, iteF ?_⟩
    refine ⟨_, rfl, _, 3, rfl, .inr ⟨_, SqT.of ht, rfl⟩, rfl, false, by decide, iteF ?_⟩
    refine ⟨_, rfl, _, _, rfl, SqT.of ht, rfl, _, _, rfl, _, _, rfl, _, _, rfl, rfl, ?_⟩
    refine ⟨_, rfl, r.1, rfl, _, rfl, ite2 (fun c1 => ?_) (fun c1 => ?_)⟩
    · have c1 := of_decide_eq_true c1
      refine ⟨_, rfl, r.2.1, 1, LIM, rfl, _, rfl, ite2 (fun c2 => ?_) (fun c2 => ?_)⟩
      · have c2 := of_decide_eq_true c2
        refine ⟨_, rfl, _, rfl, r.2.2, r.2.1, LIM, rfl, ?_⟩
        have e : decide (r.2.1 ≤ r.2.2 ∧ r.2.2 ≤ LIM) = decide (RowOk r) := decide_eq_decide.mpr ⟨fun z => ⟨c1.1, c1.2, c2.1, z.1, z.2⟩, fun z => ⟨z.2.2.2.1, z.2.2.2.2⟩⟩
        rw [e]
        exact q
      · have e : decide (RowOk r) = false := decide_eq_false fun z => c2 (decide_eq_true ⟨z.2.2.1, Int.le_trans z.2.2.2.1 z.2.2.2.2⟩)
        rw [e] at q
        exact q
    · have e : decide (RowOk r) = false := decide_eq_false fun z => c1 (decide_eq_true ⟨z.1, z.2.1⟩)
      rw [e] at q
      exact q
theorem ok_first_wrongX {f : Addr} {fd : FuncData} (F : Fun K "first_wrong" "first_wrong" s_first_wrong f fd) (T : TxA mg) (CR : Cal P w K mg base 3 "is_row" ["row"] spIsRowX) : FnOk P w K mg base CX0 4 f fd ["rows"] spFirstWrongX := by
  obtain ⟨f1, fd1, G1, g1, kp1, b1⟩ := CR
  obtain ⟨tm, hm⟩ := T.most
  refine F.ok sc_first_wrong (fun vs H Q E h => ?_) (fun cdv A outer s H vs Q E hr h => ?_)
  · obtain ⟨v, rs, rfl, _⟩ := h
    rfl
  · obtain ⟨v, rs, rfl, ⟨a, xs, rfl, ha, hp⟩, hl, q⟩ := h
    have el : xs.length = rs.length := pr_len hp
    have ec : cutV xs none (some 200) = xs := by
      unfold cutV
      rw [show HT.sIx xs.length 0 none = 0 from rfl, List.drop_zero, List.take_of_length_le]
      show xs.length ≤ (if (200 : Int) < 0 then ((200 : Int) + (xs.length : Int)).toNat else min (200 : Int).toNat xs.length) - 0
      rw [if_neg (by decide)]
      have : (200 : Int).toNat = 200 := rfl
      omega
    refine ⟨_, pss_cons (ps_for PassesOwn.never rfl (pi_enum (by rfl) T.enum (pa_cons (pe_slice sl_list (pv 0) po_none (po_some (pe_glob (v := .int 200) (by rfl) hm ⟨_, rfl⟩))) pa_nil))
          (pg_tup rfl (pgs_cons (pg_name (i := 1) sc_first_wrong.nd rfl (.inl rfl)) (pgs_cons (pg_name (i := 2) sc_first_wrong.nd rfl (.inl rfl)) pgs_nil)))
        (pss_one (ps_if (pt_not (pt_val (pe_call G1 hr (by rfl) g1 kp1 b1 .nil pass0 (pa_cons (pv 2) pa_nil)))) (pss_one (ps_ret (pv 1))) pss_nil)))
      (pss_one (ps_ret (pe_ifExp (pt_cmpR op_gt (pe_callB call_len (by rfl) T.len PySem.boot_len (pa_cons (pv 0) pa_nil)) (pe_glob (v := .int 200) (by rfl) hm ⟨_, rfl⟩) (nomark _))
        (pe_glob (v := .int 200) (by rfl) hm ⟨_, rfl⟩) pe_non))), ?_⟩
    refine ⟨_, rfl, 200, rfl, a, xs, rfl, SqL.of ha, fun p np => ?_⟩
    rw [ec]
    refine ⟨p, _, rfl, SqL.of upd_same, for_it (walk_enum (K := K) (a := p) (xs := xs)) (fun i σ H' => Same H H' ∧ SqL K H' p xs ∧ (∀ j r, j < i → rs[j]? = some r → RowOk r) ∧ ∃ x y, σ = [some (.ref a), x, y])
      ⟨same_upd np, SqL.of upd_same, fun j r hj _ => by omega, none, none, rfl⟩ (fun _ _ _ _ h => h.2.1) ?_ ?_⟩
    · rintro i x σ H1 H2 hi ⟨s1, l1, ok, x0, y0, rfl⟩ ⟨U, i', row, rfl, nU, rfl, ei, er⟩
      have s2 : Same H (upd H1 U (.tup [i', row])) := s1.trans (same_upd nU)
      obtain ⟨r, hr1, hr2⟩ := pr_get hp er
      refine ⟨U, _, rfl, SqT.of upd_same, rfl, i', [row], rfl, row, [], rfl, rfl, ?_⟩
      refine ⟨_, rfl, _, r, rfl, kRow.mono s2 hr2, _, rfl, ?_⟩
      by_cases c : RowOk r
      · rw [decide_eq_true c]
        refine iteF ⟨s2, (same_upd nU).seq l1, fun j s hj hs => ?_, _, _, rfl⟩
        by_cases e : j = i
        · subst e
          rw [hr1] at hs
          cases hs
          exact c
        · exact ok j s (by omega) hs
      · rw [decide_eq_false c]
        refine iteT ⟨_, rfl, ?_⟩
        have e := badAt_some ok hr1 c
        have qq := q _ s2
        unfold wrongV at qq
        rw [e] at qq
        cases ei
        exact qq
    · rintro σ H1 ⟨s1, l1, ok, x0, y0, rfl⟩
      have la : H1 a = some (.lst xs) := s1 _ _ ha
      refine ⟨_, rfl, _, xs.length, rfl, .inl ⟨_, SqL.of la, rfl⟩, _, _, rfl, rfl, _, rfl, ?_⟩
      rw [decide_eq_false (show ¬ (xs.length : Int) > 200 by omega)]
      have e : badAt rs = none := badAt_none.mpr fun r hr => by
        obtain ⟨j, hj⟩ := List.mem_iff_getElem?.mp hr
        exact ok j r (by have := (List.getElem?_eq_some_iff.mp hj).1; omega) hj
      have qq := q _ s1
      unfold wrongV at qq
      rw [e] at qq
      exact iteF qq
theorem ok_exInit {f : Addr} {fd : FuncData} {D : Addr} {mc : Value} (F : Fun K "__init__" "BadStretches.__init__" s_BadStretches___init__ f fd) (gD : mg "DoneError" = some (.ref D)) (B : BaseI K D mc) : FnOk P w K mg base CX0 1 f fd ["self", "at"] (spExInit K "at") := by
  refine F.ok sc_BadStretches___init__ (fun vs H Q E h => ?_) (fun cdv A outer s H vs Q E hr h => ?_)
  · obtain ⟨a, C, z, rfl, _⟩ := h
    rfl
  · obtain ⟨a, C, z, rfl, hz, ha, T, hno, q⟩ := h
    refine ⟨_, pss_cons (ps_expr (pe_baseI (by rfl) gD B (pa_cons (pv 0) (pa_cons (pe_joined (PJ.cons pe_str (PJ.cons (pe_fmt (pv 1)) PJ.nil))) pa_nil))))
      (pss_one (ps_ost (pv 0) (pv 1))), ?_⟩
    refine ⟨_, rfl, _, rfl, by rw [sizeLine_eq]; decide, _, rfl, .inr ⟨z, rfl, hz, _, rfl, ?_, a, C, _, rfl, by show 1 ≤ 1000; decide, T, ha, ?_⟩⟩
    · have h1 := PyProof.Rows.int_text_len_1921 hz
      rw [Str.length_append, Str.length_append]
      have h2 : (Str.empty : Str).length + (Str.ofString "no stretch at place ").length ≤ 100 := by decide +kernel
      rw [sizeLine_eq]
      omega
    · refine ⟨_, rfl, _, rfl, a, C, rfl, T, hno, .inl ⟨ha, fun dx hx ne => q dx hx ne⟩⟩
/-- the refusal that keeps a number may be made -/
def ExCal (P : Program) (w : World) (K : PySem.W.Frag) (mg : Str → Option Value) (base : Heap) (i : Nat) (f : Str) : Prop := ∃ (fI : Addr) (fd : FuncData), OexC K (exC K i) ∧ PySem.W.findIn K (.ref (exC K i)) "__init__" = some (some (.ref fI)) ∧
  PySem.W.typeIn K (.ref fI) = some (.type "function") ∧ FnOk P w K mg base CX0 1 fI fd ["self", f] (spExInit K f) ∧ Binds K fd ["self", f] [] ∧ PySem.W.findIn K (.ref (exC K i)) f = some none ∧ mg (exN.getD i "") = some (.ref (exC K i))
theorem same_del {H : Hp} {a dx : Addr} {o o2 u x : HO} (na : H a = none) (nd : H dx = none) (ne : dx ≠ a) : Same H (upd (del (upd (upd (upd H a o) dx u) a o2) a) dx x) := fun b y e => by
  rw [upd_ne (ne_of_none e nd), del_ne (ne_of_none e na), upd_ne (ne_of_none e na), upd_ne (ne_of_none e nd), upd_ne (ne_of_none e na)]
  exact e
theorem ok_check_rowsX {f : Addr} {fd : FuncData} (F : Fun K "check_rows" "check_rows" s_check_rows f fd) (XC : ExCal P w K mg base 0 "at") (CR : Cal P w K mg base 4 "first_wrong" ["rows"] spFirstWrongX) : FnOk P w K mg base (L2.CX P w) 5 f fd ["rows"] (spCheckRowsX K) := by
  obtain ⟨f1, fd1, G1, g1, kp1, b1⟩ := CR
  obtain ⟨fI, fdI, T, iC, tI, GI, bI, hno, gB⟩ := XC
  have gB' : mg "BadStretches" = some (.ref (exC K 0)) := gB
  refine F.okX sc_check_rows (fun vs H Q E h => ?_) (fun cdv A outer s H vs Q E hr h => ?_)
  · obtain ⟨v, rs, rfl, _⟩ := h
    rfl
  · obtain ⟨v, rs, rfl, hv, hl, q1, q2⟩ := h
    have hr2 : Room 2 _ := hr.mono (by decide)
    refine ⟨_, pss_cons (ps_set (i := 1) sc_check_rows.nd rfl (.inl rfl) (pe_call G1 hr (by rfl) g1 kp1 b1 .nil pass0 (pa_cons (pv 0) pa_nil)))
      (pss_one (ps_if (pt_cmpR op_notN (pv 1) pe_non (nomark _)) (pss_one (ps_raise rfl (takes_of rfl rfl rfl rfl) (pmk_oex T iC tI GI hr2 bI .nil pass0 (by rfl) gB' (pa_cons (pv 1) pa_nil)))) pss_nil)), ?_⟩
    refine ⟨_, rfl, v, rs, rfl, hv, hl, fun H1 s1 => ?_⟩
    unfold wrongV
    cases e : badAt rs with
    | none => exact ⟨_, rfl, rfl, _, rfl, iteF (q1 e _ s1)⟩
    | some i =>
      refine ⟨_, rfl, rfl, _, rfl, iteT ⟨_, rfl, by show 1 ≤ 1000; decide, fun a na => ⟨a, exC K 0, (i : Int), rfl, ?_, upd_same, T, hno, fun dx nx ne => ⟨rfl, dx, [("at", .int i)], ?_, ?_, ?_, ?_⟩⟩⟩⟩
      · have h1 := badAt_lt e
        have h2 := Nat.log2_le_self i
        show (Int.natAbs (i : Int)).log2 < 1920
        rw [Int.natAbs_natCast]
        omega
      · exact upd_same
      · rw [upd_ne ne, upd_same]
      · rw [upd_ne ne] at nx; exact nx
      · rw [upd_ne ne] at nx
        exact q2 i e _ _ (s1.trans (same_del na nx ne)) (s1.free nx) upd_same
end
end Rw
namespace Rw
open PySem PySem.Spec PyProof.Rows L2
theorem Ext.ofSame {F H H' : Hp} (s : Same F H) (t : Same H H') : Ext M0 F H F H' := ⟨Same.refl F, s.trans t, fun b o e _ => t b o e, fun b e => by
  cases q : H b with
  | none => exact absurd q e
  | some o => rw [t b o q]; simp, fun _ _ => rfl⟩
/-! ### a seat -/
def sflds (ra : Addr) (t : Int) : List (Str × V) := [("_rows", .ref ra), ("_term", .int t)]
structure SeatAt (K : PySem.W.Frag) (C : Addr) (F H : Hp) (p : Addr) (rs : List Row) (t : Int) : Prop where
  ob : ∃ dx ra, H p = some (.ins C dx (sflds ra t)) ∧ (kL kRow).is F (.ref ra) rs
  fp : F p = none
theorem SeatAt.step {K : PySem.W.Frag} {C : Addr} {F H F' H' : Hp} {p : Addr} {rs : List Row} {t : Int} {M : Addr → Prop} (A : SeatAt K C F H p rs t) (X : Ext M F H F' H') (h : ¬ M p) : SeatAt K C F' H' p rs t := by
  obtain ⟨dx, ra, ob, kr⟩ := A.ob
  exact ⟨⟨dx, ra, X.hh _ _ ob h, (kL kRow).mono X.ff kr⟩, by rw [X.new _ (by rw [ob]; simp)]; exact A.fp⟩
structure TxS (K : PySem.W.Frag) (mg : Str → Option Value) (C : Addr) : Prop where
  cl : Cls K C
  nR : NoAttr K C "_rows"
  nT : NoAttr K C "_term"
  list : mg "list" = none
  max : mg "max" = none
  first : ∃ t, mg "FIRST_TERM" = some (.int 1 t)
section
variable (ra : Addr) (t : Int)
theorem sl_rows : (sflds ra t).lookup ("_rows" : Str) = some (.ref ra) := by kernel_rfl
theorem sl_term : (sflds ra t).lookup ("_term" : Str) = some (.int t) := by kernel_rfl
theorem sl_holds : (sflds ra t).lookup ("holds" : Str) = none := by kernel_rfl
theorem sl_hold : (sflds ra t).lookup ("hold" : Str) = none := by kernel_rfl
theorem sl_keep : (sflds ra t).lookup ("keep" : Str) = none := by kernel_rfl
theorem sl_ask : (sflds ra t).lookup ("ask" : Str) = none := by kernel_rfl
theorem sl_last : (sflds ra t).lookup ("last_term" : Str) = none := by kernel_rfl
theorem sp_rows (rb : Addr) : putF "_rows" (.ref rb) (sflds ra t) = sflds rb t := by kernel_rfl
theorem sp_term (u : Int) : putF "_term" (.int u) (sflds ra t) = sflds ra u := by kernel_rfl
theorem sf_len : (sflds ra t).length < 1000 := by show 2 < 1000; decide
theorem sf_init : putF "_term" (.int t) (putF "_rows" (.ref ra) []) = sflds ra t := by kernel_rfl
end
def CalM (P : Program) (w : World) (K : PySem.W.Frag) (mg : Str → Option Value) (base : Heap) (C : Addr) (k : Nat) (x : Str) (ps : List Str) (sp : Sp) : Prop :=
  ∃ (f : Addr) (fd : FuncData), FnOk P w K mg base CX0 k f fd ps sp ∧ Meth K C x f ∧ Binds K fd ps []
/-- .. that may refuse -/
def CalMX (P : Program) (w : World) (K : PySem.W.Frag) (mg : Str → Option Value) (base : Heap) (C : Addr) (k : Nat) (x : Str) (ps : List Str) (sp : Sp) : Prop :=
  ∃ (f : Addr) (fd : FuncData), FnOk P w K mg base (L2.CX P w) k f fd ps sp ∧ Meth K C x f ∧ Binds K fd ps []
def CalX (P : Program) (w : World) (K : PySem.W.Frag) (mg : Str → Option Value) (base : Heap) (k : Nat) (x : Str) (ps : List Str) (sp : Sp) : Prop :=
  ∃ (f : Addr) (fd : FuncData), FnOk P w K mg base (L2.CX P w) k f fd ps sp ∧ mg x = some (.ref f) ∧ PySem.W.keepIn K (.ref f) = true ∧ Binds K fd ps []
/-- a refusal without a number may be made -/
def ExMk (K : PySem.W.Frag) (mg : Str → Option Value) (i : Nat) : Prop := PySem.W.excIn K (exC K i) [.type "ValueError", .type "Exception", .type "BaseException", .type "object"] "ValueError.__new__" = true ∧ mg (exN.getD i "") = some (.ref (exC K i)) ∧ PySem.W.keepIn K (.ref (exC K i)) = true ∧
  PySem.W.subIn K (.ref (exC K i)) (.type "BaseException") = some true ∧ PySem.W.typeIn K (.ref (exC K i)) = some (.type "type")
/-! promises -/
def spSInit (C : Addr) (K : PySem.W.Frag) : Sp := fun vs H Q _ => ∃ (F : Hp) (x dx : Addr), vs = [.ref x] ∧ Same F H ∧ H x = some (.ins C dx []) ∧ F x = none ∧ ∀ (F' H' : Hp), Ext (· = x) F H F' H' → SeatAt K C F' H' x [] 0 → Q .non H'
def spHolds (K : PySem.W.Frag) (C : Addr) : Sp := fun vs H Q _ => ∃ (F : Hp) (p : Addr) (rs : List Row) (t : Int), vs = [.ref p] ∧ Same F H ∧ SeatAt K C F H p rs t ∧ RetL M0 F H kRow (· = rs) Q
def spLastTerm (K : PySem.W.Frag) (C : Addr) : Sp := fun vs H Q _ => ∃ (F : Hp) (p : Addr) (rs : List Row) (t : Int), vs = [.ref p] ∧ SeatAt K C F H p rs t ∧ Q (.int t) H
/-- what a seat tells and holds behind it -/
def RetS (K : PySem.W.Frag) (C : Addr) (F H : Hp) (p : Addr) (t : Int) (φ : List Row → Prop) (Q : VK) : Prop := ∀ (F' H' : Hp) (a : Addr) (vs : List V) (out : List Row), Ext (· = p) F H F' H' → SeatAt K C F' H' p out t → φ out → H a = none → F' a = none → H' a = some (.lst vs) → Paired (kRow.is F') vs out → Q (.ref a) H'
def spHold (K : PySem.W.Frag) (C : Addr) : Sp := fun vs H Q E => ∃ (F : Hp) (p : Addr) (rs : List Row) (t : Int) (v : V) (more : List Row), vs = [.ref p, v] ∧ Same F H ∧ SeatAt K C F H p rs t ∧ (kL kRow).is F v more ∧ more.length ≤ 200 ∧ Valid rs ∧ rs.length ≤ 50000 ∧
  (badAt more = none → RetS K C F H p t (Fewest (rs ++ more)) Q) ∧ ∀ i, badAt more = some i → BadAt K H i E
def spAsk (K : PySem.W.Frag) (C : Addr) : Sp := fun vs H Q E => ∃ (F : Hp) (p : Addr) (rs : List Row) (t u : Int), vs = [.ref p, .int u] ∧ Same F H ∧ SeatAt K C F H p rs t ∧ (u ≤ t → E (.ref (exC K 7)) none H) ∧ (t < u → RetS K C F H p u (· = rs) Q)
def spKeep (K : PySem.W.Frag) (C : Addr) : Sp := fun vs H Q E => ∃ (F : Hp) (p : Addr) (rs : List Row) (t u : Int) (v : V) (more : List Row), vs = [.ref p, .int u, v] ∧ Same F H ∧ SeatAt K C F H p rs t ∧ (kL kRow).is F v more ∧ more.length ≤ 200 ∧ Valid rs ∧ rs.length ≤ 50000 ∧
  (u < max t 1 → E (.ref (exC K 7)) none H) ∧ (max t 1 ≤ u → (badAt more = none → RetS K C F H p u (Fewest (rs ++ more)) Q) ∧ ∀ i, badAt more = some i → BadAt K H i E)
section
variable {P : Program} {w : World} {K : PySem.W.Frag} {mg : Str → Option Value} {base : Heap} {C : Addr}
theorem ok_Seat___init__ {f : Addr} {fd : FuncData} (F0 : Fun K "__init__" "Seat.__init__" s_Seat___init__ f fd) (T : TxS K mg C) : FnOk P w K mg base CX0 1 f fd ["self"] (spSInit C K) := by
  refine F0.ok sc_Seat___init__ (fun vs H Q E h => ?_) (fun cdv A outer s H vs Q E hr h => ?_)
  · obtain ⟨F, x, dx, rfl, _⟩ := h
    rfl
  · obtain ⟨F, x, dx, rfl, fh, ob, fx, q⟩ := h
    refine ⟨_, pss_cons (ps_fld (pv 0) (pe_lst pa_nil) rfl) (pss_one (ps_fld (pv 0) pe_int rfl)), ?_⟩
    refine ⟨by show 0 ≤ sizeLine; decide, fun l nl => ?_⟩
    have nx : x ≠ l := ne_of_none ob nl
    have X1 := (Ext.refl (M := (· = x)) fh).lay (o := .lst []) nl
    refine ⟨_, rfl, x, C, dx, _, rfl, by rw [upd_ne nx]; exact ob, T.cl, T.nR, by show 0 < 1000; decide, ?_⟩
    refine ⟨_, rfl, x, C, dx, _, rfl, upd_same, T.cl, T.nT, by show 1 < 1000; decide, ?_⟩
    rw [upd_upd, sf_init]
    have fx1 : upd F l (.lst []) x = none := by rw [upd_ne nx]; exact fx
    exact q _ _ (X1.put (.inr rfl) fx1) ⟨⟨dx, l, upd_same, l, [], rfl, upd_same, .nil⟩, fx1⟩
theorem ok_Seat_holds {f : Addr} {fd : FuncData} (F0 : Fun K "holds" "Seat.holds" s_Seat_holds f fd) (T : TxS K mg C) : FnOk P w K mg base CX0 1 f fd ["self"] (spHolds K C) := by
  refine F0.ok sc_Seat_holds (fun vs H Q E h => ?_) (fun cdv A outer s H vs Q E hr h => ?_)
  · obtain ⟨F, p, rs, t, rfl, _⟩ := h
    rfl
  · obtain ⟨F, p, rs, t, rfl, fh, A, q⟩ := h
    obtain ⟨dx, ra, ob, ra', xs, e, ha, hp⟩ := A.ob
    cases e
    refine ⟨_, pss_one (ps_ret (pe_callTy call_list_of (by rfl) T.list (by decide +kernel) (pa_cons (pe_fld (pv 0) rfl) pa_nil))), ?_⟩
    refine ⟨_, rfl, p, C, dx, _, _, rfl, ob, T.cl, T.nR, sl_rows _ _, ra, xs, rfl, .inl (SqL.of (fh _ _ ha)), fun o no => ?_⟩
    exact q F _ o xs _ ((Ext.refl fh).tmp no) no (fh.free no) upd_same hp rfl
theorem ok_Seat_last_term {f : Addr} {fd : FuncData} (F0 : Fun K "last_term" "Seat.last_term" s_Seat_last_term f fd) (T : TxS K mg C) : FnOk P w K mg base CX0 1 f fd ["self"] (spLastTerm K C) := by
  refine F0.ok sc_Seat_last_term (fun vs H Q E h => ?_) (fun cdv A outer s H vs Q E hr h => ?_)
  · obtain ⟨F, p, rs, t, rfl, _⟩ := h
    rfl
  · obtain ⟨F, p, rs, t, rfl, A, q⟩ := h
    obtain ⟨dx, ra, ob, kr⟩ := A.ob
    exact ⟨_, pss_one (ps_ret (pe_fld (pv 0) rfl)), _, rfl, p, C, dx, _, _, rfl, ob, T.cl, T.nT, sl_term _ _, q⟩
theorem ok_Seat_hold {f : Addr} {fd : FuncData} (F0 : Fun K "hold" "Seat.hold" s_Seat_hold f fd) (T : TxS K mg C) (CC : CalX P w K mg base 5 "check_rows" ["rows"] (spCheckRowsX K)) (CF : Cal P w K mg base 3 "fewest" ["rows"] spFewest) (CH : CalM P w K mg base C 1 "holds" ["self"] (spHolds K C)) :
    FnOk P w K mg base (L2.CX P w) 6 f fd ["self", "rows"] (spHold K C) := by
  obtain ⟨f1, fd1, G1, g1, kp1, b1⟩ := CC
  obtain ⟨f2, fd2, G2, g2, kp2, b2⟩ := CF
  obtain ⟨f3, fd3, G3, m3, b3⟩ := CH
  refine F0.okX sc_Seat_hold (fun vs H Q E h => ?_) (fun cdv A outer s H vs Q E hr h => ?_)
  · obtain ⟨F, p, rs, t, v, more, rfl, _⟩ := h
    rfl
  · obtain ⟨F, p, rs, t, v, more, rfl, fh, A, hv, hl, val, lrs, q1, q2⟩ := h
    have hr1 : Room 1 _ := hr.mono (by decide)
    have hr3 : Room 3 _ := hr.mono (by decide)
    refine ⟨_, pss_cons (ps_expr (pe_call G1 hr (by rfl) g1 kp1 b1 .nil (passes_call (E := E) (takes_of rfl rfl rfl rfl) fun _ _ _ _ h => h) (pa_cons (pv 1) pa_nil)))
      (pss_cons (ps_fld (pv 0) (pe_call G2 hr3 (by rfl) g2 kp2 b2 .nil pass0 (pa_cons (pe_op op_cat (pe_fld (pv 0) rfl) (pv 1)) pa_nil)) rfl)
      (pss_one (ps_ret (pe_meth0 (pv 0) T.cl m3 G3 hr1 b3 .nil pass0)))), ?_⟩
    refine ⟨_, rfl, v, more, rfl, (kL kRow).mono fh hv, hl, fun hb H1 s1 => ?_, fun i hi => q2 i hi⟩
    have X1 := Ext.ofSame fh s1
    have A1 := A.step X1 id
    obtain ⟨dx, ra, ob, ra', xs, e, ha, hp⟩ := A1.ob
    cases e
    obtain ⟨va, ys, e, hva, hvp⟩ := hv
    subst e
    have hval : Valid (rs ++ more) := fun r hr' => by
      rcases List.mem_append.mp hr' with z | z
      · exact val r z
      · exact (badAt_none.mp hb r z).2.2.2.1
    have l1 := pr_len hp
    have l2 := pr_len hvp
    refine ⟨_, rfl, p, C, dx, _, _, rfl, ob, T.cl, T.nR, sl_rows _ _, _, rfl, ra, va, xs, ys, rfl, rfl, X1.fh _ _ ha, X1.fh _ _ hva, by rw [sizeLine_eq]; omega, fun c nc => ?_⟩
    have X2 := X1.lay (o := .lst (xs ++ ys)) nc
    have kc : (kL kRow).is (upd F c (.lst (xs ++ ys))) (.ref c) (rs ++ more) := kL_new (X1.ffree nc) (pr_append hp hvp)
    refine ⟨_, .ref c, rs ++ more, rfl, X2.fh, kc, hval, by rw [List.length_append]; omega, fun F3 H3 a vs out X3 na fa ha3 hp3 fw => ?_⟩
    have X4 := (X2.trans X3).frz (X2.free na) fa ha3
    have A4 := A.step X4 id
    have ko : (kL kRow).is (upd F3 a (.lst vs)) (.ref a) out := kL_new fa hp3
    obtain ⟨dx4, ra4, ob4, kr4⟩ := A4.ob
    refine ⟨_, rfl, p, C, dx4, _, rfl, ob4, T.cl, T.nR, sf_len _ _, ?_⟩
    rw [sp_rows]
    have X5 := X4.up.put (M := (· = p)) (p := p) (o := .ins C dx4 (sflds a t)) (.inr rfl) A4.fp
    have A5 : SeatAt K C (upd F3 a (.lst vs)) (upd H3 p (.ins C dx4 (sflds a t))) p out t := ⟨⟨dx4, a, upd_same, ko⟩, A4.fp⟩
    refine ⟨_, rfl, p, dx4, _, rfl, upd_same, sl_holds _ _, _, p, out, t, rfl, X5.fh, A5, fun F6 H6 b vs6 out6 X6 nb fb hb6 hp6 e6 => ?_⟩
    subst e6
    exact q1 hb F6 H6 b vs6 out6 (X5.trans X6.up) (A5.step X6 id) fw (X5.free nb) fb hb6 hp6
theorem ok_Seat_ask {f : Addr} {fd : FuncData} (F0 : Fun K "ask" "Seat.ask" s_Seat_ask f fd) (T : TxS K mg C) (X7 : ExMk K mg 7) (CH : CalM P w K mg base C 1 "holds" ["self"] (spHolds K C)) : FnOk P w K mg base (L2.CX P w) 2 f fd ["self", "term"] (spAsk K C) := by
  obtain ⟨f3, fd3, G3, m3, b3⟩ := CH
  obtain ⟨x1, x2, x3, x4, x5⟩ := X7
  have x2' : mg "TooOld" = some (.ref (exC K 7)) := x2
  refine F0.okX sc_Seat_ask (fun vs H Q E h => ?_) (fun cdv A outer s H vs Q E hr h => ?_)
  · obtain ⟨F, p, rs, t, u, rfl, _⟩ := h
    rfl
  · obtain ⟨F, p, rs, t, u, rfl, fh, A, q1, q2⟩ := h
    refine ⟨_, pss_cons (ps_if (pt_cmpR op_le (pv 1) (pe_fld (pv 0) rfl) (nomark _)) (pss_one (ps_raise rfl (takes_of rfl rfl rfl rfl) (pmk_own PySem.F.excBase_ValueError x1 x2' x3 (raises_own x4 x5) (by rfl)))) pss_nil)
      (pss_cons (ps_fld (pv 0) (pv 1) rfl) (pss_one (ps_ret (pe_meth0 (pv 0) T.cl m3 G3 hr b3 .nil pass0)))), ?_⟩
    obtain ⟨dx, ra, ob, kr⟩ := A.ob
    refine ⟨_, rfl, _, rfl, p, C, dx, _, _, rfl, ob, T.cl, T.nT, sl_term _ _, _, _, rfl, rfl, _, rfl, ite2 (fun c => ?_) (fun c => ?_)⟩
    · exact q1 (of_decide_eq_true c)
    · have c' : ¬ u ≤ t := fun z => c (decide_eq_true z)
      refine ⟨_, rfl, _, rfl, p, C, dx, _, rfl, ob, T.cl, T.nT, sf_len _ _, ?_⟩
      rw [sp_term]
      have X5 := (Ext.refl (M := (· = p)) fh).put (p := p) (o := .ins C dx (sflds ra u)) (.inr rfl) A.fp
      have A5 : SeatAt K C F (upd H p (.ins C dx (sflds ra u))) p rs u := ⟨⟨dx, ra, upd_same, kr⟩, A.fp⟩
      refine ⟨_, rfl, p, dx, _, rfl, upd_same, sl_holds _ _, _, p, rs, u, rfl, X5.fh, A5, fun F6 H6 b vs6 out6 X6 nb fb hb6 hp6 e6 => ?_⟩
      subst e6
      exact q2 (by omega) F6 H6 b vs6 out6 (X5.trans X6.up) (A5.step X6 id) rfl (X5.free nb) fb hb6 hp6
theorem ok_Seat_keep {f : Addr} {fd : FuncData} (F0 : Fun K "keep" "Seat.keep" s_Seat_keep f fd) (T : TxS K mg C) (X7 : ExMk K mg 7) (CC : CalX P w K mg base 5 "check_rows" ["rows"] (spCheckRowsX K)) (CH : CalMX P w K mg base C 6 "hold" ["self", "rows"] (spHold K C)) :
    FnOk P w K mg base (L2.CX P w) 7 f fd ["self", "term", "rows"] (spKeep K C) := by
  obtain ⟨f1, fd1, G1, g1, kp1, b1⟩ := CC
  obtain ⟨f3, fd3, G3, m3, b3⟩ := CH
  obtain ⟨x1, x2, x3, x4, x5⟩ := X7
  have x2' : mg "TooOld" = some (.ref (exC K 7)) := x2
  obtain ⟨tk1, hk1⟩ := T.first
  refine F0.okX sc_Seat_keep (fun vs H Q E h => ?_) (fun cdv A outer s H vs Q E hr h => ?_)
  · obtain ⟨F, p, rs, t, u, v, more, rfl, _⟩ := h
    rfl
  · obtain ⟨F, p, rs, t, u, v, more, rfl, fh, A, hv, hl, val, lrs, q1, q2⟩ := h
    have hr5 : Room 5 _ := hr.mono (by decide)
    refine ⟨_, pss_cons (ps_if (pt_cmpR op_lt (pv 1) (pe_callB (call_max2 (by rfl)) (by rfl) T.max (by decide +kernel) (pa_cons (pe_fld (pv 0) rfl) (pa_cons (pe_glob (v := .int 1) (by rfl) hk1 ⟨_, rfl⟩) pa_nil))) (nomark _)) (pss_one (ps_raise rfl (takes_of rfl rfl rfl rfl) (pmk_own PySem.F.excBase_ValueError x1 x2' x3 (raises_own x4 x5) (by rfl)))) pss_nil)
      (pss_cons (ps_expr (pe_call G1 hr5 (by rfl) g1 kp1 b1 .nil (passes_call (E := E) (takes_of rfl rfl rfl rfl) fun _ _ _ _ h => h) (pa_cons (pv 2) pa_nil)))
      (pss_cons (ps_fld (pv 0) (pv 1) rfl) (pss_one (ps_ret (pe_meth (pv 0) T.cl m3 G3 hr b3 .nil (passes_call (E := E) (takes_of rfl rfl rfl rfl) fun _ _ _ _ h => h) (pa_cons (pv 2) pa_nil)))))), ?_⟩
    obtain ⟨dx, ra, ob, kr⟩ := A.ob
    refine ⟨_, rfl, _, rfl, p, C, dx, _, _, rfl, ob, T.cl, T.nT, sl_term _ _, _, _, rfl, ?_⟩
    have em : (if (1 : Int) > t then 1 else t) = max t 1 := by
      by_cases z : (1 : Int) > t
      · rw [if_pos z]; omega
      · rw [if_neg z]; omega
    rw [em]
    refine ⟨_, _, rfl, rfl, _, rfl, ite2 (fun c => ?_) (fun c => ?_)⟩
    · exact q1 (of_decide_eq_true c)
    · have c' : max t 1 ≤ u := Int.not_lt.mp fun z => c (decide_eq_true z)
      obtain ⟨q2, q3⟩ := q2 c'
      refine ⟨_, rfl, v, more, rfl, (kL kRow).mono fh hv, hl, fun hb H1 s1 => ?_, fun i hi => q3 i hi⟩
      have X1 := Ext.ofSame fh s1
      have A1 := A.step X1 id
      obtain ⟨dx1, ra1, ob1, kr1⟩ := A1.ob
      refine ⟨_, rfl, _, rfl, p, C, dx1, _, rfl, ob1, T.cl, T.nT, sf_len _ _, ?_⟩
      rw [sp_term]
      have X5 := X1.up.put (M := (· = p)) (p := p) (o := .ins C dx1 (sflds ra1 u)) (.inr rfl) A1.fp
      have A5 : SeatAt K C F (upd H1 p (.ins C dx1 (sflds ra1 u))) p rs u := ⟨⟨dx1, ra1, upd_same, kr1⟩, A1.fp⟩
      refine ⟨_, rfl, p, dx1, _, rfl, upd_same, sl_hold _ _, _, rfl, F, p, rs, u, v, more, rfl, X5.fh, A5, hv, hl, val, lrs, fun _ F6 H6 b vs6 out6 X6 A6 fw nb fb hb6 hp6 => ?_, fun i hi => by rw [hb] at hi; cases hi⟩
      exact q2 hb F6 H6 b vs6 out6 (X5.trans X6) A6 fw (X5.free nb) fb hb6 hp6
end
end Rw
namespace Rw
open PySem PySem.Spec PyProof.Rows L2
/-! ### frames that may take tuples in; M: what may change -/
structure XM (M : Addr → Prop) (F H F' H' : Hp) : Prop where
  ff : Same F F'
  fh : Same F' H'
  hh : ∀ b o, H b = some o → ¬ M b → H' b = some o
  tr : ∀ b, H b ≠ none → H' b ≠ none
  nw : ∀ b o, H b = some o → (∀ xs, o ≠ .tup xs) → F' b = F b
section
variable {M M' : Addr → Prop} {F H F' H' F'' H'' : Hp} {p : Addr} {o : HO}
theorem XM.of (X : Ext M F H F' H') : XM M F H F' H' := ⟨X.ff, X.fh, X.hh, X.tr, fun b o e _ => X.new b (by rw [e]; simp)⟩
theorem XM.refl (s : Same F H) : XM M F H F H := .of ((Ext.refl s).up)
theorem XM.mono (a : XM M F H F' H') (h : ∀ b, M b → M' b) : XM M' F H F' H' := ⟨a.ff, a.fh, fun c u e m => a.hh c u e fun z => m (h c z), a.tr, a.nw⟩
theorem XM.free (a : XM M F H F' H') (h : H' p = none) : H p = none := by
  cases q : H p with
  | none => rfl
  | some u => exact absurd h (a.tr p (by rw [q]; simp))
/-- going on: what the first may change is no frozen thing of the second -/
theorem XM.then (a : XM M F H F' H') (b : XM M' F' H' F'' H'') (fm : ∀ c u, H c = some u → M c → (∀ xs, u ≠ .tup xs) → ∃ u', H' c = some u' ∧ ∀ xs, u' ≠ .tup xs) : XM (fun c => M c ∨ M' c) F H F'' H'' := by
  refine ⟨a.ff.trans b.ff, b.fh, fun c u e m => b.hh c u (a.hh c u e fun z => m (.inl z)) fun z => m (.inr z), fun c h => b.tr c (a.tr c h), fun c u e t => ?_⟩
  by_cases mc : M c
  · obtain ⟨u', e', t'⟩ := fm c u e mc t
    exact (b.nw c u' e' t').trans (a.nw c u e t)
  · exact (b.nw c u (a.hh c u e mc) t).trans (a.nw c u e t)
theorem XM.step (a : XM M F H F' H') (b : Ext M0 F' H' F'' H'') : XM M F H F'' H'' :=
  ⟨a.ff.trans b.ff, b.fh, fun c u e m => b.hh c u (a.hh c u e m) id, fun c h => b.tr c (a.tr c h), fun c u e t => (b.new c (a.tr c (by rw [e]; simp))).trans (a.nw c u e t)⟩
theorem XM.go (a : XM M F H F' H') (b : Ext M F' H' F'' H'') : XM M F H F'' H'' :=
  ⟨a.ff.trans b.ff, b.fh, fun c u e m => b.hh c u (a.hh c u e m) m, fun c h => b.tr c (a.tr c h), fun c u e t => (b.new c (a.tr c (by rw [e]; simp))).trans (a.nw c u e t)⟩
theorem XM.lay (a : XM M F H F' H') (h : H' p = none) : XM M F H (upd F' p o) (upd H' p o) := a.step ((Ext.refl a.fh).lay h)
theorem XM.tmp (a : XM M F H F' H') (h : H' p = none) : XM M F H F' (upd H' p o) := a.step ((Ext.refl a.fh).tmp h)
theorem XM.put (a : XM M F H F' H') (h : H p = none ∨ M p) (f : F' p = none) : XM M F H F' (upd H' p o) := by
  refine ⟨a.ff, same_put a.fh f, fun b u e m => ?_, fun b e => ?_, a.nw⟩
  · have hb : b ≠ p := fun z => by
      subst z
      rcases h with h | h
      · rw [h] at e; cases e
      · exact m h
    rw [upd_ne hb]; exact a.hh b u e m
  · by_cases hb : b = p
    · subst hb; rw [upd_same]; simp
    · rw [upd_ne hb]; exact a.tr b e
theorem XM.absb (a : XM M F H F' H') (fm : ∀ c, M c → ∀ xs, H' c ≠ some (.tup xs)) : XM M F H (Rw.absb F' H') H' :=
  ⟨a.ff.trans (absb_sub a.fh), absb_same a.fh, a.hh, a.tr, fun b u e t => by
    by_cases mb : M b
    · rw [absb_ne (fm b mb)]
      exact a.nw b u e t
    · rw [absb_ne (fun xs z => by rw [a.hh b u e mb] at z; exact t xs (Option.some.inj z))]
      exact a.nw b u e t⟩
theorem XM.frz (a : XM M F H F' H') (h : H p = none) (f : F' p = none) (e : H' p = some o) : XM M F H (upd F' p o) H' := by
  refine ⟨a.ff.trans (same_upd f), fun b u z => ?_, a.hh, a.tr, fun b u z t => ?_⟩
  · by_cases hb : b = p
    · subst hb; rw [upd_same] at z; cases z; exact e
    · rw [upd_ne hb] at z; exact a.fh b u z
  · rw [upd_ne (ne_of_none z h)]; exact a.nw b u z t
end
theorem DiceAt.xm {K : PySem.W.Frag} {F H F' H' : Hp} {d s : Addr} {ns : List Int} {M : Addr → Prop} (D : DiceAt K F H d s ns) (X : XM M F H F' H') (h : ¬ M d) : DiceAt K F' H' d s ns := by
  obtain ⟨i, m, r, hd, g⟩ := D.ex
  exact ⟨X.fh, by rw [X.nw d _ hd fun xs z => by cases z]; exact D.fd, X.ff.seq D.sc, i, m, r, X.hh _ _ hd h, g⟩
theorem SeatAt.xm {K : PySem.W.Frag} {C : Addr} {F H F' H' : Hp} {p : Addr} {rs : List Row} {t : Int} {M : Addr → Prop} (A : SeatAt K C F H p rs t) (X : XM M F H F' H') (h : ¬ M p) : SeatAt K C F' H' p rs t := by
  obtain ⟨dx, ra, ob, kr⟩ := A.ob
  exact ⟨⟨dx, ra, X.hh _ _ ob h, (kL kRow).mono X.ff kr⟩, by rw [X.nw _ _ ob fun xs z => by cases z]; exact A.fp⟩
/-! ### the law's own seat -/
def ownV (t : Int) (r : Addr) : List (Key × V) := [(.inr "term", .int t), (.inr "rows", .ref r)]
theorem own_term (t : Int) (r : Addr) : valV (ownV t r) (Sum.inr "term" : Key) = some (.int t) := by rfl
theorem own_rows (t : Int) (r : Addr) : valV (ownV t r) (Sum.inr "rows" : Key) = some (.ref r) := by rfl
theorem own_put (t u : Int) (r : Addr) : putK (ownV t r) (Sum.inr "term" : Key) (.int u) = ownV u r := by rfl
structure OwnAt (F H : Hp) (w r : Addr) (t : Int) (ps : List Pt) : Prop where
  hw : H w = some (.dK (ownV t r))
  fw : F w = none
  hr : ∃ kvs, H r = some (.dT kvs) ∧ DKy kvs ps
  fr : F r = none
theorem OwnAt.xm {F H F' H' : Hp} {w r : Addr} {t : Int} {ps : List Pt} {M : Addr → Prop} (A : OwnAt F H w r t ps) (X : XM M F H F' H') (h1 : ¬ M w) (h2 : ¬ M r) : OwnAt F' H' w r t ps := by
  obtain ⟨kvs, hr, dk⟩ := A.hr
  exact ⟨X.hh _ _ A.hw h1, by rw [X.nw _ _ A.hw fun xs z => by cases z]; exact A.fw, ⟨kvs, X.hh _ _ hr h2, dk⟩, by rw [X.nw _ _ hr fun xs z => by cases z]; exact A.fr⟩
theorem OwnAt.ne {F H : Hp} {w r : Addr} {t : Int} {ps : List Pt} (A : OwnAt F H w r t ps) : w ≠ r := fun e => by
  obtain ⟨kvs, hr, dk⟩ := A.hr
  rw [← e, A.hw] at hr
  cases hr
/-- the rows of a set of names -/
structure RowsOf (ps : List Pt) (out : List Row) : Prop where
  can : Canon out
  mem : ∀ p, mem out p ↔ p ∈ ps
  len : out.length ≤ ps.length
theorem RowsOf.uniq {ps : List Pt} {a b : List Row} (x : RowsOf ps a) (y : RowsOf ps b) : a = b := Canon.uniq x.can y.can fun p => (x.mem p).trans (y.mem p).symm
/-- rows told, and the own seat behind it -/
def RetO (F H : Hp) (M : Addr → Prop) (w r : Addr) (u : Int) (φ : List Pt → Prop) (Q : VK) : Prop := ∀ (F' H' : Hp) (a : Addr) (vs : List V) (out : List Row) (ps : List Pt), XM M F H F' H' → OwnAt F' H' w r u ps → φ ps → RowsOf ps out → H a = none → F' a = none → H' a = some (.lst vs) → Paired (kRow.is F') vs out → Q (.ref a) H'
def spLSeat : Sp := fun vs H Q _ => ∃ (F : Hp), vs = [] ∧ Same F H ∧ ∀ (F' H' : Hp) (w r : Addr), Ext M0 F H F' H' → H w = none → H r = none → OwnAt F' H' w r 0 [] → Q (.ref w) H'
def spAsked : Sp := fun vs H Q _ => ∃ (F : Hp) (w r : Addr) (t u : Int) (ps : List Pt), vs = [.ref w, .int u] ∧ Same F H ∧ OwnAt F H w r t ps ∧ ps.length ≤ 100000 ∧ (u ≤ t → Q (.str "old") H) ∧ (t < u → RetO F H (· = w) w r u (· = ps) Q)
def spLKept : Sp := fun vs H Q _ => ∃ (F : Hp) (w r : Addr) (t u : Int) (ps : List Pt) (v : V) (more : List Row), vs = [.ref w, .int u, v] ∧ Same F H ∧ OwnAt F H w r t ps ∧ ps.length ≤ 50000 ∧ (kL kRow).is F v more ∧ Small more ∧ more.length ≤ 10 ∧ (u < max 1 t → Q (.str "old") H) ∧
  (max 1 t ≤ u → RetO F H (fun b => b = w ∨ b = r) w r u (fun qs => ∀ p, p ∈ qs ↔ p ∈ ps ∨ mem more p) Q)
theorem kPt_absb {F H : Hp} {v : V} {p : Pt} (h : kPt.is H v p) : kPt.is (absb F H) v p := by
  obtain ⟨t, e, ht⟩ := h
  exact ⟨t, e, absb_tup ht⟩
section
variable {P : Program} {w : World} {K : PySem.W.Frag} {mg : Str → Option Value} {base : Heap}
theorem ok_law_seat {f : Addr} {fd : FuncData} (F0 : Fun K "_law_seat" "_law_seat" s_law_seat f fd) : FnOk P w K mg base CX0 1 f fd [] spLSeat := by
  refine F0.ok sc_law_seat (fun vs H Q E h => ?_) (fun cdv A outer s H vs Q E hr h => ?_)
  · obtain ⟨F, rfl, _⟩ := h
    rfl
  · obtain ⟨F, rfl, fh, q⟩ := h
    refine ⟨_, pss_one (ps_ret (pe_disp (pps_cons pe_str pe_int (pps_cons pe_str pe_dnewT pps_nil)) (by rfl) (by rfl) (fun z => by cases z) (by decide))), ?_⟩
    intro p np r nr
    have hp : upd H p (.dK []) p = some (.dK []) := upd_same
    have npr : p ≠ r := ne_of_none hp nr
    have nr0 : H r = none := by rw [upd_ne npr.symm] at nr; exact nr
    refine ⟨by rw [upd_ne npr]; exact upd_same, [(.inr "term", .int 0), (.inr "rows", .ref r)], rfl, by show 2 ≤ 15; decide, ?_⟩
    have X := (((Ext.refl (M := M0) fh).tmp (o := .dK []) np).put (p := r) (o := .dT []) (.inl nr0) (fh.free nr0)).put (p := p) (o := .dK (ownV 0 r)) (.inl np) (fh.free np)
    exact q F _ p r X np nr0 ⟨upd_same, fh.free np, ⟨[], by rw [upd_ne npr.symm]; exact upd_same, DKy.nil⟩, fh.free nr0⟩
/-- told_rows(sorted(own["rows"])), the own seat at hand -/
theorem told_own {F F1 H H1 : Hp} {M : Addr → Prop} {w r : Addr} {u : Int} {ps : List Pt} {φ : List Pt → Prop} {Q : VK} (X : XM M F H F1 H1) (A : OwnAt F1 H1 w r u ps) (fm : ∀ c, M c → ∀ xs, H1 c ≠ some (.tup xs)) (lp : ps.length ≤ 100000) (hφ : φ ps) (q : RetO F H M w r u φ Q) :
    ∀ (ys : List V) (qs : List Pt) (p : Addr), Paired (kPt.is H1) ys qs → qs.Perm ps → qs.Pairwise lt2 → H1 p = none → spTold [.ref p] (upd H1 p (.lst ys)) Q E0 := by
  intro ys qs p hys hperm hsort np
  have X2 := X.absb fm
  have nf := X2.fh.free np
  have X3 := X2.lay (o := .lst ys) np
  have A3 : OwnAt (upd (absb F1 H1) p (.lst ys)) (upd H1 p (.lst ys)) w r u ps := by
    have Y : XM M0 F1 H1 (upd (absb F1 H1) p (.lst ys)) (upd H1 p (.lst ys)) := ((XM.refl X.fh).absb fun c z => z.elim).lay np
    exact A.xm Y id id
  have kq : (kL kPt).is (upd (absb F1 H1) p (.lst ys)) (.ref p) qs := kL_new nf (pr_mono (fun _ _ z => kPt_absb z) hys)
  refine ⟨_, .ref p, qs, rfl, X3.fh, kq, hsort, by rw [hperm.length_eq]; omega, fun F4 H4 a vs out X4 na fa ha hp4 tl => ?_⟩
  exact q F4 H4 a vs out ps (X3.step X4) (A3.xm (.of X4) id id) hφ ⟨tl.can, fun p => by rw [tl.mem p, hperm.mem_iff], by have := tl.len; rw [hperm.length_eq] at this; exact this⟩ (X3.free na) fa ha hp4
theorem ok_law_asked {f : Addr} {fd : FuncData} (F0 : Fun K "_law_asked" "_law_asked" s_law_asked f fd) (T : TxN mg) (CT : Cal P w K mg base 1 "_law_told_rows" ["_law_names_here"] spTold) : FnOk P w K mg base CX0 2 f fd ["_law_seat_here", "_law_term"] spAsked := by
  obtain ⟨f1, fd1, G1, g1, kp1, b1⟩ := CT
  refine F0.ok sc_law_asked (fun vs H Q E h => ?_) (fun cdv A outer s H vs Q E hr h => ?_)
  · obtain ⟨F, w, r, t, u, ps, rfl, _⟩ := h
    rfl
  · obtain ⟨F, w, r, t, u, ps, rfl, fh, A, lp, q1, q2⟩ := h
    have hu := hu_of hr
    refine ⟨_, pss_cons (ps_if (pt_cmpR op_le (pv 1) (pe_dget hu (pv 0) pe_str (fun _ _ => rfl)) (nomark _)) (pss_one (ps_ret pe_str)) pss_nil)
      (pss_cons (ps_dput hu (pv 0) pe_str (pv 1) rfl)
      (pss_one (ps_ret (pe_call G1 hr (by rfl) g1 kp1 b1 .nil pass0 (pa_cons (pe_callB (cr_sortedDT (by rfl)) (by rfl) T.sorted (by decide +kernel) (pa_cons (pe_dget hu (pv 0) pe_str (fun _ _ => rfl)) pa_nil)) pa_nil))))), ?_⟩
    refine ⟨_, rfl, _, rfl, w, _, rfl, DGet.k (k := Sum.inr "term") A.hw, _, _, rfl, rfl, _, rfl, ite2 (fun c => ?_) (fun c => ?_)⟩
    · exact q1 (of_decide_eq_true c)
    · have c' : ¬ u ≤ t := fun z => c (decide_eq_true z)
      refine ⟨_, rfl, _, rfl, w, _, rfl, DPut.k (k := Sum.inr "term") A.hw (by show 2 < sizeLine; decide), ?_⟩
      rw [own_put]
      have X1 := (XM.refl (M := (· = w)) fh).put (p := w) (o := .dK (ownV u r)) (.inr rfl) A.fw
      have A1 : OwnAt F (upd H w (.dK (ownV u r))) w r u ps := by
        obtain ⟨kvs, hr', dk⟩ := A.hr
        exact ⟨upd_same, A.fw, ⟨kvs, by rw [upd_ne A.ne.symm]; exact hr', dk⟩, A.fr⟩
      obtain ⟨kvs, hr', dk⟩ := A1.hr
      refine ⟨_, rfl, w, .ref r, rfl, DGet.k (k := Sum.inr "rows") A1.hw, r, kvs, ps, rfl, hr', dk.keys, dk.nd, ?_⟩
      exact told_own (φ := (· = ps)) X1 A1 (fun c e xs z => by rw [show c = w from e, upd_same] at z; cases z) lp rfl (q2 (by omega))
theorem ok_law_kept {f : Addr} {fd : FuncData} (F0 : Fun K "_law_kept" "_law_kept" s_law_kept f fd) (T : TxN mg) (hmax : mg "max" = none) (CN : Cal P w K mg base 1 "_law_names" ["_law_rows_here"] spNames) (CT : Cal P w K mg base 1 "_law_told_rows" ["_law_names_here"] spTold) :
    FnOk P w K mg base CX0 2 f fd ["_law_seat_here", "_law_term", "_law_rows_here"] spLKept := by
  obtain ⟨f1, fd1, G1, g1, kp1, b1⟩ := CT
  obtain ⟨f2, fd2, G2, g2, kp2, b2⟩ := CN
  refine F0.ok sc_law_kept (fun vs H Q E h => ?_) (fun cdv A outer s H vs Q E hr h => ?_)
  · obtain ⟨F, w, r, t, u, ps, v, more, rfl, _⟩ := h
    rfl
  · obtain ⟨F, w, r, t, u, ps, v, more, rfl, fh, A, lp, hv, sm, l10, q1, q2⟩ := h
    have hu := hu_of hr
    refine ⟨_, pss_cons (ps_if (pt_cmpR op_lt (pv 1) (pe_callB (call_max2 (by rfl)) (by rfl) hmax (by decide +kernel) (pa_cons pe_int (pa_cons (pe_dget hu (pv 0) pe_str (fun _ _ => rfl)) pa_nil))) (nomark _)) (pss_one (ps_ret pe_str)) pss_nil)
      (pss_cons (ps_dput hu (pv 0) pe_str (pv 1) rfl)
      (pss_cons (ps_for PassesOwn.never rfl (pi_list (pe_call G2 hr (by rfl) g2 kp2 b2 .nil pass0 (pa_cons (pv 2) pa_nil))) (pg_name (i := 3) sc_law_kept.nd rfl (.inl rfl))
        (pss_one (ps_dput hu (pe_dget hu (pv 0) pe_str (fun _ _ => rfl)) (pv 3) pe_bl rfl)))
      (pss_one (ps_ret (pe_call G1 hr (by rfl) g1 kp1 b1 .nil pass0 (pa_cons (pe_callB (cr_sortedDT (by rfl)) (by rfl) T.sorted (by decide +kernel) (pa_cons (pe_dget hu (pv 0) pe_str (fun _ _ => rfl)) pa_nil)) pa_nil)))))), ?_⟩
    refine ⟨_, rfl, _, rfl, w, _, rfl, DGet.k (k := Sum.inr "term") A.hw, _, _, rfl, ?_⟩
    have em : (if t > (1 : Int) then t else 1) = max 1 t := by
      by_cases z : t > (1 : Int)
      · rw [if_pos z]; omega
      · rw [if_neg z]; omega
    rw [em]
    refine ⟨_, _, rfl, rfl, _, rfl, ite2 (fun c => ?_) (fun c => ?_)⟩
    · exact q1 (of_decide_eq_true c)
    · have c' : max 1 t ≤ u := Int.not_lt.mp fun z => c (decide_eq_true z)
      refine ⟨_, rfl, _, rfl, w, _, rfl, DPut.k (k := Sum.inr "term") A.hw (by show 2 < sizeLine; decide), ?_⟩
      rw [own_put]
      have X1 := (XM.refl (M := fun b => b = w ∨ b = r) fh).put (p := w) (o := .dK (ownV u r)) (.inr (.inl rfl)) A.fw
      have A1 : OwnAt F (upd H w (.dK (ownV u r))) w r u ps := by
        obtain ⟨kvs, hr', dk⟩ := A.hr
        exact ⟨upd_same, A.fw, ⟨kvs, by rw [upd_ne A.ne.symm]; exact hr', dk⟩, A.fr⟩
      revert X1 A1
      generalize upd H w (.dK (ownV u r)) = H1
      intro X1 A1
      have notT : ∀ {F' H' : Hp} {ps' : List Pt}, OwnAt F' H' w r u ps' → ∀ c, (c = w ∨ c = r) → ∀ xs, H' c ≠ some (.tup xs) := by
        rintro F' H' ps' B c (rfl | rfl) xs z
        · rw [B.hw] at z; cases z
        · obtain ⟨kvs, hr', dk⟩ := B.hr
          rw [hr'] at z; cases z
      have X2 := X1.absb (notT A1)
      have Y2 : XM M0 F H1 (absb F H1) H1 := (XM.refl X1.fh).absb fun c z => z.elim
      have A2 := A1.xm Y2 id id
      refine ⟨_, rfl, _, v, more, rfl, X2.fh, absb_full, (kL kRow).mono X2.ff hv, sm, fun F3 H3 a vs names X3 na fa ha hp nm => ?_⟩
      have X4 := (X2.step X3).frz (X1.free na) fa ha
      have Y4 : XM M0 (absb F H1) H1 (upd F3 a (.lst vs)) H3 := (XM.of X3).frz na fa ha
      have A4 := A2.xm Y4 id id
      have hpn : Paired (kPt.is (upd F3 a (.lst vs))) vs names := pr_mono (fun _ _ z => kPt.mono (same_upd fa) z) hp
      have hlst : upd F3 a (.lst vs) a = some (.lst vs) := upd_same
      revert X4 A4 hpn hlst
      generalize upd F3 a (.lst vs) = F4
      intro X4 A4 hpn hlst
      have ln : names.length ≤ 4000 := by have := nm.len; omega
      refine ⟨a, rfl, ⟨vs, SqL.of ha⟩, for_list (K := K) (a := a) (xs := vs) (fun i σ H' => ∃ y3 qs, σ = [some (.ref w), some (.int u), some v, y3] ∧ XM (fun b => b = w ∨ b = r) F H F4 H' ∧ OwnAt F4 H' w r u qs ∧ (∀ p, p ∈ qs ↔ p ∈ ps ∨ p ∈ names.take i) ∧ qs.length ≤ ps.length + i)
        ⟨none, ps, rfl, X4, A4, fun p => by simp, Nat.le_refl _⟩ (fun i σ H' _ ⟨_, _, _, X5, _⟩ => SqL.of (X5.fh _ _ hlst)) ?_ ?_⟩
      · rintro i x σ H5 hi ⟨y3, qs, rfl, X5, A5, hm, hl⟩
        obtain ⟨nme, hn, tt, rfl, ht⟩ := pr_get hpn hi
        obtain ⟨kvs, hr5, dk⟩ := A5.hr
        have il : i < names.length := (List.getElem?_eq_some_iff.mp hn).1
        obtain ⟨qs', dk', hm', hl'⟩ := dk.put nme (.bl true)
        refine ⟨_, rfl, w, .ref r, rfl, DGet.k (k := Sum.inr "rows") A5.hw, _, rfl, r, _, rfl, DPut.t (k := kk nme) hr5 (X5.fh _ _ ht) (by rw [dk.len, sizeLine_eq]; omega), ?_⟩
        have ne := A5.ne
        refine ⟨_, qs', rfl, X5.put (.inr (.inr rfl)) A5.fr, ⟨by rw [upd_ne ne]; exact A5.hw, A5.fw, ⟨_, upd_same, dk'⟩, A5.fr⟩, fun p => ?_, by omega⟩
        rw [hm' p, hm p, List.take_add_one, hn]
        simp only [List.mem_append, Option.toList, List.mem_singleton]
        exact or_assoc
      · rintro σ H5 ⟨y3, qs, rfl, X5, A5, hm, hl⟩
        have el : vs.length = names.length := pr_len hpn
        rw [el, List.take_length] at hm
        obtain ⟨kvs, hr5, dk⟩ := A5.hr
        refine ⟨_, rfl, w, .ref r, rfl, DGet.k (k := Sum.inr "rows") A5.hw, r, kvs, qs, rfl, hr5, dk.keys, dk.nd, ?_⟩
        exact told_own (φ := fun qs => ∀ p, p ∈ qs ↔ p ∈ ps ∨ mem more p) X5 A5 (notT A5) (by omega) (fun p => by rw [hm p, nm.mem p]) (q2 c')
end
end Rw
namespace Rw
open PySem PySem.Spec PyProof.Rows L2
/-! ### _law_told(lambda: ..), in one -/
def tTold1 (X : Cx) (P : Addr) (tb : XK → TE) : TE := fun σ H Q => LamX.TabS H P (X.env.qual ++ "<lambda>") ∧ ∀ H1, Grow P H H1 → LamX.TabS H1 P (X.env.qual ++ "<lambda>") → tb (EW X.K Q) σ H1 Q
theorem pe_told1 {X : Cx} {tb : XK → TE} {k : Nat} {g c P : Addr} {fd : FuncData} {ps : Arguments} {body : Expr} {sc : Scope} {lpos p pos : Pos} (df : Df) (T : ToldC X.K X.mg) (F : Fun X.K "_law_told" "_law_told" s_law_told g fd) (hg : Gl X "_law_told") (hm : X.mg "_law_told" = some (.ref g))
    (hr : Room (k + 2) X.A) (TB : LamX.TabB X.base X.mg c P) (hcode : X.env.code = .ref c) (hok : lamOkB X.N X.env.scope ⟨ps, body, sc, df⟩ = true) (hdf : DfIs ⟨ps, body, sc, df⟩) (hb : DfB ⟨ps, body, sc, df⟩)
    (hbody : ∀ (E : XK) (A : Around) (outer : List Env) (s : Shared) (H : Hp) (f c' : Addr), Room k (A.deeper (lEnv X ⟨ps, body, sc, df⟩ s.heap.objs.size f c')) → PE (lCx X A outer s H E ⟨ps, body, sc, df⟩ f c') body (tb E))
    (h1 : starEach [.Lambda ps body sc lpos] X.env = (false, eval (.Lambda ps body sc lpos) X.env) :: starEach [] X.env := by rfl) (h2 : (backTo pos (starEach [] X.env)).any (·.1) = false := by rfl) :
    PE X (.Call (.Name "_law_told" p) [.Lambda ps body sc lpos] [] pos) (tTold1 X P tb) := by
  have L := lamOk_by hok
  have he := pe_lamV (X := X) (l := ⟨ps, body, sc, df⟩) (pos := lpos) rfl rfl rfl TB hcode L.free hdf
  have ht := pe_told (LS := [⟨ps, body, sc, df⟩]) (tb := fun E _ => tb E) (p := p) (pos := pos) T F hg hm hr he (fun l hl => by
    obtain rfl := List.mem_singleton.mp hl
    exact ⟨L, hb, hbody⟩) h1 h2
  refine ⟨fun pins s σ H Q I h => ht.run pins s σ H Q I ?_⟩
  obtain ⟨hT, h⟩ := h
  exact ⟨hT, fun f H1 gr tab nf la => ⟨_, List.mem_singleton.mpr rfl, f, rfl, la, h H1 gr tab⟩⟩
theorem EW.plain {K : PySem.W.Frag} {Q : VK} {H : Hp} (i : Nat) (hi : i < 9) (h1 : ¬ (i = 0 ∨ i = 3 ∨ i = 8)) (h2 : i ≠ 5) (q : ∀ H' t, Same H H' → H t = none → H' t = some (.tup [.str (exW i)]) → Q (.ref t) H') : EW K Q (.ref (exC K i)) none H := by
  refine ⟨i, hi, rfl, fun dd e => (nomatch e), ?_⟩
  rw [if_neg h1, if_neg h2]
  exact q
theorem EW.bad {K : PySem.W.Frag} {Q : VK} {H : Hp} {i : Nat} (q : ∀ H' t, Same H H' → H t = none → H' t = some (.tup [.str "stretches", .int i]) → Q (.ref t) H') : BadAt K H i (EW K Q) := by
  intro H' d sm nd hd
  refine ⟨0, by decide, rfl, fun dd e => by cases e; exact ⟨_, hd⟩, ?_⟩
  rw [if_pos (.inl rfl)]
  exact ⟨d, _, .int i, rfl, hd, rfl, fun H2 t s2 n2 e2 => q H2 t (sm.trans s2) (sm.free n2) e2⟩
/-! ### two seats and their own -/
structure Sd where
  p : Addr
  w : Addr
  r : Addr
  t : Int
  ps : List Pt
  rs : List Row
def Bx (q : Pt) : Prop := 0 ≤ q.1 ∧ q.1 ≤ 2 ∧ 1 ≤ q.2 ∧ q.2 ≤ 9
structure SideAt (K : PySem.W.Frag) (C : Addr) (F H : Hp) (x : Sd) : Prop where
  seat : SeatAt K C F H x.p x.rs x.t
  own : OwnAt F H x.w x.r x.t x.ps
  rows : RowsOf x.ps x.rs
  box : ∀ q ∈ x.ps, Bx q
  t0 : 0 ≤ x.t
def box27 : List Pt := (List.range 3).flatMap fun (h : Nat) => (List.range 9).map fun (n : Nat) => ((h : Int), (n : Int) + 1)
theorem box27_len : box27.length = 27 := by decide +kernel
theorem box27_mem {p : Pt} (b : Bx p) : p ∈ box27 := by
  obtain ⟨a, b, c, e⟩ := b
  refine List.mem_flatMap.mpr ⟨p.1.toNat, by simp; omega, List.mem_map.mpr ⟨(p.2 - 1).toNat, by simp; omega, Prod.ext ?_ ?_⟩⟩
  · show (p.1.toNat : Int) = p.1; omega
  · show ((p.2 - 1).toNat : Int) + 1 = p.2; omega
end Rw
namespace Rw
open PySem PySem.Spec PyProof.Rows L2
def qDeed : Str := ("_law_deed" : Str) ++ ".<locals>." ++ "<lambda>"
/-- the state within a deed: the seat's and the law's own may part -/
structure B21 (K : PySem.W.Frag) (C d s : Addr) (ns : List Int) (P : Addr) (F H : Hp) (p w r : Addr) (rs : List Row) (t u : Int) (ps : List Pt) (y : Sd) : Prop where
  dice : DiceAt K F H d s ns
  tab : LamX.TabS H P qDeed
  fP : F P = none
  seat : SeatAt K C F H p rs t
  own : OwnAt F H w r u ps
  sy : SideAt K C F H y
  np : p ≠ y.p
  nw : w ≠ y.w
  nr : r ≠ y.r
section
variable {K : PySem.W.Frag} {C d s : Addr} {ns : List Int} {P : Addr} {F H F' H' : Hp} {p w r : Addr} {rs : List Row} {t u : Int} {ps : List Pt} {y : Sd} {M : Addr → Prop}
theorem SideAt.xm {x : Sd} (S : SideAt K C F H x) (X : XM M F H F' H') (h1 : ¬ M x.p) (h2 : ¬ M x.w) (h3 : ¬ M x.r) : SideAt K C F' H' x := ⟨S.seat.xm X h1, S.own.xm X h2 h3, S.rows, S.box, S.t0⟩
theorem B21.same (B : B21 K C d s ns P F H p w r rs t u ps y) : Same F H := B.dice.fh
theorem TabS.xm {q : Str} (T : LamX.TabS H P q) (X : XM M F H F' H') (h : ¬ M P) (hc : ∀ c o, H c = some o → (∀ xs, o ≠ .tup xs) → M c → ∀ φ, o ≠ .ext φ) : LamX.TabS H' P q := by
  obtain ⟨pp, h1, h2, h3⟩ := T
  refine ⟨pp, X.hh _ _ h1 h, h2, fun pos cv hcv => ?_⟩
  obtain ⟨c, e1, e2⟩ := h3 pos cv hcv
  refine ⟨c, e1, X.hh _ _ e2 fun m => ?_⟩
  exact hc c _ e2 (fun xs z => by unfold LamX.CodeO at z; cases z) m _ rfl
/-- the places of a deed and what stands there -/
theorem B21.kinds (B : B21 K C d s ns P F H p w r rs t u ps y) : (∃ xs, H d = some (.lst xs)) ∧ (∃ pp, H P = some (.tbl pp)) ∧ (∃ dx fs, H p = some (.ins C dx fs)) ∧ (∃ kv, H w = some (.dK kv)) ∧ (∃ kv, H r = some (.dT kv)) ∧ (∃ dx fs, H y.p = some (.ins C dx fs)) ∧ (∃ kv, H y.w = some (.dK kv)) ∧ ∃ kv, H y.r = some (.dT kv) := by
  obtain ⟨i, m, r', hd, g⟩ := B.dice.ex
  obtain ⟨pp, hp, _⟩ := B.tab
  obtain ⟨dx, ra, ob, _⟩ := B.seat.ob
  obtain ⟨kv, hr, _⟩ := B.own.hr
  obtain ⟨dx2, ra2, ob2, _⟩ := B.sy.seat.ob
  obtain ⟨kv2, hr2, _⟩ := B.sy.own.hr
  exact ⟨⟨_, hd⟩, ⟨_, hp⟩, ⟨_, _, ob⟩, ⟨_, B.own.hw⟩, ⟨_, hr⟩, ⟨_, _, ob2⟩, ⟨_, B.sy.own.hw⟩, ⟨_, hr2⟩⟩
/-- a step that changes no more than the deed's own -/
theorem B21.go {rs' : List Row} {t' u' : Int} {ps' : List Pt} (B : B21 K C d s ns P F H p w r rs t u ps y) (X : XM M F H F' H') (hM : ∀ b, M b → H b = none ∨ b = d ∨ b = P ∨ b = p ∨ b = w ∨ b = r) (D : DiceAt K F' H' d s ns) (T : LamX.TabS H' P qDeed) (A : SeatAt K C F' H' p rs' t') (O : OwnAt F' H' w r u' ps') :
    B21 K C d s ns P F' H' p w r rs' t' u' ps' y := by
  obtain ⟨⟨_, kd⟩, ⟨_, kP⟩, ⟨_, _, kp⟩, ⟨_, kw⟩, ⟨_, kr⟩, ⟨_, _, k1⟩, ⟨_, k2⟩, ⟨_, k3⟩⟩ := B.kinds
  refine ⟨D, T, by rw [X.nw P _ kP fun xs z => by cases z]; exact B.fP, A, O, B.sy.xm X (fun m => ?_) (fun m => ?_) (fun m => ?_), B.np, B.nw, B.nr⟩
  · rcases hM _ m with e | e | e | e | e | e
    · rw [k1] at e; cases e
    · rw [e, kd] at k1; cases k1
    · rw [e, kP] at k1; cases k1
    · exact B.np e.symm
    · rw [e, kw] at k1; cases k1
    · rw [e, kr] at k1; cases k1
  · rcases hM _ m with e | e | e | e | e | e
    · rw [k2] at e; cases e
    · rw [e, kd] at k2; cases k2
    · rw [e, kP] at k2; cases k2
    · rw [e, kp] at k2; cases k2
    · exact B.nw e.symm
    · rw [e, kr] at k2; cases k2
  · rcases hM _ m with e | e | e | e | e | e
    · rw [k3] at e; cases e
    · rw [e, kd] at k3; cases k3
    · rw [e, kP] at k3; cases k3
    · rw [e, kp] at k3; cases k3
    · rw [e, kw] at k3; cases k3
    · exact B.nr e.symm
theorem B21.quiet (B : B21 K C d s ns P F H p w r rs t u ps y) (X : XM M0 F H F' H') : B21 K C d s ns P F' H' p w r rs t u ps y :=
  B.go X (fun b z => z.elim) (B.dice.xm X id) (TabS.xm B.tab X id fun _ _ _ _ m => m.elim) (B.seat.xm X id) (B.own.xm X id id)
theorem B21.dice' (B : B21 K C d s ns P F H p w r rs t u ps y) (X : Ext (· = d) F H F' H') (D : DiceAt K F' H' d s ns) : B21 K C d s ns P F' H' p w r rs t u ps y := by
  obtain ⟨⟨_, kd⟩, ⟨_, kP⟩, ⟨_, _, kp⟩, ⟨_, kw⟩, ⟨_, kr⟩, _⟩ := B.kinds
  refine B.go (.of X) (fun b e => .inr (.inl e)) D (TabS.xm B.tab (.of X) (fun e => ?_) fun c o hc _ e φ z => ?_) (B.seat.xm (.of X) fun e => ?_) (B.own.xm (.of X) (fun e => ?_) fun e => ?_)
  · rw [show P = d from e, kd] at kP; cases kP
  · rw [show c = d from e, kd] at hc
    cases hc
    cases z
  · rw [show p = d from e, kd] at kp; cases kp
  · rw [show w = d from e, kd] at kw; cases kw
  · rw [show r = d from e, kd] at kr; cases kr
theorem B21.grow {H1 : Hp} (B : B21 K C d s ns P F H p w r rs t u ps y) (g : Grow P H H1) (T : LamX.TabS H1 P qDeed) : B21 K C d s ns P F H1 p w r rs t u ps y := by
  obtain ⟨⟨_, kd⟩, ⟨_, kP⟩, ⟨_, _, kp⟩, ⟨_, kw⟩, ⟨_, kr⟩, _⟩ := B.kinds
  have X := XM.of (g.ext B.same B.fP)
  refine B.go X (fun b e => .inr (.inr (.inl e))) (B.dice.xm X fun e => ?_) T (B.seat.xm X fun e => ?_) (B.own.xm X (fun e => ?_) fun e => ?_)
  · rw [show d = P from e, kP] at kd; cases kd
  · rw [show p = P from e, kP] at kp; cases kp
  · rw [show w = P from e, kP] at kw; cases kw
  · rw [show r = P from e, kP] at kr; cases kr
theorem B21.seat' {rs' : List Row} {t' : Int} (B : B21 K C d s ns P F H p w r rs t u ps y) (X : Ext (· = p) F H F' H') (A : SeatAt K C F' H' p rs' t') : B21 K C d s ns P F' H' p w r rs' t' u ps y := by
  obtain ⟨⟨_, kd⟩, ⟨_, kP⟩, ⟨_, _, kp⟩, ⟨_, kw⟩, ⟨_, kr⟩, _⟩ := B.kinds
  refine B.go (.of X) (fun b e => .inr (.inr (.inr (.inl e)))) (B.dice.xm (.of X) fun e => ?_) (TabS.xm B.tab (.of X) (fun e => ?_) fun c o hc _ e φ z => ?_) A (B.own.xm (.of X) (fun e => ?_) fun e => ?_)
  · rw [show d = p from e, kp] at kd; cases kd
  · rw [show P = p from e, kp] at kP; cases kP
  · rw [show c = p from e, kp] at hc
    cases hc
    cases z
  · rw [show w = p from e, kp] at kw; cases kw
  · rw [show r = p from e, kp] at kr; cases kr
theorem B21.own' {w2 : Addr} {u' : Int} {ps' : List Pt} (B : B21 K C d s ns P F H p w r rs t u ps y) (X : XM (fun b => b = w2 ∨ b = r) F H F' H') (hw : w2 = w ∨ H w2 = none) (A : OwnAt F' H' w r u' ps') : B21 K C d s ns P F' H' p w r rs t u' ps' y := by
  obtain ⟨⟨_, kd⟩, ⟨_, kP⟩, ⟨_, _, kp⟩, ⟨_, kw⟩, ⟨_, kr⟩, _⟩ := B.kinds
  have nm : ∀ {c : Addr} {o : HO}, H c = some o → (∀ kv, o ≠ .dK kv) → (∀ kv, o ≠ .dT kv) → ¬ (c = w2 ∨ c = r) := by
    rintro c o hc n1 n2 (e | e)
    · rcases hw with z | z
      · rw [e, z, kw] at hc; exact n1 _ (Option.some.inj hc).symm
      · rw [e, z] at hc; cases hc
    · rw [e, kr] at hc; exact n2 _ (Option.some.inj hc).symm
  refine B.go X (fun b e => e.elim (fun e => hw.elim (fun z => .inr (.inr (.inr (.inr (.inl (e.trans z)))))) fun z => .inl (by rw [e]; exact z)) fun e => .inr (.inr (.inr (.inr (.inr e))))) (B.dice.xm X (nm kd (fun _ z => by cases z) fun _ z => by cases z)) (TabS.xm B.tab X (nm kP (fun _ z => by cases z) fun _ z => by cases z) fun c o hc _ m φ z => ?_) (B.seat.xm X (nm kp (fun _ z => by cases z) fun _ z => by cases z)) A
  subst z
  exact nm hc (fun _ z => by cases z) (fun _ z => by cases z) m
end
/-- two seats, each with its own -/
structure S21 (K : PySem.W.Frag) (C d s : Addr) (ns : List Int) (P : Addr) (F H : Hp) (x y : Sd) : Prop where
  dice : DiceAt K F H d s ns
  tab : LamX.TabS H P qDeed
  fP : F P = none
  sx : SideAt K C F H x
  sy : SideAt K C F H y
  np : x.p ≠ y.p
  nw : x.w ≠ y.w
  nr : x.r ≠ y.r
theorem S21.swap {K : PySem.W.Frag} {C d s : Addr} {ns : List Int} {P : Addr} {F H : Hp} {x y : Sd} (S : S21 K C d s ns P F H x y) : S21 K C d s ns P F H y x := ⟨S.dice, S.tab, S.fP, S.sy, S.sx, S.np.symm, S.nw.symm, S.nr.symm⟩
theorem S21.b {K : PySem.W.Frag} {C d s : Addr} {ns : List Int} {P : Addr} {F H : Hp} {x y : Sd} (S : S21 K C d s ns P F H x y) : B21 K C d s ns P F H x.p x.w x.r x.rs x.t x.t x.ps y := ⟨S.dice, S.tab, S.fP, S.sx.seat, S.sx.own, S.sy, S.np, S.nw, S.nr⟩
theorem B21.s {K : PySem.W.Frag} {C d s : Addr} {ns : List Int} {P : Addr} {F H : Hp} {p w r : Addr} {rs : List Row} {t : Int} {ps : List Pt} {y : Sd} (B : B21 K C d s ns P F H p w r rs t t ps y) (R : RowsOf ps rs) (bx : ∀ q ∈ ps, Bx q) (t0 : 0 ≤ t) : S21 K C d s ns P F H ⟨p, w, r, t, ps, rs⟩ y :=
  ⟨B.dice, B.tab, B.fP, ⟨B.seat, B.own, R, bx, t0⟩, B.sy, B.np, B.nw, B.nr⟩
theorem S21.quiet {K : PySem.W.Frag} {C d s : Addr} {ns : List Int} {P : Addr} {F H F' H' : Hp} {x y : Sd} (S : S21 K C d s ns P F H x y) (X : XM M0 F H F' H') : S21 K C d s ns P F' H' x y := by
  have B := S.b.quiet X
  exact ⟨B.dice, B.tab, B.fP, S.sx.xm X id id id, B.sy, B.np, B.nw, B.nr⟩
theorem SideAt.len {K : PySem.W.Frag} {C : Addr} {F H : Hp} {x : Sd} (S : SideAt K C F H x) : x.ps.length ≤ 27 ∧ x.rs.length ≤ 27 := by
  obtain ⟨kvs, hr, dk⟩ := S.own.hr
  have h1 : x.ps.length ≤ box27.length := nodup_sub x.ps box27 dk.nd fun q hq => box27_mem (S.box q hq)
  rw [box27_len] at h1
  exact ⟨h1, Nat.le_trans S.rows.len h1⟩
end Rw
namespace Rw
open PySem PySem.Spec PyProof.Rows L2
theorem seq_join {a b : TS} {D : Ends} {σ : L2.St} {H : Hp} (J : L2.St → Hp → Prop) (h2 : ∀ σ H, J σ H → b D σ H) (h1 : (∀ σ H, J σ H → b D σ H) → tSeq a b D σ H) : tSeq a b D σ H := h1 h2
theorem iteI {a b : Int} {A B : Prop} (h1 : a = b → A) (h2 : a ≠ b → B) : if decide (V.int a = V.int b) = true then A else B := by
  by_cases h : a = b
  · rw [h, decide_eq_true rfl]; exact iteT (h1 h)
  · rw [decide_eq_false fun z => h (V.int.inj z)]; exact iteF (h2 h)
theorem iteL {c : Prop} [Decidable c] {A B : Prop} (h1 : c → A) (h2 : ¬ c → B) : if decide c = true then A else B := by
  by_cases h : c
  · rw [decide_eq_true h]; exact iteT (h1 h)
  · rw [decide_eq_false h]; exact iteF (h2 h)
section
variable {K : PySem.W.Frag} {C d s : Addr} {ns : List Int} {P : Addr} {F H F' H' : Hp} {p w r b : Addr} {rs : List Row} {t u : Int} {ps : List Pt} {y : Sd} {vs : List V}
theorem SeatAt.fz (A : SeatAt K C F H p rs t) (f : F b = none) (hb : H b = some (.lst vs)) : SeatAt K C (upd F b (.lst vs)) H p rs t := by
  obtain ⟨dx, ra, ob, kr⟩ := A.ob
  exact ⟨⟨dx, ra, ob, (kL kRow).mono (same_upd f) kr⟩, by rw [upd_ne (fun e => by rw [e, hb] at ob; cases ob)]; exact A.fp⟩
theorem OwnAt.fz (A : OwnAt F H w r u ps) (f : F b = none) (hb : H b = some (.lst vs)) : OwnAt (upd F b (.lst vs)) H w r u ps := by
  obtain ⟨kvs, hr, dk⟩ := A.hr
  exact ⟨A.hw, by rw [upd_ne (fun e => by have := A.hw; rw [e, hb] at this; cases this)]; exact A.fw, ⟨kvs, hr, dk⟩, by rw [upd_ne (fun e => by rw [e, hb] at hr; cases hr)]; exact A.fr⟩
theorem DiceAt.fz (D : DiceAt K F H d s ns) (n : d ≠ b) (f : F b = none) (hb : H b = some (.lst vs)) : DiceAt K (upd F b (.lst vs)) H d s ns :=
  ⟨fun c x z => by
    by_cases hc : c = b
    · rw [hc, upd_same] at z; rw [hc, hb]; exact z
    · rw [upd_ne hc] at z; exact D.fh c x z, by rw [upd_ne n]; exact D.fd, (same_upd f).seq D.sc, D.ex⟩
theorem B21.fz (B : B21 K C d s ns P F H p w r rs t u ps y) (n : d ≠ b) (f : F b = none) (hb : H b = some (.lst vs)) : B21 K C d s ns P (upd F b (.lst vs)) H p w r rs t u ps y := by
  obtain ⟨pp, hp, _⟩ := B.tab
  exact ⟨B.dice.fz n f hb, B.tab, by rw [upd_ne (fun e => by rw [e, hb] at hp; cases hp)]; exact B.fP, B.seat.fz f hb, B.own.fz f hb, ⟨B.sy.seat.fz f hb, B.sy.own.fz f hb, B.sy.rows, B.sy.box, B.sy.t0⟩, B.np, B.nw, B.nr⟩
end
theorem drawn_ok {rows : List Row} (h : ∀ r ∈ rows, Drawn 3 9 r) : ∀ r ∈ rows, RowOk r := fun r hr => by
  obtain ⟨a, b, c, e, f⟩ := h r hr
  have eL : LIM = 1000000000000 := rfl
  exact ⟨a, by omega, c, e, by omega⟩
theorem drawn_small {rows : List Row} (h : ∀ r ∈ rows, Drawn 3 9 r) (l : (rows.length : Int) ≤ 3) : Small rows := ⟨by omega, fun r hr => by
  obtain ⟨a, b, c, e, f⟩ := h r hr
  exact ⟨c, e, by omega⟩⟩
theorem drawn_bx {rows : List Row} (h : ∀ r ∈ rows, Drawn 3 9 r) {q : Pt} (m : mem rows q) : Bx q := by
  obtain ⟨r, hr, i1, i2, i3⟩ := m
  obtain ⟨a, b, c, e, f⟩ := h r hr
  unfold Bx
  omega
def badRow : Row := (0, 2, 1)
theorem bad_at {rows : List Row} (h : ∀ r ∈ rows, Drawn 3 9 r) : badAt (rows ++ [badRow]) = some rows.length := by
  refine badAt_some (r := badRow) (fun j s hj hs => ?_) (by rw [List.getElem?_append_right (Nat.le_refl _), Nat.sub_self]; rfl) (by unfold badRow RowOk; simp only; omega)
  rw [List.getElem?_append_left hj] at hs
  exact drawn_ok h s (List.mem_of_getElem? hs)
theorem Twin.up {H : Hp} : ∀ {n : Nat} {v u : V}, Twin H n v u → Twin H (n + 1) v u
  | 0, _, _, h => h.elim
  | n + 1, v, u, .inl h => .inl h
  | n + 1, v, u, .inr ⟨a, b, xs, ys, ev, eu, h, l, e, p⟩ => .inr ⟨a, b, xs, ys, ev, eu, h, l, e, fun i x y hx hy => (p i x y hx hy).up⟩
theorem twin_int {H : Hp} {n : Nat} (i : Int) : Twin H (n + 1) (.int i) (.int i) := .inl (.inl ⟨i, rfl, rfl⟩)
theorem twin_str {H : Hp} {n : Nat} (z : Str) : Twin H (n + 1) (.str z) (.str z) := .inl (.inr (.inr (.inl ⟨z, rfl, rfl⟩)))
theorem twin_row {F H : Hp} {n : Nat} {v u : V} {r : Row} (s : Same F H) (a : kRow.is F v r) (b : kRow.is F u r) : Twin H (n + 2) v u := by
  obtain ⟨ta, rfl, ha⟩ := a
  obtain ⟨tb, rfl, hb⟩ := b
  refine .inr ⟨ta, tb, _, _, rfl, rfl, .inl ⟨s _ _ ha, s _ _ hb⟩, by show 3 ≤ 100000; decide, rfl, fun i x y hx hy => ?_⟩
  match i, hx, hy with
  | 0, hx, hy => cases hx; cases hy; exact twin_int _
  | 1, hx, hy => cases hx; cases hy; exact twin_int _
  | 2, hx, hy => cases hx; cases hy; exact twin_int _
  | i + 3, hx, hy => cases hx
theorem twin_rows {F H : Hp} {n : Nat} {a b : Addr} {vs us : List V} {out : List Row} (s : Same F H) (ha : H a = some (.lst vs)) (hb : H b = some (.lst us)) (pa : Paired (kRow.is F) vs out) (pb : Paired (kRow.is F) us out) (l : out.length ≤ 1000) : Twin H (n + 3) (.ref a) (.ref b) := by
  have e1 := pr_len pa
  have e2 := pr_len pb
  refine .inr ⟨a, b, vs, us, rfl, rfl, .inr ⟨ha, hb⟩, by omega, by omega, fun i x y hx hy => ?_⟩
  obtain ⟨r1, g1, k1⟩ := pr_get pa hx
  obtain ⟨r2, g2, k2⟩ := pr_get pb hy
  rw [g1] at g2
  cases g2
  exact twin_row s k1 k2
inductive Fit (d : Addr) (F H : Hp) : V → V → Prop where
  | old {a : Addr} (h : H a = some (.tup [.str "old"])) : Fit d F H (.str "old") (.ref a)
  | rows {a b : Addr} {vs us : List V} {out : List Row} (nd : d ≠ a) (ha : H a = some (.lst vs)) (fa : F a = none) (pa : Paired (kRow.is F) vs out) (hb : F b = some (.lst us)) (pb : Paired (kRow.is F) us out) (l : out.length ≤ 27) : Fit d F H (.ref b) (.ref a)
  | bad {a b : Addr} {z : Int} (ha : H a = some (.tup [.str "stretches", .int z])) (hb : H b = some (.tup [.str "stretches", .int z])) : Fit d F H (.ref b) (.ref a)
def J21 (K : PySem.W.Frag) (C d s : Addr) (ns : List Int) (Pd : Addr) (F0 : Hp) (x y : Sd) : L2.St → Hp → Prop := fun σ H' => ∃ F' x' due found k3 k6 k7 k8 k9, σ = [some (.ref d), some (.ref x.p), some (.ref x.w), k3, some due, some found, k6, k7, k8, k9] ∧
  S21 K C d s ns Pd F' H' x' y ∧ x'.p = x.p ∧ x'.w = x.w ∧ Same F0 F' ∧ Fit d F' H' due found
theorem eqv_list_str (xs : List PyData) (z : Str) : PyData.eqv (.list xs) (.str z) = false := by rw [PyData.eqv]
theorem eqv_tup_str (xs : List PyData) (z : Str) : PyData.eqv (.tuple xs) (.str z) = false := by rw [PyData.eqv]
theorem twin_tups {H : Hp} {n : Nat} {a b : Addr} {xs : List V} (ha : H a = some (.tup xs)) (hb : H b = some (.tup xs)) (l : xs.length ≤ 100000) (h : ∀ x ∈ xs, sc0 x x) : Twin H (n + 2) (.ref a) (.ref b) :=
  .inr ⟨a, b, xs, xs, rfl, rfl, .inl ⟨ha, hb⟩, l, rfl, fun i x y hx hy => by
    rw [hx] at hy
    cases hy
    exact .inl (h x (List.mem_of_getElem? hx))⟩
theorem shaped_held : SeqAt.shaped (.str "held") = true := by decide +kernel
theorem shaped_old : SeqAt.shaped (.str "old") = true := by decide +kernel
theorem max1 (t : Int) : (if t > (1 : Int) then t else 1) = max 1 t := by
  by_cases z : t > (1 : Int)
  · rw [if_pos z]; omega
  · rw [if_neg z]; omega
theorem S21.spoil {K : PySem.W.Frag} {C d s : Addr} {ns : List Int} {P : Addr} {F H : Hp} {x y : Sd} {a : Addr} {vs ys : List V} (S : S21 K C d s ns P F H x y) (n : d ≠ a) (f : F a = none) (ha : H a = some (.lst vs)) : S21 K C d s ns P F (upd H a (.lst ys)) x y := by
  have B := S.b
  obtain ⟨_, ⟨_, kP⟩, ⟨_, _, kp⟩, ⟨_, kw⟩, ⟨_, kr⟩, ⟨_, _, k1⟩, ⟨_, k2⟩, ⟨_, k3⟩⟩ := B.kinds
  have X := (XM.refl (M := (· = a)) B.same).put (p := a) (o := .lst ys) (.inr rfl) f
  have ne : ∀ {c : Addr} {o : HO}, H c = some o → (∀ xs, o ≠ .lst xs) → ¬ c = a := fun {c o} h z e => by
    rw [e, ha] at h
    exact z _ (Option.some.inj h).symm
  refine ⟨S.dice.xm X n, TabS.xm S.tab X (ne kP fun _ z => by cases z) (fun c o hc _ e φ z => ?_), S.fP, S.sx.xm X (ne kp fun _ z => by cases z) (ne kw fun _ z => by cases z) (ne kr fun _ z => by cases z), S.sy.xm X (ne k1 fun _ z => by cases z) (ne k2 fun _ z => by cases z) (ne k3 fun _ z => by cases z), S.np, S.nw, S.nr⟩
  rw [show c = a from e, ha] at hc
  cases hc
  cases z
theorem shaped_bad (z : Int) : SeqAt.shaped (.tuple [.str "stretches", .int z]) = true := by
  have h : PyData.strOk "stretches" = true := by decide +kernel
  simp [SeqAt.shaped, PyData.canLay0, PyData.canLayAll0, PyData.depth, PyData.depthAll, h]
end Rw
set_option maxHeartbeats 4000000
namespace Rw
open PySem PySem.Spec PyProof.Rows L2
theorem sc_deed21 : FnScope ["_law_d", "_law_seat_here", "_law_own", "_law_kind", "_law_due", "_law_found", "_law_bad", "_law_handed", "_law_rows_here", "_law_term"] ["_law_d", "_law_seat_here", "_law_own"] (defScope s_law_deed) := ⟨rfl, rfl, rfl, by decide +kernel, rfl, by decide +kernel, by decide +kernel⟩
/-- a def whose code object stands at c -/
structure FunC (K : PySem.W.Frag) (x qual : Str) (st : Stmt) (f c : Addr) (fd : FuncData) : Prop where
  ex : ∃ (oc : Value) (od : Option Addr) (kV doc pm : Value) (an : Option Addr) (ct : Value) (osl : Array (Option Value)),
    fd = PySem.W.fnOf x qual (defArgs st) (defBody st) (defScope st) .none kV doc pm an (.ref c) ct ∧ K.lookup f = some ⟨oc, od, .func fd, osl⟩ ∧ PySem.W.codeIn K (.ref c) qual = true
theorem FunC.ok {P : Program} {w : World} {K : PySem.W.Frag} {mg : Str → Option Value} {base : Heap} {x qual : Str} {st : Stmt} {f c : Addr} {fd : FuncData} {N ps : List Str} {k : Nat} {sp : Sp} (F : FunC K x qual st f c fd) (S : FnScope N ps (defScope st)) (len : ∀ vs H Q E, sp vs H Q E → vs.length = ps.length)
    (walk : ∀ (A : Around) (outer : List Env) (s : Shared) (H : Hp) (vs : List V) (Q : VK) (E : XK), Room k (A.deeper (PyProof.Rows.envOfC qual (defScope st) s.heap.objs.size f (.ref c))) → sp vs H Q E →
      ∃ t, PSs (cxOf CX0 P w K mg base N qual (defScope st) f (.ref c) A outer s H E).nox (defBody st) t ∧ t { nx := fun _ H' => Q .non H', rt := Q } (start N vs) H) : FnOk P w K mg base CX0 (k + 1) f fd ps sp := by
  obtain ⟨oc, od, kV, doc, pm, an, ct, osl, rfl, lk, hcd⟩ := F.ex
  refine fn_of lk hcd S len fun A outer s H vs Q E hr h => ?_
  obtain ⟨t, p, q⟩ := walk A outer s H vs Q E hr h
  exact ⟨t, p.nox, q⟩
structure Deps21 (P : Program) (w : World) (K : PySem.W.Frag) (mg : Str → Option Value) (base : Heap) (C : Addr) : Prop where
  next : Cal P w K mg base 1 "_law_next" ["_law_dice_here", "_law_many"] (spNext K)
  rows : Cal P w K mg base 2 "_law_rows" ["_law_d", "_law_houses", "_law_far", "_law_most"] (spRows K)
  asked : Cal P w K mg base 2 "_law_asked" ["_law_seat_here", "_law_term"] spAsked
  kept : Cal P w K mg base 2 "_law_kept" ["_law_seat_here", "_law_term", "_law_rows_here"] spLKept
  like : Cal P w K mg base 5 "_law_like" ["_law_found", "_law_due"] (spLike 4)
  ask : CalMX P w K mg base C 2 "ask" ["self", "term"] (spAsk K C)
  keep : CalMX P w K mg base C 7 "keep" ["self", "term", "rows"] (spKeep K C)
  hold : CalMX P w K mg base C 6 "hold" ["self", "rows"] (spHold K C)
def spDeed (K : PySem.W.Frag) (C Pd : Addr) : Sp := fun vs H Q _ => ∃ (F : Hp) (d s : Addr) (ns : List Int) (x y : Sd), vs = [.ref d, .ref x.p, .ref x.w] ∧ S21 K C d s ns Pd F H x y ∧
  ∀ (F' H' : Hp) (x' : Sd), S21 K C d s ns Pd F' H' x' y → x'.p = x.p → x'.w = x.w → Same F F' → Q (.bl true) H'
section
variable {P : Program} {w : World} {K : PySem.W.Frag} {mg : Str → Option Value} {base : Heap} {C : Addr}

theorem ok_law_deed {f c Pd : Addr} {fd : FuncData} {ft : Addr} {fdt : FuncData} (F0 : FunC K "_law_deed" "_law_deed" s_law_deed f c fd) (TBd : LamX.TabB base mg c Pd) (T : TxS K mg C) (TK : TxK mg) (TC : ToldC K mg) (Ft : Fun K "_law_told" "_law_told" s_law_told ft fdt) (gt : mg "_law_told" = some (.ref ft)) (D : Deps21 P w K mg base C) :
    FnOk P w K mg base CX0 10 f fd ["_law_d", "_law_seat_here", "_law_own"] (spDeed K C Pd) := by
  obtain ⟨fN, fdN, GN, gN, kpN, bN⟩ := D.next
  obtain ⟨fR, fdR, GR, gR, kpR, bR⟩ := D.rows
  obtain ⟨fQ, fdQ, GQ, gQ, kpQ, bQ⟩ := D.asked
  obtain ⟨fK, fdK, GK, gK, kpK, bK⟩ := D.kept
  obtain ⟨fL, fdL, GL, gL, kpL, bL⟩ := D.like
  obtain ⟨fA, fdA, GA, mA, bA⟩ := D.ask
  obtain ⟨fP, fdP, GP, mP, bP⟩ := D.keep
  obtain ⟨fH, fdH, GH, mH, bH⟩ := D.hold
  refine F0.ok sc_deed21 (fun vs H Q E h => ?_) (fun A outer s0 H vs Q E hr h => ?_)
  · obtain ⟨F, d, s, ns, x, y, rfl, _⟩ := h
    rfl
  · obtain ⟨F, d, s, ns, x, y, rfl, S, q⟩ := h
    have hr1 : Room 1 _ := hr.mono (by decide)
    have hr2 : Room 2 _ := hr.mono (by decide)
    have hr5 : Room 5 _ := hr.mono (by decide)
    have hu := hu_of hr
    refine ⟨_, (pss_cons (ps_set (i := 9) sc_deed21.nd rfl (.inr rfl) (pe_op op_add (pe_dget hu (pv 2) pe_str (fun _ _ => rfl)) (pe_ix ix_list (pe_lst (pa_cons pe_int (pa_cons pe_int (pa_cons pe_int (pa_cons (pe_un un_neg pe_int) (pa_cons (pe_op op_sub (pe_call GN hr1 (by rfl) gN kpN bN .nil pass0 (pa_cons (pv 0) (pa_cons pe_int pa_nil))) pe_int) pa_nil)))))) (pe_call GN hr1 (by rfl) gN kpN bN .nil pass0 (pa_cons (pv 0) (pa_cons pe_int pa_nil))) (fun _ _ => rfl))))
      (pss_cons (ps_set (i := 8) sc_deed21.nd rfl (.inr rfl) (pe_call GR hr2 (by rfl) gR kpR bR .nil pass0 (pa_cons (pv 0) (pa_cons pe_int (pa_cons pe_int (pa_cons pe_int pa_nil))))))
      (pss_cons (ps_set (i := 3) sc_deed21.nd rfl (.inl rfl) (pe_call GN hr1 (by rfl) gN kpN bN .nil pass0 (pa_cons (pv 0) (pa_cons pe_int pa_nil))))
      (pss_cons (ps_if (pt_cmpR op_eq (pv 3) pe_int (nomark _)) (pss_cons (ps_set (i := 4) sc_deed21.nd rfl (.inl rfl) (pe_call GQ hr2 (by rfl) gQ kpQ bQ .nil pass0 (pa_cons (pv 2) (pa_cons (pv 9) pa_nil))))
      (pss_one (ps_set (i := 5) sc_deed21.nd rfl (.inl rfl) (pe_told1 (k := 7) .no TC Ft (by rfl) gt hr TBd rfl (by kernel_rfl) ⟨rfl, rfl⟩ (fun _ _ _ _ _ _ => rfl) fun E A outer s H f c' hr7 =>
        pe_meth (pv 1) T.cl mA GA (hr7.mono (by decide)) bA .nil (passes_call (E := E) (takes_of rfl rfl rfl rfl) fun _ _ _ _ h => h) (pa_cons (pv 9) pa_nil))))) (pss_one (ps_if (pt_cmpR op_eq (pv 3) pe_int (nomark _)) (pss_cons (ps_set (i := 7) sc_deed21.nd rfl (.inr rfl) (pe_callTy call_list_of (by rfl) TK.list (by decide +kernel) (pa_cons (pv 8) pa_nil)))
      (pss_cons (ps_set (i := 4) sc_deed21.nd rfl (.inl rfl) (pe_call GK hr2 (by rfl) gK kpK bK .nil pass0 (pa_cons (pv 2) (pa_cons (pv 9) (pa_cons (pv 8) pa_nil)))))
      (pss_cons (ps_set (i := 5) sc_deed21.nd rfl (.inl rfl) (pe_told1 (k := 7) .no TC Ft (by rfl) gt hr TBd rfl (by kernel_rfl) ⟨rfl, rfl⟩ (fun _ _ _ _ _ _ => rfl) fun E A outer s H f c' hr7 =>
        pe_meth (pv 1) T.cl mP GP hr7 bP .nil (passes_call (E := E) (takes_of rfl rfl rfl rfl) fun _ _ _ _ h => h) (pa_cons (pv 9) (pa_cons (pv 7) pa_nil))))
      (pss_one (ps_if (pt_cmpR (op_neD hr.units) (pv 7) (pv 8) (nomark _)) (pss_one (ps_ret pe_bl)) pss_nil))))) (pss_one (ps_if (pt_cmpR op_eq (pv 3) pe_int (nomark _)) (pss_cons (ps_set (i := 4) sc_deed21.nd rfl (.inl rfl) (pe_ifExp (pt_cmpR op_gt (pe_dget hu (pv 2) pe_str (fun _ _ => rfl)) pe_int (nomark _)) (pe_call GK hr2 (by rfl) gK kpK bK .nil pass0 (pa_cons (pv 2) (pa_cons (pe_callB (call_max2 (by rfl)) (by rfl) T.max (by decide +kernel) (pa_cons pe_int (pa_cons (pe_dget hu (pv 2) pe_str (fun _ _ => rfl)) pa_nil))) (pa_cons (pv 8) pa_nil)))) pe_str))
      (pss_cons (ps_if (pt_cmpR (op_eqD hr.units) (pv 4) pe_str (nomark _)) (pss_one (ps_set (i := 4) sc_deed21.nd rfl (.inl rfl) (pe_call GK hr2 (by rfl) gK kpK bK .nil pass0 (pa_cons (pe_disp (pps_cons pe_str pe_int (pps_cons pe_str (pe_dget hu (pv 2) pe_str (fun _ _ => rfl)) pps_nil)) (by rfl) (by rfl) (fun z => by cases z) (by decide)) (pa_cons pe_int (pa_cons (pv 8) pa_nil)))))) pss_nil)
      (pss_one (ps_set (i := 5) sc_deed21.nd rfl (.inl rfl) (pe_told1 (k := 7) .no TC Ft (by rfl) gt hr TBd rfl (by kernel_rfl) ⟨rfl, rfl⟩ (fun _ _ _ _ _ _ => rfl) fun E A outer s H f c' hr7 =>
        pe_meth (pv 1) T.cl mH GH (hr7.mono (by decide)) bH .nil (passes_call (E := E) (takes_of rfl rfl rfl rfl) fun _ _ _ _ h => h) (pa_cons (pv 8) pa_nil)))))) (pss_cons (ps_set (i := 6) sc_deed21.nd rfl (.inr rfl) (pe_op op_cat (pv 8) (pe_lst (pa_cons (pe_tup (pa_cons pe_int (pa_cons pe_int (pa_cons pe_int pa_nil)))) pa_nil))))
      (pss_cons (ps_set (i := 4) sc_deed21.nd rfl (.inl rfl) (pe_ifExp (pt_cmpR op_lt (pv 9) (pe_callB (call_max2 (by rfl)) (by rfl) T.max (by decide +kernel) (pa_cons pe_int (pa_cons (pe_dget hu (pv 2) pe_str (fun _ _ => rfl)) pa_nil))) (nomark _)) pe_str (pe_tup (pa_cons pe_str (pa_cons (pe_callB call_len (by rfl) TK.len PySem.boot_len (pa_cons (pv 8) pa_nil)) pa_nil)))))
      (pss_cons (ps_set (i := 5) sc_deed21.nd rfl (.inl rfl) (pe_told1 (k := 7) .no TC Ft (by rfl) gt hr TBd rfl (by kernel_rfl) ⟨rfl, rfl⟩ (fun _ _ _ _ _ _ => rfl) fun E A outer s H f c' hr7 =>
        pe_meth (pv 1) T.cl mP GP hr7 bP .nil (passes_call (E := E) (takes_of rfl rfl rfl rfl) fun _ _ _ _ h => h) (pa_cons (pv 9) (pa_cons (pv 6) pa_nil))))
      (pss_one (ps_if (pt_not (pt_val (pe_call GL hr5 (by rfl) gL kpL bL .nil pass0 (pa_cons (pe_told1 (k := 7) (.one "_law_a" 0) TC Ft (by rfl) gt hr TBd rfl (by kernel_rfl) ⟨⟨_, _, rfl⟩, rfl⟩ (fun _ _ _ _ _ _ _ => ⟨_, rfl, fun _ => rfl⟩) fun E A outer s H f c' hr7 =>
        pe_meth (pv 1) T.cl mH GH (hr7.mono (by decide)) bH .nil (passes_call (E := E) (takes_of rfl rfl rfl rfl) fun _ _ _ _ h => h) (pa_cons (pv 6) pa_nil)) (pa_cons (pe_tup (pa_cons pe_str (pa_cons (pe_callB call_len (by rfl) TK.len PySem.boot_len (pa_cons (pv 8) pa_nil)) pa_nil))) pa_nil))))) (pss_one (ps_ret pe_bl)) pss_nil))))))))))
      (pss_cons (ps_if (pt_not (pt_val (pe_call GL hr5 (by rfl) gL kpL bL .nil pass0 (pa_cons (pv 5) (pa_cons (pe_ifExp (pt_cmpR (op_neD hr.units) (pv 4) pe_str (nomark _)) (pv 4) (pe_tup (pa_cons pe_str pa_nil))) pa_nil))))) (pss_one (ps_ret pe_bl)) pss_nil)
      (pss_cons (ps_if (pt_val (pe_callB call_isi (by rfl) TK.isinst (by decide +kernel) (pa_cons (pv 5) (pa_cons (pe_bty (by rfl) TK.list bt_list) pa_nil)))) (pss_one (ps_expr (pe_bm PySem.F.plainAttrs_list PySem.F.slot_list_append PySem.F.type_list_append mt_append (pv 5) (pa_cons pe_int pa_nil)))) pss_nil)
      (pss_one (ps_ret pe_bl)))))))), ?_⟩
    have B0 := S.b
    have own0 := B0.own
    refine ⟨_, rfl, x.w, _, rfl, DGet.k (k := Sum.inr "term") own0.hw, ?_⟩
    refine ⟨1, rfl, ⟨_, rfl, F, d, s, ns, 9, rfl, B0.dice, by decide, by decide, fun z1 H1 z10 z11 X1 D1 => ?_⟩⟩
    have B1 := B0.dice' X1 D1
    clear X1 D1
    refine ⟨_, _, rfl, rfl, by show 5 ≤ sizeLine; decide, fun l nl => ?_⟩
    have B2 := B1.quiet ((XM.refl B1.same).tmp (o := .lst [.int 1, .int 0, .int 2, .int (-1), .int (z1 - 12)]) nl)
    have hl2 : upd H1 l (.lst [.int 1, .int 0, .int 2, .int (-1), .int (z1 - 12)]) l = some (.lst [.int 1, .int 0, .int 2, .int (-1), .int (z1 - 12)]) := upd_same
    have ld : d ≠ l := B1.dice.ne nl
    revert B2 hl2
    generalize upd H1 l (.lst [V.int 1, .int 0, .int 2, .int (-1), .int (z1 - 12)]) = H2
    intro B2 hl2
    refine ⟨_, rfl, F, d, s, ns, 5, rfl, B2.dice, by decide, by decide, fun z2 H3 z20 z21 X3 D3 => ?_⟩
    have B3 := B2.dice' X3 D3
    have hl3 := X3.hh _ _ hl2 ld.symm
    obtain ⟨te0, hte⟩ : ∃ e : Int, atI [V.int 1, .int 0, .int 2, .int (-1), .int (z1 - 12)] z2 = some (.int e) := by
      obtain ⟨j, rfl⟩ : ∃ j : Nat, z2 = (j : Int) := ⟨z2.toNat, by omega⟩
      have hj : j < 5 := by omega
      match j, hj with
      | 0, _ => exact ⟨_, atI_nat rfl⟩
      | 1, _ => exact ⟨_, atI_nat rfl⟩
      | 2, _ => exact ⟨_, atI_nat rfl⟩
      | 3, _ => exact ⟨_, atI_nat rfl⟩
      | 4, _ => exact ⟨_, atI_nat rfl⟩
    refine ⟨l, _, _, _, rfl, rfl, SqL.of hl3, hte, _, _, rfl, rfl, ?_⟩
    clear hl2 hl3 X3 D3 hte ld nl B1 B2
    dsimp only
    generalize x.t + te0 = te
    refine ⟨_, rfl, F, d, s, ns, 3, 9, 3, rfl, B3.dice, by decide, by decide, by decide, by decide, by decide, by decide, fun F4 H4 ar xs rows X4 D4 na fa ha hp hl hdr => ?_⟩
    have hl3 : rows.length ≤ 3 := by omega
    have nd4 : d ≠ ar := B3.dice.ne na
    have B4 := (B3.dice' X4 D4).fz nd4 fa ha
    have m4 : Same F (upd F4 ar (.lst xs)) := X4.ff.trans (same_upd fa)
    have kr : (kL kRow).is (upd F4 ar (.lst xs)) (.ref ar) rows := kL_new fa hp
    revert B4 m4 kr
    generalize upd F4 ar (.lst xs) = F5
    intro B4 m4 kr
    clear X4 D4 fa ha hp B3 nd4
    refine ⟨_, rfl, F5, d, s, ns, 4, rfl, B4.dice, by decide, by decide, fun zk H6 zk0 zk1 X6 D6 => ?_⟩
    have B6 := B4.dice' X6 D6
    clear X6 D6 B4
    unfold gName
    dsimp only
    refine seq_join (J21 K C d s ns Pd F x y) ?_ fun key => ?_
    · rintro _ H7 ⟨F7, x', due, found, k3, k6, k7, k8, k9, rfl, S7, ep, ew, m7, ft⟩
      cases ft with
      | @old a h =>
        refine ⟨_, rfl, _, rfl, _, _, .str _, .str _, shaped_old, shaped_old, ?_⟩
        rw [show PyData.eqv (.str "old") (.str "old") = true by decide +kernel]
        refine ⟨_, rfl, iteF ⟨by show 1 ≤ sizeLine; decide, fun tt ntt => ?_⟩⟩
        have S8 := S7.quiet ((XM.refl S7.dice.fh).tmp (o := .tup [.str "old"]) ntt)
        have h8 : upd H7 tt (.tup [.str "old"]) a = some (.tup [.str "old"]) := by rw [upd_ne (ne_of_none h ntt)]; exact h
        refine ⟨_, _, rfl, twin_tups h8 upd_same (by show 1 ≤ 100000; decide) (fun z hz => by rw [List.mem_singleton.mp hz]; exact .inr (.inr (.inl ⟨_, rfl, rfl⟩))), true, rfl, iteF ?_⟩
        refine ⟨_, rfl, _, .ty "list", _, _, _, rfl, .ty _, tyx_tup h8, kit_ty (r := false) (by decide +kernel), false, rfl, iteF ?_⟩
        exact q F7 _ x' S8 ep ew m7
      | @rows a b vs us out nda ha fa pa hb pb lo =>
        have fh7 := S7.dice.fh
        refine ⟨_, rfl, _, rfl, _, _, (enc_L enc_row).dp fh7 (show (kL kRow).is F7 (.ref b) out from ⟨b, us, rfl, hb, pb⟩), .str _, shaped_rows _, shaped_old, ?_⟩
        rw [show PyData.eqv (dL dRow out) (.str "old") = false from eqv_list_str _ _]
        refine ⟨_, rfl, iteT ⟨_, rfl, ?_⟩⟩
        refine ⟨_, _, rfl, twin_rows fh7 ha (fh7 _ _ hb) pa pb (by omega), true, rfl, iteF ?_⟩
        refine ⟨_, rfl, _, .ty "list", _, _, _, rfl, .ty _, tyx_lst ha, kit_ty (r := true) (by decide +kernel), true, rfl, iteT ?_⟩
        have lv := pr_len pa
        refine ⟨_, rfl, .inl ⟨rfl, _, SqL.of ha⟩, a, vs, _, rfl, rfl, ha, by rw [sizeLine_eq]; omega, ?_⟩
        exact q F7 _ x' (S7.spoil nda fa ha) ep ew m7
      | @bad a b z ha hb =>
        refine ⟨_, rfl, _, rfl, _, _, .tup (SqT.of hb) (.cons (.str _) (.cons (.int _) .nil)), .str _, ?_, shaped_old, ?_⟩
        · exact shaped_bad z
        rw [eqv_tup_str]
        refine ⟨_, rfl, iteT ⟨_, rfl, ?_⟩⟩
        refine ⟨_, _, rfl, twin_tups ha hb (by show 2 ≤ 100000; decide) (fun z hz => by
          rcases List.mem_cons.mp hz with e | hz
          · exact e ▸ .inr (.inr (.inl ⟨_, rfl, rfl⟩))
          · rw [List.mem_singleton.mp hz]; exact .inl ⟨_, rfl, rfl⟩), true, rfl, iteF ?_⟩
        refine ⟨_, rfl, _, .ty "list", _, _, _, rfl, .ty _, tyx_tup ha, kit_ty (r := false) (by decide +kernel), false, rfl, iteF ?_⟩
        exact q F7 _ x' S7 ep ew m7
    · have own6 := B6.own
      have hl := S.sx.len
      have t0 := S.sx.t0
      have rok := drawn_ok hdr
      have hb0 : badAt rows = none := badAt_none.mpr rok
      refine ⟨_, rfl, rfl, _, rfl, iteI (fun e => ?_) (fun e => ?_)⟩
      · clear e
        refine ⟨_, rfl, _, rfl, F5, x.w, x.r, x.t, te, x.ps, rfl, B6.same, own6, by omega, fun hle => ?_, fun hlt => ?_⟩
        · refine ⟨B6.tab, fun H7 g tab => ?_⟩
          have B7 := B6.grow g tab
          obtain ⟨dx, ra, ob, _⟩ := B7.seat.ob
          refine ⟨_, rfl, x.p, dx, _, rfl, ob, sl_ask _ _, _, rfl, F5, x.p, x.rs, x.t, te, rfl, B7.same, B7.seat, fun _ => ?_, fun z => absurd z (by omega)⟩
          refine EW.plain 7 (by decide) (by decide) (by decide) fun H8 tt sm nt ht => ?_
          exact key _ _ ⟨F5, _, _, _, _, _, _, _, _, rfl, (B7.quiet (.of (Ext.ofSame B7.same sm))).s S.sx.rows S.sx.box t0, rfl, rfl, m4, .old ht⟩
        · intro F7 H7 a vs out ps' X7 O7 e R7 na fa ha hp7
          subst e
          have B7 := (B6.own' (w2 := x.w) (X7.mono fun b e => .inl e) (.inl rfl) O7).fz (B6.dice.ne na) fa ha
          have hb8 : upd F7 a (.lst vs) a = some (.lst vs) := upd_same
          have pb8 : Paired (kRow.is (upd F7 a (.lst vs))) vs out := pr_mono (fun _ _ z => kRow.mono (same_upd fa) z) hp7
          have m8 : Same F (upd F7 a (.lst vs)) := m4.trans (X7.ff.trans (same_upd fa))
          revert B7 hb8 pb8 m8
          generalize upd F7 a (.lst vs) = F8
          intro B7 hb8 pb8 m8
          refine ⟨B7.tab, fun H9 g tab => ?_⟩
          have B9 := B7.grow g tab
          obtain ⟨dx, ra, ob, _⟩ := B9.seat.ob
          refine ⟨_, rfl, x.p, dx, _, rfl, ob, sl_ask _ _, _, rfl, F8, x.p, x.rs, x.t, te, rfl, B9.same, B9.seat, fun z => absurd z (by omega), fun _ F10 H10 b vs10 out10 X10 A10 e10 nb fb hb hp10 => ?_⟩
          have B10 := B9.seat' X10 A10
          have eo : out = x.rs := R7.uniq S.sx.rows
          subst e10
          subst eo
          exact key _ _ ⟨F10, _, _, _, _, _, _, _, _, rfl, B10.s S.sx.rows S.sx.box (by omega), rfl, rfl, m8.trans X10.ff, .rows (B9.dice.ne nb) hb fb hp10 (X10.ff _ _ hb8) (pr_mono (fun _ _ z => kRow.mono X10.ff z) pb8) hl.2⟩
      · refine ⟨_, rfl, rfl, _, rfl, iteI (fun e => ?_) (fun e => ?_)⟩
        · clear e
          obtain ⟨ar', xr, er, hxr, pxr⟩ := id kr
          cases er
          have val : Valid x.rs := S.sx.rows.can.ok
          refine ⟨_, rfl, ar, xr, rfl, .inl (SqL.of (B6.same _ _ hxr)), fun hh nhh => ?_⟩
          have B7 := B6.quiet ((XM.refl B6.same).lay (o := .lst xr) nhh)
          have fhh := B6.same.free nhh
          have kh : (kL kRow).is (upd F5 hh (.lst xr)) (.ref hh) rows := kL_new fhh pxr
          have kr7 := (kL kRow).mono (same_upd (o := .lst xr) fhh) kr
          have m7 := m4.trans (same_upd (o := .lst xr) fhh)
          revert B7 kh kr7 m7
          generalize upd F5 hh (.lst xr) = F7
          generalize upd H6 hh (.lst xr) = H7
          intro B7 kh kr7 m7
          clear hxr pxr nhh fhh B6 own6 kr m4
          refine ⟨_, rfl, _, rfl, _, rfl, F7, x.w, x.r, x.t, te, x.ps, .ref ar, rows, rfl, B7.same, B7.own, by omega, kr7, drawn_small hdr (by omega), by omega, fun hlt => ?_, fun hle => ?_⟩
          · refine ⟨B7.tab, fun H8 g tab => ?_⟩
            have B8 := B7.grow g tab
            obtain ⟨dx, ra, ob, _⟩ := B8.seat.ob
            refine ⟨_, rfl, x.p, dx, _, rfl, ob, sl_keep _ _, _, rfl, _, rfl, F7, x.p, x.rs, x.t, te, .ref hh, rows, rfl, B8.same, B8.seat, kh, by omega, val, by omega, fun _ => ?_, fun z => absurd z (by omega)⟩
            refine EW.plain 7 (by decide) (by decide) (by decide) fun H9 tt sm nt ht => ?_
            have B9 := B8.quiet (.of (Ext.ofSame B8.same sm))
            refine ⟨_, rfl, _, rfl, _, _, (enc_L enc_row).dp B9.same kh, (enc_L enc_row).dp B9.same kr7, shaped_rows _, shaped_rows _, ?_⟩
            rw [eqv_rows]
            refine ⟨_, rfl, iteNS (by simp) ?_⟩
            exact key _ _ ⟨F7, _, _, _, _, _, _, _, _, rfl, B9.s S.sx.rows S.sx.box t0, rfl, rfl, m7, .old ht⟩
          · intro F8 H8 a vs out ps' X8 O8 hm R8 na fa ha hp8
            have B8 := (B7.own' (w2 := x.w) X8 (.inl rfl) O8).fz (B7.dice.ne na) fa ha
            have hb8 : upd F8 a (.lst vs) a = some (.lst vs) := upd_same
            have pb8 : Paired (kRow.is (upd F8 a (.lst vs))) vs out := pr_mono (fun _ _ z => kRow.mono (same_upd fa) z) hp8
            have m8 : Same F7 (upd F8 a (.lst vs)) := X8.ff.trans (same_upd fa)
            revert B8 hb8 pb8 m8
            generalize upd F8 a (.lst vs) = F9
            intro B8 hb8 pb8 m8
            refine ⟨B8.tab, fun H9 g tab => ?_⟩
            have B9 := B8.grow g tab
            obtain ⟨dx, ra, ob, _⟩ := B9.seat.ob
            refine ⟨_, rfl, x.p, dx, _, rfl, ob, sl_keep _ _, _, rfl, _, rfl, F9, x.p, x.rs, x.t, te, .ref hh, rows, rfl, B9.same, B9.seat, (kL kRow).mono m8 kh, by omega, val, by omega, fun z => absurd z (by omega), fun _ => ⟨fun _ F10 H10 b vs10 out10 X10 A10 fw nb fb hb hp10 => ?_, fun i hi => by rw [hb0] at hi; cases hi⟩⟩
            have B10 := B9.seat' X10 A10
            have eo : out10 = out := Canon.uniq fw.can R8.can fun q => by
              rw [fw.mem q, mem_append, R8.mem q, hm q, S.sx.rows.mem q]
            subst eo
            have bx' : ∀ q ∈ ps', Bx q := fun q hq => ((hm q).mp hq).elim (S.sx.box q) fun z => drawn_bx hdr z
            have S10 := B10.s R8 bx' (by omega)
            have m10 := m8.trans X10.ff
            refine ⟨_, rfl, _, rfl, _, _, (enc_L enc_row).dp B10.same ((kL kRow).mono m10 kh), (enc_L enc_row).dp B10.same ((kL kRow).mono m10 kr7), shaped_rows _, shaped_rows _, ?_⟩
            rw [eqv_rows]
            refine ⟨_, rfl, iteNS (by simp) ?_⟩
            exact key _ _ ⟨F10, _, _, _, _, _, _, _, _, rfl, S10, rfl, rfl, m7.trans m10, .rows (B9.dice.ne nb) hb fb hp10 (X10.ff _ _ hb8) (pr_mono (fun _ _ z => kRow.mono X10.ff z) pb8) S10.sx.len.2⟩
        · refine ⟨_, rfl, rfl, _, rfl, iteI (fun e => ?_) (fun e => ?_)⟩
          · clear e
            have val : Valid x.rs := S.sx.rows.can.ok
            refine ⟨_, rfl, x.w, _, rfl, DGet.k (k := Sum.inr "term") own6.hw, _, _, rfl, rfl, _, rfl, iteL (fun ct => ?_) (fun ct => ?_)⟩
            · refine ⟨_, rfl, _, rfl, x.w, _, rfl, DGet.k (k := Sum.inr "term") own6.hw, _, _, rfl, ?_⟩
              rw [max1, show max 1 x.t = x.t by omega]
              refine ⟨_, rfl, F5, x.w, x.r, x.t, x.t, x.ps, .ref ar, rows, rfl, B6.same, own6, by omega, kr, drawn_small hdr (by omega), by omega, fun z => absurd z (by omega), fun _ F8 H8 a vs out ps' X8 O8 hm R8 na fa ha hp8 => ?_⟩
              have B8 := (B6.own' (w2 := x.w) X8 (.inl rfl) O8).fz (B6.dice.ne na) fa ha
              have hb8 : upd F8 a (.lst vs) a = some (.lst vs) := upd_same
              have pb8 : Paired (kRow.is (upd F8 a (.lst vs))) vs out := pr_mono (fun _ _ z => kRow.mono (same_upd fa) z) hp8
              have m8 : Same F5 (upd F8 a (.lst vs)) := X8.ff.trans (same_upd fa)
              revert B8 hb8 pb8 m8
              generalize upd F8 a (.lst vs) = F9
              intro B8 hb8 pb8 m8
              refine ⟨_, rfl, _, _, (enc_L enc_row).dp B8.same (show (kL kRow).is F9 (.ref a) out from ⟨a, vs, rfl, hb8, pb8⟩), .str _, shaped_rows _, shaped_held, ?_⟩
              rw [show PyData.eqv (dL dRow out) (.str "held") = false from eqv_list_str _ _]
              refine ⟨_, rfl, iteF ?_⟩
              refine ⟨B8.tab, fun H9 g tab => ?_⟩
              have B9 := B8.grow g tab
              obtain ⟨dx, ra, ob, _⟩ := B9.seat.ob
              refine ⟨_, rfl, x.p, dx, _, rfl, ob, sl_hold _ _, _, rfl, F9, x.p, x.rs, x.t, .ref ar, rows, rfl, B9.same, B9.seat, (kL kRow).mono m8 kr, by omega, val, by omega, fun _ F10 H10 b vs10 out10 X10 A10 fw nb fb hb hp10 => ?_, fun i hi => by rw [hb0] at hi; cases hi⟩
              have B10 := B9.seat' X10 A10
              have eo : out10 = out := Canon.uniq fw.can R8.can fun q => by
                rw [fw.mem q, mem_append, R8.mem q, hm q, S.sx.rows.mem q]
              subst eo
              have bx' : ∀ q ∈ ps', Bx q := fun q hq => ((hm q).mp hq).elim (S.sx.box q) fun z => drawn_bx hdr z
              have S10 := B10.s R8 bx' t0
              exact key _ _ ⟨F10, _, _, _, _, _, _, _, _, rfl, S10, rfl, rfl, m4.trans (m8.trans X10.ff), .rows (B9.dice.ne nb) hb fb hp10 (X10.ff _ _ hb8) (pr_mono (fun _ _ z => kRow.mono X10.ff z) pb8) S10.sx.len.2⟩
            · have t00 : x.t = 0 := by omega
              refine ⟨_, rfl, _, _, .str _, .str _, shaped_held, shaped_held, ?_⟩
              refine ⟨_, rfl, iteT ?_⟩
              intro w2 nw2
              have h6 : upd H6 w2 (.dK []) x.w = some (.dK (ownV x.t x.r)) := by rw [upd_ne (ne_of_none own6.hw nw2)]; exact own6.hw
              have fw2 := B6.same.free nw2
              have nww : x.w ≠ w2 := ne_of_none own6.hw nw2
              obtain ⟨kv6, hr6, dk6⟩ := own6.hr
              have nwr : x.r ≠ w2 := ne_of_none hr6 nw2
              refine ⟨_, rfl, x.w, _, rfl, DGet.k (k := Sum.inr "rows") h6, upd_same, [(.inr "term", .int 0), (.inr "rows", .ref x.r)], rfl, by show 2 ≤ 15; decide, ?_⟩
              have X7 : XM (fun b => b = w2 ∨ b = x.r) F5 H6 F5 (upd (upd H6 w2 (.dK [])) w2 (.dK (mergeK [] [(.inr "term", .int 0), (.inr "rows", .ref x.r)]))) := ((XM.refl B6.same).tmp nw2).put (.inl nw2) fw2
              have O7 : OwnAt F5 (upd (upd H6 w2 (.dK [])) w2 (.dK (mergeK [] [(.inr "term", .int 0), (.inr "rows", .ref x.r)]))) w2 x.r 0 x.ps := ⟨upd_same, fw2, ⟨kv6, by rw [upd_ne nwr, upd_ne nwr]; exact hr6, dk6⟩, own6.fr⟩
              revert X7 O7
              generalize upd (upd H6 w2 (.dK [])) w2 (.dK (mergeK [] [((.inr "term" : Key), V.int 0), (.inr "rows", .ref x.r)])) = H7
              intro X7 O7
              refine ⟨_, rfl, F5, w2, x.r, 0, 1, x.ps, .ref ar, rows, rfl, X7.fh, O7, by omega, kr, drawn_small hdr (by omega), by omega, fun z => absurd z (by decide), fun _ F8 H8 a vs out ps' X8 O8 hm R8 na fa ha hp8 => ?_⟩
              have X := (X7.then X8 (by
                rintro c u hc (e | e) _
                · rw [e, nw2] at hc; cases hc
                · obtain ⟨kv7, hr7, _⟩ := O7.hr
                  exact ⟨_, by rw [e]; exact hr7, fun xs z => by cases z⟩)).mono (M' := fun b => b = w2 ∨ b = x.r) fun b e => e.elim id id
              have O : OwnAt F8 H8 x.w x.r x.t ps' := ⟨X.hh _ _ own6.hw (fun e => e.elim nww own6.ne), by rw [X.nw _ _ own6.hw fun xs z => by cases z]; exact own6.fw, O8.hr, O8.fr⟩
              have B8 := (B6.own' (w2 := w2) X (.inr nw2) O).fz (B6.dice.ne (X7.free na)) fa ha
              have hb8 : upd F8 a (.lst vs) a = some (.lst vs) := upd_same
              have pb8 : Paired (kRow.is (upd F8 a (.lst vs))) vs out := pr_mono (fun _ _ z => kRow.mono (same_upd fa) z) hp8
              have m8 : Same F5 (upd F8 a (.lst vs)) := X8.ff.trans (same_upd fa)
              revert B8 hb8 pb8 m8
              generalize upd F8 a (.lst vs) = F9
              intro B8 hb8 pb8 m8
              refine ⟨B8.tab, fun H9 g tab => ?_⟩
              have B9 := B8.grow g tab
              obtain ⟨dx, ra, ob, _⟩ := B9.seat.ob
              refine ⟨_, rfl, x.p, dx, _, rfl, ob, sl_hold _ _, _, rfl, F9, x.p, x.rs, x.t, .ref ar, rows, rfl, B9.same, B9.seat, (kL kRow).mono m8 kr, by omega, val, by omega, fun _ F10 H10 b vs10 out10 X10 A10 fw nb fb hb hp10 => ?_, fun i hi => by rw [hb0] at hi; cases hi⟩
              have B10 := B9.seat' X10 A10
              have eo : out10 = out := Canon.uniq fw.can R8.can fun q => by
                rw [fw.mem q, mem_append, R8.mem q, hm q, S.sx.rows.mem q]
              subst eo
              have bx' : ∀ q ∈ ps', Bx q := fun q hq => ((hm q).mp hq).elim (S.sx.box q) fun z => drawn_bx hdr z
              have S10 := B10.s R8 bx' t0
              exact key _ _ ⟨F10, _, _, _, _, _, _, _, _, rfl, S10, rfl, rfl, m4.trans (m8.trans X10.ff), .rows (B9.dice.ne nb) hb fb hp10 (X10.ff _ _ hb8) (pr_mono (fun _ _ z => kRow.mono X10.ff z) pb8) S10.sx.len.2⟩
          · have val : Valid x.rs := S.sx.rows.can.ok
            obtain ⟨ar', xr, er, hxr, pxr⟩ := id kr
            cases er
            refine ⟨_, rfl, by show 3 ≤ sizeLine; decide, fun tt ntt => ?_⟩
            have B7 := B6.quiet ((XM.refl B6.same).lay (o := .tup [.int 0, .int 2, .int 1]) ntt)
            have kb : kRow.is (upd F5 tt (.tup [.int 0, .int 2, .int 1])) (.ref tt) badRow := ⟨tt, rfl, upd_same⟩
            have m7 := same_upd (o := .tup [.int 0, .int 2, .int 1]) (B6.same.free ntt)
            revert B7 kb m7
            generalize upd F5 tt (.tup [V.int 0, .int 2, .int 1]) = F7
            generalize upd H6 tt (.tup [V.int 0, .int 2, .int 1]) = H7
            intro B7 kb m7
            refine ⟨by show 1 ≤ sizeLine; decide, fun l1 nl1 => ?_⟩
            have B8 := B7.quiet ((XM.refl B7.same).tmp (o := .lst [.ref tt]) nl1)
            have h8 : upd H7 l1 (.lst [.ref tt]) l1 = some (.lst [.ref tt]) := upd_same
            revert B8 h8
            generalize upd H7 l1 (.lst [V.ref tt]) = H8
            intro B8 h8
            have lx := pr_len pxr
            refine ⟨ar, l1, xr, [.ref tt], rfl, rfl, B8.same _ _ (m7 _ _ hxr), h8, by show xr.length + 1 ≤ sizeLine; rw [sizeLine_eq]; omega, fun lb nlb => ?_⟩
            have B9 := B8.quiet ((XM.refl B8.same).lay (o := .lst (xr ++ [.ref tt])) nlb)
            have f9 := B8.same.free nlb
            have kbad : (kL kRow).is (upd F7 lb (.lst (xr ++ [.ref tt]))) (.ref lb) (rows ++ [badRow]) := kL_new f9 (pr_snoc (pr_mono (fun _ _ z => kRow.mono m7 z) pxr) kb)
            have m9 : Same F (upd F7 lb (.lst (xr ++ [.ref tt]))) := m4.trans (m7.trans (same_upd f9))
            have kr9 := (kL kRow).mono (m7.trans (same_upd (o := .lst (xr ++ [.ref tt])) f9)) kr
            revert B9 kbad m9 kr9
            generalize upd F7 lb (.lst (xr ++ [V.ref tt])) = F9
            generalize upd H8 lb (.lst (xr ++ [V.ref tt])) = H9
            intro B9 kbad m9 kr9
            clear B8 h8 B7 kb m7 f9 nlb nl1 ntt B6 own6 hxr pxr
            have own9 := B9.own
            have hbad := bad_at hdr
            have lbad : (rows ++ [badRow]).length ≤ 200 := by rw [List.length_append]; show rows.length + 1 ≤ 200; omega
            obtain ⟨_, xr9, e9, hxr9, pxr9⟩ := id kr9
            cases e9
            have lx9 := pr_len pxr9
            refine ⟨_, rfl, _, rfl, x.w, _, rfl, DGet.k (k := Sum.inr "term") own9.hw, _, _, rfl, ?_⟩
            rw [max1]
            refine ⟨_, _, rfl, rfl, _, rfl, iteL (fun ct => ?_) (fun ct => ?_)⟩
            · refine ⟨B9.tab, fun H10 g tab => ?_⟩
              have B10 := B9.grow g tab
              obtain ⟨dx, ra, ob, _⟩ := B10.seat.ob
              refine ⟨_, rfl, x.p, dx, _, rfl, ob, sl_keep _ _, _, rfl, _, rfl, F9, x.p, x.rs, x.t, te, .ref lb, rows ++ [badRow], rfl, B10.same, B10.seat, kbad, lbad, val, by omega, fun _ => ?_, fun z => absurd z (by omega)⟩
              refine EW.plain 7 (by decide) (by decide) (by decide) fun H11 t1 sm nt ht => ?_
              have B11 := B10.quiet ((XM.of (Ext.ofSame B10.same sm)).frz nt (B10.same.free nt) ht)
              have h11 : upd F9 t1 (.tup [.str (exW 7)]) t1 = some (.tup [.str "old"]) := upd_same
              have m11 := same_upd (o := .tup [.str (exW 7)]) (B10.same.free nt)
              revert B11 h11 m11
              generalize upd F9 t1 (.tup [V.str (exW 7)]) = F11
              intro B11 h11 m11
              refine ⟨B11.tab, fun H12 g2 tab2 => ?_⟩
              have B12 := B11.grow g2 tab2
              obtain ⟨dx2, ra2, ob2, _⟩ := B12.seat.ob
              refine ⟨_, rfl, x.p, dx2, _, rfl, ob2, sl_hold _ _, _, rfl, F11, x.p, x.rs, x.t, .ref lb, rows ++ [badRow], rfl, B12.same, B12.seat, (kL kRow).mono m11 kbad, lbad, val, by omega, (fun z => by rw [hbad] at z; cases z), fun i hi => ?_⟩
              rw [hbad] at hi
              cases hi
              refine EW.bad fun H13 t2 sm2 nt2 ht2 => ?_
              have B13 := B12.quiet (.of (Ext.ofSame B12.same sm2))
              refine ⟨_, rfl, _, xr9.length, rfl, .inl ⟨_, SqL.of (B13.same _ _ (m11 _ _ hxr9)), rfl⟩, by show 2 ≤ sizeLine; decide, fun p2 np2 => ?_⟩
              have B14 := B13.quiet ((XM.refl B13.same).tmp (o := .tup [.str "stretches", .int (xr9.length : Nat)]) np2)
              refine ⟨_, _, rfl, twin_tups (xs := [.str "stretches", .int (xr9.length : Nat)]) (by rw [upd_ne (ne_of_none ht2 np2), ht2, lx9]) upd_same (by show 2 ≤ 100000; decide) (fun z hz => by
                rcases List.mem_cons.mp hz with e | hz
                · exact e ▸ .inr (.inr (.inl ⟨_, rfl, rfl⟩))
                · rw [List.mem_singleton.mp hz]; exact .inl ⟨_, rfl, rfl⟩), ?_⟩
              refine ⟨true, rfl, iteF ?_⟩
              exact key _ _ ⟨F11, _, _, _, _, _, _, _, _, rfl, B14.s S.sx.rows S.sx.box t0, rfl, rfl, m9.trans m11, .old (B14.same _ _ h11)⟩
            · refine ⟨_, rfl, _, xr9.length, rfl, .inl ⟨_, SqL.of (B9.same _ _ hxr9), rfl⟩, by show 2 ≤ sizeLine; decide, fun pd npd => ?_⟩
              have B9' := B9.quiet ((XM.refl B9.same).lay (o := .tup [.str "stretches", .int (xr9.length : Nat)]) npd)
              have hd9 : upd F9 pd (.tup [.str "stretches", .int (xr9.length : Nat)]) pd = some (.tup [.str "stretches", .int (xr9.length : Nat)]) := upd_same
              have m9' := same_upd (o := .tup [.str "stretches", .int (xr9.length : Nat)]) (B9.same.free npd)
              revert B9' hd9 m9'
              generalize upd F9 pd (.tup [V.str "stretches", .int (xr9.length : Nat)]) = F10
              generalize upd H9 pd (.tup [V.str "stretches", .int (xr9.length : Nat)]) = H9'
              intro B9' hd9 m9'
              refine ⟨B9'.tab, fun H10 g tab => ?_⟩
              have B10 := B9'.grow g tab
              obtain ⟨dx, ra, ob, _⟩ := B10.seat.ob
              refine ⟨_, rfl, x.p, dx, _, rfl, ob, sl_keep _ _, _, rfl, _, rfl, F10, x.p, x.rs, x.t, te, .ref lb, rows ++ [badRow], rfl, B10.same, B10.seat, (kL kRow).mono m9' kbad, lbad, val, by omega, fun z => absurd z (by omega), fun _ => ⟨(fun z => by rw [hbad] at z; cases z), fun i hi => ?_⟩⟩
              rw [hbad] at hi
              cases hi
              refine EW.bad fun H11 t1 sm nt ht => ?_
              have B11 := B10.quiet ((XM.of (Ext.ofSame B10.same sm)).frz nt (B10.same.free nt) ht)
              have h11 : upd F10 t1 (.tup [.str "stretches", .int (rows.length : Nat)]) t1 = some (.tup [.str "stretches", .int (rows.length : Nat)]) := upd_same
              have m11 := m9'.trans (same_upd (o := .tup [.str "stretches", .int (rows.length : Nat)]) (B10.same.free nt))
              have hd11 := same_upd (o := .tup [.str "stretches", .int (rows.length : Nat)]) (B10.same.free nt) _ _ hd9
              revert B11 h11 m11 hd11
              generalize upd F10 t1 (.tup [V.str "stretches", .int (rows.length : Nat)]) = F11
              intro B11 h11 m11 hd11
              refine ⟨B11.tab, fun H12 g2 tab2 => ?_⟩
              have B12 := B11.grow g2 tab2
              obtain ⟨dx2, ra2, ob2, _⟩ := B12.seat.ob
              refine ⟨_, rfl, x.p, dx2, _, rfl, ob2, sl_hold _ _, _, rfl, F11, x.p, x.rs, x.t, .ref lb, rows ++ [badRow], rfl, B12.same, B12.seat, (kL kRow).mono m11 kbad, lbad, val, by omega, (fun z => by rw [hbad] at z; cases z), fun i hi => ?_⟩
              rw [hbad] at hi
              cases hi
              refine EW.bad fun H13 t2 sm2 nt2 ht2 => ?_
              have B13 := B12.quiet (.of (Ext.ofSame B12.same sm2))
              refine ⟨_, rfl, _, xr9.length, rfl, .inl ⟨_, SqL.of (B13.same _ _ (m11 _ _ hxr9)), rfl⟩, by show 2 ≤ sizeLine; decide, fun p2 np2 => ?_⟩
              have B14 := B13.quiet ((XM.refl B13.same).tmp (o := .tup [.str "stretches", .int (xr9.length : Nat)]) np2)
              refine ⟨_, _, rfl, twin_tups (xs := [.str "stretches", .int (xr9.length : Nat)]) (by rw [upd_ne (ne_of_none ht2 np2), ht2, lx9]) upd_same (by show 2 ≤ 100000; decide) (fun z hz => by
                rcases List.mem_cons.mp hz with e | hz
                · exact e ▸ .inr (.inr (.inl ⟨_, rfl, rfl⟩))
                · rw [List.mem_singleton.mp hz]; exact .inl ⟨_, rfl, rfl⟩), ?_⟩
              refine ⟨true, rfl, iteF ?_⟩
              exact key _ _ ⟨F11, _, _, _, _, _, _, _, _, rfl, B14.s S.sx.rows S.sx.box t0, rfl, rfl, m9.trans m11, .bad (B14.same _ _ h11) (by rw [← lx9]; exact B14.same _ _ hd11)⟩
end
end Rw
set_option maxHeartbeats 4000000
namespace Rw
open PySem PySem.Spec PyProof.Rows L2
def spLaw21 (K : PySem.W.Frag) (Pd : Addr) : Sp := fun vs H Q _ => ∃ (s : Addr) (ns : List Int), vs = [.ref s] ∧ SqL K H s (ns.map V.int) ∧ H Pd = some (.tbl #[]) ∧ ∀ H', Q (.bl true) H'
theorem but_seqT {K : PySem.W.Frag} {H : Hp} {s p : Addr} {ns : List V} {pp : Array Value} (hP : H p = some (.tbl pp)) (h : SqL K H s ns) : SqL K (but H p) s ns := by
  rcases h with (h | ⟨o, h⟩) | h
  · exact .inl (.inl (by rw [but_at fun e => by rw [e, hP] at h; cases h]; exact h))
  · exact .inl (.inr ⟨o, by rw [but_at fun e => by rw [e, hP] at h; cases h]; exact h⟩)
  · exact .inr h
/-- a new instance was made -/
theorem Ext.made {F H F' H'' : Hp} {x dx C : Addr} (s : Same F H) (nx : H x = none) (nd : H dx = none) (ne : dx ≠ x) (X : Ext (· = x) F (upd (upd H dx (.own x)) x (.ins C dx [])) F' H'') : Ext M0 F H F' H'' := by
  refine ⟨X.ff, X.fh, fun b o e _ => ?_, fun b e => ?_, fun b e => ?_⟩
  · refine X.hh b o ?_ (ne_of_none e nx)
    rw [upd_ne (ne_of_none e nx), upd_ne (ne_of_none e nd)]
    exact e
  · refine X.tr b ?_
    by_cases h1 : b = x
    · rw [h1, upd_same]; simp
    · rw [upd_ne h1]
      by_cases h2 : b = dx
      · rw [h2, upd_same]; simp
      · rw [upd_ne h2]; exact e
  · refine X.new b ?_
    by_cases h1 : b = x
    · rw [h1, upd_same]; simp
    · rw [upd_ne h1]
      by_cases h2 : b = dx
      · rw [h2, upd_same]; simp
      · rw [upd_ne h2]; exact e
theorem S21.drawn {K : PySem.W.Frag} {C d s : Addr} {ns : List Int} {P : Addr} {F H F' H' : Hp} {x y : Sd} (S : S21 K C d s ns P F H x y) (X : Ext (· = d) F H F' H') (D : DiceAt K F' H' d s ns) : S21 K C d s ns P F' H' x y := (S.b.dice' X D).s S.sx.rows S.sx.box S.sx.t0
structure Deps21L (P : Program) (w : World) (K : PySem.W.Frag) (mg : Str → Option Value) (base : Heap) (C Pd : Addr) : Prop where
  dice : Cal P w K mg base 1 "_law_dice" ["_law_script"] (spDice K)
  next : Cal P w K mg base 1 "_law_next" ["_law_dice_here", "_law_many"] (spNext K)
  told : Cal P w K mg base 1 "_law_told_rows" ["_law_names_here"] spTold
  seat : Cal P w K mg base 1 "_law_seat" [] spLSeat
  like : Cal P w K mg base 5 "_law_like" ["_law_found", "_law_due"] (spLike 4)
  deed : Cal P w K mg base 10 "_law_deed" ["_law_d", "_law_seat_here", "_law_own"] (spDeed K C Pd)
  holds : CalM P w K mg base C 1 "holds" ["self"] (spHolds K C)
  last : CalM P w K mg base C 1 "last_term" ["self"] (spLastTerm K C)
section
variable {P : Program} {w : World} {K : PySem.W.Frag} {mg : Str → Option Value} {base : Heap} {C Pd : Addr}
theorem ok_law {f : Addr} {fd : FuncData} {fI : Addr} {fdI : FuncData} (F0 : Fun K "law" "law" s_law f fd) (T : TxS K mg C) (TN : TxN mg) (hrng : mg "range" = none) (D : Deps21L P w K mg base C Pd) (MK : Mk K C fI) (gS : mg "Seat" = some (.ref C)) (GI : FnOk P w K mg base CX0 1 fI fdI ["self"] (spSInit C K)) (bI : Binds K fdI ["self"] []) :
    FnOk P w K mg base CX0 11 f fd ["_law_script"] (spLaw21 K Pd) := by
  obtain ⟨fD, fdD, GD, gD, kpD, bD⟩ := D.dice
  obtain ⟨fN, fdN, GN, gN, kpN, bN⟩ := D.next
  obtain ⟨fT, fdT, GT, gT, kpT, bT⟩ := D.told
  obtain ⟨fE, fdE, GE, gE, kpE, bE⟩ := D.seat
  obtain ⟨fL, fdL, GL, gL, kpL, bL⟩ := D.like
  obtain ⟨fX, fdX, GX, gX, kpX, bX⟩ := D.deed
  obtain ⟨fH, fdH, GH, mH, bH⟩ := D.holds
  obtain ⟨fA, fdA, GA, mA, bA⟩ := D.last
  refine F0.ok sc_law (fun vs H Q E h => ?_) (fun cdv A outer s0 H vs Q E hr h => ?_)
  · obtain ⟨s, ns, rfl, _⟩ := h
    rfl
  · obtain ⟨s, ns, rfl, hs, htb, q⟩ := h
    have hr1 : Room 1 _ := hr.mono (by decide)
    have hr2 : Room 2 _ := hr.mono (by decide)
    have hr5 : Room 5 _ := hr.mono (by decide)
    have hu := hu_of hr
    refine ⟨_, (pss_cons (ps_set (i := 1) sc_law.nd rfl (.inl rfl) (pe_call GD hr1 (by rfl) gD kpD bD .nil pass0 (pa_cons (pv 0) pa_nil)))
      (pss_cons (ps_set (i := 2) sc_law.nd rfl (.inl rfl) (pe_lst (pa_cons (pe_tup (pa_cons (pe_make0 MK GI hr2 (by rfl) gS bI .nil pass0) (pa_cons (pe_call0 GE hr1 (by rfl) gE kpE bE .nil pass0) pa_nil))) (pa_cons (pe_tup (pa_cons (pe_make0 MK GI hr2 (by rfl) gS bI .nil pass0) (pa_cons (pe_call0 GE hr1 (by rfl) gE kpE bE .nil pass0) pa_nil))) pa_nil))))
      (pss_cons (ps_for PassesOwn.never rfl (pi_range1 (by rfl) hrng (pa_cons (pe_call GN hr1 (by rfl) gN kpN bN .nil pass0 (pa_cons (pv 1) (pa_cons pe_int pa_nil))) pa_nil)) (pg_name (i := 3) sc_law.nd rfl (.inl rfl))
      (pss_cons (ps_asg (pe_ix ix_list (pv 2) (pe_call GN hr1 (by rfl) gN kpN bN .nil pass0 (pa_cons (pv 1) (pa_cons pe_int pa_nil))) (fun _ _ => rfl)) (pg_tup (by rfl) (pgs_cons (pg_name (i := 4) sc_law.nd rfl (.inl rfl)) (pgs_cons (pg_name (i := 5) sc_law.nd rfl (.inl rfl)) pgs_nil))))
      (pss_cons (ps_if (pt_not (pt_val (pe_call GX hr (by rfl) gX kpX bX .nil pass0 (pa_cons (pv 1) (pa_cons (pv 4) (pa_cons (pv 5) pa_nil)))))) (pss_one (ps_ret pe_bl)) pss_nil)
      (pss_one (ps_for PassesOwn.never rfl (pi_list (pv 2)) (pg_tup (by rfl) (pgs_cons (pg_name (i := 6) sc_law.nd rfl (.inl rfl)) (pgs_cons (pg_name (i := 7) sc_law.nd rfl (.inl rfl)) pgs_nil)))
      (pss_one (ps_for PassesOwn.never rfl (pi_range1 (by rfl) hrng (pa_cons pe_int pa_nil)) (pg_name (i := 8) sc_law.nd rfl (.inl rfl))
      (pss_cons (ps_set (i := 9) sc_law.nd rfl (.inl rfl) (pe_meth0 (pv 6) T.cl mH GH hr1 bH .nil pass0))
      (pss_cons (ps_if (pt_not (pt_val (pe_call GL hr5 (by rfl) gL kpL bL .nil pass0 (pa_cons (pe_lst (pa_cons (pv 9) (pa_cons (pe_meth0 (pv 6) T.cl mA GA hr1 bA .nil pass0) pa_nil))) (pa_cons (pe_lst (pa_cons (pe_call GT hr1 (by rfl) gT kpT bT .nil pass0 (pa_cons (pe_callB (cr_sortedDT (by rfl)) (by rfl) TN.sorted (by decide +kernel) (pa_cons (pe_dget hu (pv 7) pe_str (fun _ _ => rfl)) pa_nil)) pa_nil)) (pa_cons (pe_dget hu (pv 7) pe_str (fun _ _ => rfl)) pa_nil))) pa_nil))))) (pss_one (ps_ret pe_bl)) pss_nil)
      (pss_one (ps_expr (pe_bm PySem.F.plainAttrs_list PySem.F.slot_list_append PySem.F.type_list_append mt_append (pv 9) (pa_cons pe_int pa_nil)))))))))))))
      (pss_one (ps_ret pe_bl))))), ?_⟩
    refine ⟨_, rfl, s, ns, rfl, hs, fun d m nd gd => ?_⟩
    have D0 : DiceAt K (but H Pd) (upd H d (dice s 0 m 0)) d s ns := ⟨but_same.trans (same_upd nd), but_same.free nd, but_seqT htb hs, 0, m, 0, upd_same, gd⟩
    have T0 : LamX.TabS (upd H d (dice s 0 m 0)) Pd qDeed := LamX.TabS.nil (by rw [upd_ne (ne_of_none htb nd)]; exact htb)
    have fP0 : but H Pd Pd = none := but_self
    revert D0 T0 fP0
    generalize upd H d (dice s 0 m 0) = H0
    generalize but H Pd = F0'
    intro D0 T0 fP0
    clear htb hs nd gd
    intro x1 dx1 nx1 ndx1 ne1
    have sm1 : Same F0' (upd (upd H0 dx1 (.own x1)) x1 (.ins C dx1 [])) := D0.fh.trans ((same_upd ndx1).trans (same_upd (by rw [upd_ne ne1.symm]; exact nx1)))
    refine ⟨F0', x1, dx1, rfl, sm1, upd_same, D0.fh.free nx1, fun FA1 HA1 XA1 A1 => ⟨rfl, ?_⟩⟩
    have YA1 := XM.of (Ext.made D0.fh nx1 ndx1 ne1 XA1)
    clear XA1 sm1
    refine ⟨FA1, rfl, YA1.fh, fun FB1 HB1 w1 r1 XB1 nw1 nr1 O1 => ?_⟩
    have YB1 := XM.of XB1
    clear XB1
    refine ⟨by show 2 ≤ sizeLine; decide, fun t1 nt1 => ?_⟩
    have YC1 := (XM.refl (M := M0) YB1.fh).lay (o := .tup [.ref x1, .ref w1]) nt1
    have ht1 : upd FB1 t1 (.tup [.ref x1, .ref w1]) t1 = some (.tup [.ref x1, .ref w1]) := upd_same
    revert YC1 ht1
    generalize upd FB1 t1 (.tup [V.ref x1, .ref w1]) = FC1
    generalize upd HB1 t1 (.tup [V.ref x1, .ref w1]) = HC1
    intro YC1 ht1
    have D1 := ((D0.xm YA1 id).xm YB1 id).xm YC1 id
    have T1 := TabS.xm (TabS.xm (TabS.xm T0 YA1 id fun _ _ _ _ m => m.elim) YB1 id fun _ _ _ _ m => m.elim) YC1 id fun _ _ _ _ m => m.elim
    have fP1 : FC1 Pd = none := by
      obtain ⟨pp, hp, _⟩ := T0
      have e1 := YA1.nw _ _ hp fun xs z => by cases z
      have h1 := YA1.hh _ _ hp id
      have e2 := YB1.nw _ _ h1 fun xs z => by cases z
      have h2 := YB1.hh _ _ h1 id
      have e3 := YC1.nw _ _ h2 fun xs z => by cases z
      rw [e3, e2, e1]; exact fP0
    have A1' := (A1.xm YB1 id).xm YC1 id
    have O1' := O1.xm YC1 id id
    clear A1 O1 D0 T0 fP0 YA1 YB1 YC1
    intro x2 dx2 nx2 ndx2 ne2
    have sm2 : Same FC1 (upd (upd HC1 dx2 (.own x2)) x2 (.ins C dx2 [])) := D1.fh.trans ((same_upd ndx2).trans (same_upd (by rw [upd_ne ne2.symm]; exact nx2)))
    refine ⟨FC1, x2, dx2, rfl, sm2, upd_same, D1.fh.free nx2, fun FA2 HA2 XA2 A2 => ⟨rfl, ?_⟩⟩
    have YA2 := XM.of (Ext.made D1.fh nx2 ndx2 ne2 XA2)
    clear XA2 sm2
    refine ⟨FA2, rfl, YA2.fh, fun FB2 HB2 w2 r2 XB2 nw2 nr2 O2 => ?_⟩
    have YB2 := XM.of XB2
    clear XB2
    refine ⟨by show 2 ≤ sizeLine; decide, fun t2 nt2 => ?_⟩
    have YC2 := (XM.refl (M := M0) YB2.fh).lay (o := .tup [.ref x2, .ref w2]) nt2
    have ht2 : upd FB2 t2 (.tup [.ref x2, .ref w2]) t2 = some (.tup [.ref x2, .ref w2]) := upd_same
    revert YC2 ht2
    generalize upd FB2 t2 (.tup [V.ref x2, .ref w2]) = FC2
    generalize upd HB2 t2 (.tup [V.ref x2, .ref w2]) = HC2
    intro YC2 ht2
    have D2 := ((D1.xm YA2 id).xm YB2 id).xm YC2 id
    have T2 := TabS.xm (TabS.xm (TabS.xm T1 YA2 id fun _ _ _ _ m => m.elim) YB2 id fun _ _ _ _ m => m.elim) YC2 id fun _ _ _ _ m => m.elim
    have fP2 : FC2 Pd = none := by
      obtain ⟨pp, hp, _⟩ := T1
      have e1 := YA2.nw _ _ hp fun xs z => by cases z
      have h1 := YA2.hh _ _ hp id
      have e2 := YB2.nw _ _ h1 fun xs z => by cases z
      have h2 := YB2.hh _ _ h1 id
      have e3 := YC2.nw _ _ h2 fun xs z => by cases z
      rw [e3, e2, e1]; exact fP1
    have ne12 : x1 ≠ x2 := by
      obtain ⟨_, _, ob, _⟩ := A1'.ob
      exact ne_of_none ob nx2
    have nw12 : w1 ≠ w2 := ne_of_none (YA2.hh _ _ O1'.hw id) nw2
    have nr12 : r1 ≠ r2 := by
      obtain ⟨_, hr', _⟩ := O1'.hr
      exact ne_of_none (YA2.hh _ _ hr' id) nr2
    have A2' := (A2.xm YB2 id).xm YC2 id
    have O2' := O2.xm YC2 id id
    have A1'' := ((A1'.xm YA2 id).xm YB2 id).xm YC2 id
    have O1'' := ((O1'.xm YA2 id id).xm YB2 id id).xm YC2 id id
    have ht1' := (YA2.ff.trans (YB2.ff.trans YC2.ff)) _ _ ht1
    have R0 : RowsOf [] [] := ⟨.nil, fun p => ⟨fun h => absurd h mem_nil, fun h => absurd h (by simp)⟩, Nat.le_refl _⟩
    have S2 : S21 K C d s ns Pd FC2 HC2 ⟨x1, w1, r1, 0, [], []⟩ ⟨x2, w2, r2, 0, [], []⟩ := ⟨D2, T2, fP2, ⟨A1'', O1'', R0, fun q hq => absurd hq (by simp), Int.le_refl _⟩, ⟨A2', O2', R0, fun q hq => absurd hq (by simp), Int.le_refl _⟩, ne12, nw12, nr12⟩
    clear A1' O1' A1'' O1'' A2 O2 A2' O2' D1 T1 fP1 D2 T2 fP2 YA2 YB2 YC2 ht1 ne12 nw12 nr12
    refine ⟨by show 2 ≤ sizeLine; decide, fun LL nL => ?_⟩
    have S3 := S2.quiet ((XM.refl S2.dice.fh).lay (o := .lst [.ref t1, .ref t2]) nL)
    have fL : upd FC2 LL (.lst [.ref t1, .ref t2]) LL = some (.lst [.ref t1, .ref t2]) := upd_same
    have f1 := same_upd (o := .lst [.ref t1, .ref t2]) (S2.dice.fh.free nL) _ _ ht1'
    have f2 := same_upd (o := .lst [.ref t1, .ref t2]) (S2.dice.fh.free nL) _ _ ht2
    revert S3 fL f1 f2
    generalize upd FC2 LL (.lst [V.ref t1, .ref t2]) = F3
    generalize upd HC2 LL (.lst [V.ref t1, .ref t2]) = H3
    intro S3 fL f1 f2
    clear S2 ht1' ht2 nL
    refine ⟨_, rfl, F3, d, s, ns, 81, rfl, S3.dice, by decide, by decide, fun n H4 n0 n1 X4 D4 => ?_⟩
    have S4 := S3.drawn X4 D4
    clear X4 D4 S3
    refine ⟨n, rfl, by omega, by omega, for_range (lo := 0) (n := n.toNat) (fun i σ H' => ∃ F' x y y3 y4 y5 y6 y7 y8 y9, σ = [some (.ref s), some (.ref d), some (.ref LL), y3, y4, y5, y6, y7, y8, y9] ∧ S21 K C d s ns Pd F' H' x y ∧ x.p = x1 ∧ x.w = w1 ∧ y.p = x2 ∧ y.w = w2 ∧ Same F3 F')
      ⟨F3, _, _, _, _, _, _, _, _, _, rfl, S4, rfl, rfl, rfl, rfl, Same.refl _⟩ ?_ ?_⟩
    · rintro i σ H5 hi ⟨F5, x, y, y3, y4, y5, y6, y7, y8, y9, rfl, S5, e1, e2, e3, e4, m5⟩
      refine ⟨_, rfl, _, rfl, F5, d, s, ns, 2, rfl, S5.dice, by decide, by decide, fun z H6 z0 z1 X6 D6 => ?_⟩
      have S6 := S5.drawn X6 D6
      clear X6 D6
      obtain ⟨a, b, tv, Sab, hat, htv, conv⟩ : ∃ (a b : Sd) (tv : Addr), S21 K C d s ns Pd F5 H6 a b ∧ atI [V.ref t1, .ref t2] z = some (.ref tv) ∧ F5 tv = some (.tup [.ref a.p, .ref a.w]) ∧ ∀ F' H' a', S21 K C d s ns Pd F' H' a' b → a'.p = a.p → a'.w = a.w → ∃ x' y', S21 K C d s ns Pd F' H' x' y' ∧ x'.p = x1 ∧ x'.w = w1 ∧ y'.p = x2 ∧ y'.w = w2 := by
        by_cases ez : z = 0
        · subst ez
          exact ⟨x, y, t1, S6, atI_nat (j := 0) rfl, by rw [e1, e2]; exact m5 _ _ f1, fun F' H' a' S' h1 h2 => ⟨a', y, S', h1.trans e1, h2.trans e2, e3, e4⟩⟩
        · obtain rfl : z = 1 := by omega
          exact ⟨y, x, t2, S6.swap, atI_nat (j := 1) rfl, by rw [e3, e4]; exact m5 _ _ f2, fun F' H' a' S' h1 h2 => ⟨x, a', S'.swap, e1, e2, h1.trans e3, h2.trans e4⟩⟩
      refine ⟨LL, _, _, _, rfl, rfl, SqL.of (S6.dice.fh _ _ (m5 _ _ fL)), hat, ?_⟩
      refine ⟨tv, _, rfl, SqT.of (S6.dice.fh _ _ htv), rfl, _, _, rfl, _, _, rfl, rfl, ?_⟩
      refine ⟨_, rfl, _, rfl, _, rfl, F5, d, s, ns, a, b, rfl, Sab, fun F7 H7 a' S7 ep ew m7 => ?_⟩
      refine ⟨true, rfl, iteF ?_⟩
      obtain ⟨x', y', S7', e1', e2', e3', e4'⟩ := conv F7 H7 a' S7 ep ew
      have m57 := m5.trans m7
      clear conv Sab hat htv S7 ep ew S5 S6 m5 m7 e1 e2 e3 e4
      refine ⟨_, rfl, LL, rfl, ⟨_, SqL.of (S7'.dice.fh _ _ (m57 _ _ fL))⟩, for_list (K := K) (a := LL) (xs := [.ref t1, .ref t2]) (fun j σ H' => ∃ F' y6 y7 y8 y9, σ = [some (.ref s), some (.ref d), some (.ref LL), some (.int (0 + (i : Int))), some (.ref a.p), some (.ref a.w), y6, y7, y8, y9] ∧ S21 K C d s ns Pd F' H' x' y' ∧ Same F3 F')
        ⟨F7, _, _, _, _, rfl, S7', m57⟩ (fun j σ H' _ ⟨F', _, _, _, _, _, S', m'⟩ => SqL.of (S'.dice.fh _ _ (m' _ _ fL))) ?_ ?_⟩
      · rintro j v σ H8 hj ⟨F8, y6', y7', y8', y9', rfl, S8, m8⟩
        obtain ⟨o1, o2, tw, So, htw, ev, conv⟩ : ∃ (o1 o2 : Sd) (tw : Addr), S21 K C d s ns Pd F8 H8 o1 o2 ∧ F8 tw = some (.tup [.ref o1.p, .ref o1.w]) ∧ v = .ref tw ∧ ∀ F' H', S21 K C d s ns Pd F' H' o1 o2 → S21 K C d s ns Pd F' H' x' y' := by
          match j, hj with
          | 0, hj => cases hj; exact ⟨x', y', t1, S8, by rw [e1', e2']; exact m8 _ _ f1, rfl, fun F' H' z => z⟩
          | 1, hj => cases hj; exact ⟨y', x', t2, S8.swap, by rw [e3', e4']; exact m8 _ _ f2, rfl, fun F' H' z => z.swap⟩
          | j + 2, hj => cases hj
        subst ev
        refine ⟨tw, _, rfl, SqT.of (S8.dice.fh _ _ htw), rfl, _, _, rfl, _, _, rfl, rfl, ?_⟩
        refine ⟨2, rfl, by decide, by decide, for_range (lo := 0) (n := (2 : Int).toNat) (fun k σ H' => ∃ F' y8 y9, σ = [some (.ref s), some (.ref d), some (.ref LL), some (.int (0 + (i : Int))), some (.ref a.p), some (.ref a.w), some (.ref o1.p), some (.ref o1.w), y8, y9] ∧ S21 K C d s ns Pd F' H' o1 o2 ∧ Same F3 F')
          ⟨F8, _, _, rfl, So, m8⟩ ?_ ?_⟩
        · rintro k σ H9 hk ⟨F9, z8, z9, rfl, S9, m9⟩
          obtain ⟨dx, ra, ob, _⟩ := S9.sx.seat.ob
          refine ⟨_, rfl, o1.p, dx, _, rfl, ob, sl_holds _ _, F9, o1.p, o1.rs, o1.t, rfl, S9.dice.fh, S9.sx.seat, fun F10 H10 c vs out X10 nc fc hc hp eo => ?_⟩
          subst eo
          have S10 := S9.quiet (.of X10)
          have m10 := m9.trans X10.ff
          have ndc := S9.dice.ne nc
          clear X10 nc
          obtain ⟨dx1, ra1, ob1, _⟩ := S10.sx.seat.ob
          have ln := S10.sx.len
          refine ⟨_, rfl, _, rfl, o1.p, dx1, _, rfl, ob1, sl_last _ _, F10, o1.p, o1.rs, o1.t, rfl, S10.sx.seat, by show 2 ≤ sizeLine; decide, fun l1 nl1 => ?_⟩
          have S11 := S10.quiet ((XM.refl S10.dice.fh).tmp (o := .lst [.ref c, .int o1.t]) nl1)
          have h11 : upd H10 l1 (.lst [.ref c, .int o1.t]) l1 = some (.lst [.ref c, .int o1.t]) := upd_same
          have hc11 : upd H10 l1 (.lst [.ref c, .int o1.t]) c = some (.lst vs) := by rw [upd_ne (ne_of_none hc nl1)]; exact hc
          revert S11 h11 hc11
          generalize upd H10 l1 (.lst [V.ref c, .int o1.t]) = H11
          intro S11 h11 hc11
          obtain ⟨kvs, hr11, dk11⟩ := S11.sx.own.hr
          refine ⟨_, rfl, o1.w, .ref o1.r, rfl, DGet.k (k := Sum.inr "rows") S11.sx.own.hw, o1.r, kvs, o1.ps, rfl, hr11, dk11.keys, dk11.nd, ?_⟩
          refine told_own (φ := (· = o1.ps)) (M := M0) (u := o1.t) (XM.refl S11.dice.fh) S11.sx.own (fun c z => z.elim) (by omega) rfl fun F12 H12 b' us out' ps' X12 O12 e12 R12 nb fb hb hpb => ?_
          subst e12
          have eo := R12.uniq S11.sx.rows
          subst eo
          have S12 := S11.quiet X12
          have h12 := X12.hh _ _ h11 id
          have hc12 := X12.hh _ _ hc11 id
          have fc12 : F12 c = none := by rw [X12.nw _ _ hc11 fun xs z => by cases z]; exact fc
          have hp12 := pr_mono (fun _ _ z => kRow.mono X12.ff z) hp
          have m12 := m10.trans X12.ff
          clear X12 h11 hc11 O12 nb
          refine ⟨_, rfl, o1.w, _, rfl, DGet.k (k := Sum.inr "term") S12.sx.own.hw, by show 2 ≤ sizeLine; decide, fun l2 nl2 => ?_⟩
          have S13 := S12.quiet ((XM.refl S12.dice.fh).tmp (o := .lst [.ref b', .int o1.t]) nl2)
          have k1 : upd H12 l2 (.lst [.ref b', .int o1.t]) l1 = some (.lst [.ref c, .int o1.t]) := by rw [upd_ne (ne_of_none h12 nl2)]; exact h12
          have k2 : upd H12 l2 (.lst [.ref b', .int o1.t]) l2 = some (.lst [.ref b', .int o1.t]) := upd_same
          have k3 : upd H12 l2 (.lst [.ref b', .int o1.t]) c = some (.lst vs) := by rw [upd_ne (ne_of_none hc12 nl2)]; exact hc12
          have k4 : upd H12 l2 (.lst [.ref b', .int o1.t]) b' = some (.lst us) := by rw [upd_ne (ne_of_none hb nl2)]; exact hb
          revert S13 k1 k2 k3 k4
          generalize upd H12 l2 (.lst [V.ref b', .int o1.t]) = H13
          intro S13 k1 k2 k3 k4
          refine ⟨_, _, rfl, .inr ⟨l1, l2, _, _, rfl, rfl, .inr ⟨k1, k2⟩, by show 2 ≤ 100000; decide, rfl, fun n0 u0 u1 g0 g1 => ?_⟩, true, rfl, iteF ?_⟩
          · match n0, g0, g1 with
            | 0, g0, g1 => cases g0; cases g1; exact twin_rows S13.dice.fh k3 k4 hp12 hpb (by omega)
            | 1, g0, g1 => cases g0; cases g1; exact twin_int _
            | n0 + 2, g0, g1 => cases g0
          · have lv := pr_len hp
            refine ⟨_, rfl, .inl ⟨rfl, _, SqL.of k3⟩, c, vs, _, rfl, rfl, k3, by rw [sizeLine_eq]; omega, ?_⟩
            exact ⟨F12, _, _, rfl, S13.spoil ndc fc12 k3, m12⟩
        · rintro σ H9 ⟨F9, z8, z9, rfl, S9, m9⟩
          exact ⟨F9, _, _, _, _, rfl, conv _ _ S9, m9⟩
      · rintro σ H8 ⟨F8, y6', y7', y8', y9', rfl, S8, m8⟩
        exact ⟨F8, x', y', _, _, _, _, _, _, _, rfl, S8, e1', e2', e3', e4', m8⟩
    · rintro σ H5 ⟨F5, x, y, y3, y4, y5, y6, y7, y8, y9, rfl, S5, e1, e2, e3, e4, m5⟩
      exact q _
end
end Rw
namespace Rw
open PySem PySem.Spec PyProof.Rows L2
/-! ### what the head tells -/
def HasFn (K : PySem.W.Frag) (x : Str) (st : Stmt) : Prop := ∃ (f : Addr) (oc : Value) (od an : Option Addr) (osl : Array (Option Value)) (kV doc pm cdv ct : Value),
  PySem.W.nsIn K mainGlobals x = some (some (.ref f)) ∧ K.lookup f = some ⟨oc, od, .func (PySem.W.fnOf x x (defArgs st) (defBody st) (defScope st) .none kV doc pm an cdv ct), osl⟩ ∧ PySem.W.codeIn K cdv x = true ∧ PySem.W.keepIn K (.ref f) = true
theorem has_mk {K : PySem.W.Frag} {x : Str} {st : Stmt} {f : Addr} {oc : Value} {od an : Option Addr} {osl : Array (Option Value)} {kV doc pm cdv ct : Value}
    (a : PySem.W.nsIn K mainGlobals x = some (some (.ref f))) (l : K.lookup f = some ⟨oc, od, .func (PySem.W.fnOf x x (defArgs st) (defBody st) (defScope st) .none kV doc pm an cdv ct), osl⟩) (c : PySem.W.codeIn K cdv x = true) (k : PySem.W.keepIn K (.ref f) = true) : HasFn K x st :=
  ⟨f, oc, od, an, osl, kV, doc, pm, cdv, ct, a, l, c, k⟩
def tabOkIn (K : PySem.W.Frag) (x : Str) : Bool := match PySem.W.tabIn K x with
  | some (_, P) => (K.lookup P).isNone
  | none => false
theorem tab_ok {K : PySem.W.Frag} {x : Str} (h : tabOkIn K x = true) : ∃ c P, PySem.W.tabIn K x = some (c, P) ∧ K.lookup P = none := by
  unfold tabOkIn at h
  split at h
  · rename_i c P e
    exact ⟨c, P, e, Option.isNone_iff_eq_none.mp h⟩
  · cases h
def HasInt (K : PySem.W.Frag) (x : Str) (z : Int) : Prop := ∃ t, PySem.W.nsIn K mainGlobals x = some (some (.int z t))
theorem int_mk {K : PySem.W.Frag} {x : Str} {z : Int} {t : Tok} (a : PySem.W.nsIn K mainGlobals x = some (some (.int z t))) : HasInt K x z := ⟨t, a⟩
theorem HasFn.fn {K : PySem.W.Frag} {x : Str} {st : Stmt} {h : Heap} {mg : Str → Option Value} (H : HasFn K x st) (X : K.In h) (G : h.Ns mainGlobals mg) : ∃ (f : Addr) (fd : FuncData), Fun K x x st f fd ∧ mg x = some (.ref f) := by
  obtain ⟨f, oc, od, an, osl, kV, doc, pm, cdv, ct, a, l, c, k⟩ := H
  exact ⟨f, _, fun_mk (st := st) l c k, PySem.W.mg_of X G a⟩
theorem HasInt.mg {K : PySem.W.Frag} {x : Str} {z : Int} {h : Heap} {mg : Str → Option Value} (H : HasInt K x z) (X : K.In h) (G : h.Ns mainGlobals mg) : ∃ t, mg x = some (.int z t) := by
  obtain ⟨t, a⟩ := H
  exact ⟨t, PySem.W.mg_of X G a⟩
def HasMeth (K : PySem.W.Frag) (C : Addr) (m q : Str) (st : Stmt) : Prop := ∃ (f : Addr) (oc : Value) (od an : Option Addr) (osl : Array (Option Value)) (kV doc pm cdv ct : Value),
  PySem.W.findIn K (.ref C) m = some (some (.ref f)) ∧ PySem.W.isFn K (.ref f) = true ∧ K.lookup f = some ⟨oc, od, .func (PySem.W.fnOf m q (defArgs st) (defBody st) (defScope st) .none kV doc pm an cdv ct), osl⟩ ∧ PySem.W.codeIn K cdv q = true ∧ PySem.W.keepIn K (.ref f) = true
theorem meth_mk {K : PySem.W.Frag} {C : Addr} {m q : Str} {st : Stmt} {f : Addr} {oc : Value} {od an : Option Addr} {osl : Array (Option Value)} {kV doc pm cdv ct : Value} (a : PySem.W.findIn K (.ref C) m = some (some (.ref f))) (i : PySem.W.isFn K (.ref f) = true)
    (l : K.lookup f = some ⟨oc, od, .func (PySem.W.fnOf m q (defArgs st) (defBody st) (defScope st) .none kV doc pm an cdv ct), osl⟩) (c : PySem.W.codeIn K cdv q = true) (k : PySem.W.keepIn K (.ref f) = true) : HasMeth K C m q st :=
  ⟨f, oc, od, an, osl, kV, doc, pm, cdv, ct, a, i, l, c, k⟩
structure IsSeat (K : PySem.W.Frag) (C : Addr) : Prop where
  aC : PySem.W.nsIn K mainGlobals "Seat" = some (some (.ref C))
  pg : PySem.W.plainGet K C Str.empty = true
  hd : PySem.W.hasDictIn K C = true
  po : PySem.W.plainOver K C = true
  sa : PySem.W.findIn K (.ref C) "__setattr__" = some (some (.builtin "object.__setattr__"))
  mks : PySem.W.makesIn K C = true
  kc : PySem.W.keepIn K (.ref C) = true
  n_rows : PySem.W.findIn K (.ref C) "_rows" = some none
  n_term : PySem.W.findIn K (.ref C) "_term" = some none
  m_holds : HasMeth K C "holds" "Seat.holds" s_Seat_holds
  m_last_term : HasMeth K C "last_term" "Seat.last_term" s_Seat_last_term
  m_hold : HasMeth K C "hold" "Seat.hold" s_Seat_hold
  m_ask : HasMeth K C "ask" "Seat.ask" s_Seat_ask
  m_keep : HasMeth K C "keep" "Seat.keep" s_Seat_keep
  m_init : HasMeth K C "__init__" "Seat.__init__" s_Seat___init__
theorem seat_mk {K : PySem.W.Frag} {C : Addr} (I : IsSeat K C) : ∃ C, IsSeat K C := ⟨C, I⟩
/-- a class of refusals with its own dict, over ValueError -/
def oexB (K : PySem.W.Frag) (C : Addr) : Bool := match K.lookup C with
  | some { cls := .type t, dict := _, data := .cls c, slots := z } => t == "type" && (c.hasDict && (!c.hasDel && ((match c.mro with | .ref D :: m => D == C && PySem.HandSPX.refsVE m | _ => false) &&
      (match z.toList with | [_, _, _, _, some (.builtin n), _] => n == "ValueError.__new__" | _ => false))))
  | _ => false
theorem oexB_ok {K : PySem.W.Frag} {C : Addr} (h : oexB K C = true) : ∃ nm q N bs bm sn sub ab col dd k0 k1 k2 k3 k5, K.lookup C = some (excClassObj nm q C N bs bm true sn sub ab col dd k0 k1 k2 k3 k5 "ValueError.__new__") ∧ PySem.HandSPX.refsVE bm = true := by
  unfold oexB at h
  split at h
  · rename_i t dd c z ho
    simp only [Bool.and_eq_true, beq_iff_eq, Bool.not_eq_true'] at h
    obtain ⟨rfl, h1, h2, h3, h4⟩ := h
    split at h3
    · rename_i D m em
      split at h4
      · rename_i k0 k1 k2 k3 n k5 ez
        simp only [Bool.and_eq_true, beq_iff_eq] at h3 h4
        obtain ⟨rfl, hm⟩ := h3
        subst h4
        obtain ⟨l⟩ := z
        obtain ⟨nm, bs, mro, ns, qn, hd, sn, sub, ab, col, del⟩ := c
        simp only at em ez h1 h2
        subst em ez h1 h2
        exact ⟨nm, qn, ns, bs, m, sn, sub, ab, col, dd, k0, k1, k2, k3, k5, ho, hm⟩
      · cases h4
    · cases h3
  · cases h
/-- the refusal that keeps a place -/
def HasEx0 (K : PySem.W.Frag) : Prop := ∃ (C fI : Addr) (oc : Value) (od an : Option Addr) (osl : Array (Option Value)) (kV doc pm cdv ct : Value), PySem.W.nsIn K mainGlobals "BadStretches" = some (some (.ref C)) ∧ OexC K C ∧ PySem.W.findIn K (.ref C) "__init__" = some (some (.ref fI)) ∧
  PySem.W.typeIn K (.ref fI) = some (.type "function") ∧ K.lookup fI = some ⟨oc, od, .func (PySem.W.fnOf "__init__" "BadStretches.__init__" (defArgs s_BadStretches___init__) (defBody s_BadStretches___init__) (defScope s_BadStretches___init__) .none kV doc pm an cdv ct), osl⟩ ∧
  PySem.W.codeIn K cdv "BadStretches.__init__" = true ∧ PySem.W.keepIn K (.ref fI) = true ∧ PySem.W.findIn K (.ref C) "at" = some none
theorem ex0_mk {K : PySem.W.Frag} {C fI : Addr} {oc : Value} {od an : Option Addr} {osl : Array (Option Value)} {kV doc pm cdv ct : Value} 
    (a : PySem.W.nsIn K mainGlobals "BadStretches" = some (some (.ref C))) (lc : oexB K C = true) (sa : PySem.W.findIn K (.ref C) "__setattr__" = some (some (.builtin "object.__setattr__")))
    (ec : PySem.W.subIn K (.ref C) (.type "BaseException") = some true) (ty : PySem.W.typeIn K (.ref C) = some (.type "type")) (kc : PySem.W.keepIn K (.ref C) = true) (i : PySem.W.findIn K (.ref C) "__init__" = some (some (.ref fI))) (t : PySem.W.typeIn K (.ref fI) = some (.type "function"))
    (l : K.lookup fI = some ⟨oc, od, .func (PySem.W.fnOf "__init__" "BadStretches.__init__" (defArgs s_BadStretches___init__) (defBody s_BadStretches___init__) (defScope s_BadStretches___init__) .none kV doc pm an cdv ct), osl⟩) (c : PySem.W.codeIn K cdv "BadStretches.__init__" = true) (k : PySem.W.keepIn K (.ref fI) = true)
    (n : PySem.W.findIn K (.ref C) "at" = some none) : HasEx0 K :=
  ⟨C, fI, oc, od, an, osl, kV, doc, pm, cdv, ct, a, ⟨oexB_ok lc, sa, ec, ty, kc⟩, i, t, l, c, k, n⟩
/-- the refusals without a number -/
def exPlainB (K : PySem.W.Frag) (i : Nat) : Bool := PySem.W.excIn K (exC K i) [.type "ValueError", .type "Exception", .type "BaseException", .type "object"] "ValueError.__new__" && (PySem.W.keepIn K (.ref (exC K i)) && (decide (PySem.W.subIn K (.ref (exC K i)) (.type "BaseException") = some true) && decide (PySem.W.typeIn K (.ref (exC K i)) = some (.type "type"))))
theorem exMk_of {K : PySem.W.Frag} {mg : Str → Option Value} {i : Nat} (T : ToldC K mg) (hi : i < 9) (h : exPlainB K i = true) : ExMk K mg i := by
  unfold exPlainB at h
  simp only [Bool.and_eq_true, decide_eq_true_eq] at h
  exact ⟨h.1, T.g i hi, h.2.1, h.2.2.1, h.2.2.2⟩
theorem exC_of {K : PySem.W.Frag} {C : Addr} (i : Nat) {x : Str} (hx : exN.getD i "" = x) (a : PySem.W.nsIn K mainGlobals x = some (some (.ref C))) : exC K i = C := by
  unfold exC exAddr
  rw [hx, a]
  rfl
structure Head (K : PySem.W.Frag) : Prop where
  fis_number : HasFn K "is_number" s_is_number
  fis_house : HasFn K "is_house" s_is_house
  fchanges_of : HasFn K "changes_of" s_changes_of
  freaching : HasFn K "reaching" s_reaching
  ffewest : HasFn K "fewest" s_fewest
  f_law_dice : HasFn K "_law_dice" s_law_dice
  f_law_next : HasFn K "_law_next" s_law_next
  f_law_rows : HasFn K "_law_rows" s_law_rows
  f_law_names : HasFn K "_law_names" s_law_names
  f_law_told_rows : HasFn K "_law_told_rows" s_law_told_rows
  f_law_seat : HasFn K "_law_seat" s_law_seat
  f_law_asked : HasFn K "_law_asked" s_law_asked
  f_law_kept : HasFn K "_law_kept" s_law_kept
  f_law_like : HasFn K "_law_like" s_law_like
  fis_row : HasFn K "is_row" s_is_row
  ffirst_wrong : HasFn K "first_wrong" s_first_wrong
  fcheck_rows : HasFn K "check_rows" s_check_rows
  f_law_told : HasFn K "_law_told" s_law_told
  f_law_deed : HasFn K "_law_deed" s_law_deed
  flaw : HasFn K "law" s_law
  last : HasInt K "LAST_HOUSE" 7
  most : HasInt K "MOST_ROWS" 200
  first : HasInt K "FIRST_TERM" 1
  t_law_deed : tabOkIn K "_law_deed" = true
  zisinstance : PySem.W.nsIn K mainGlobals "isinstance" = some none
  zint : PySem.W.nsIn K mainGlobals "int" = some none
  zbool : PySem.W.nsIn K mainGlobals "bool" = some none
  zstr : PySem.W.nsIn K mainGlobals "str" = some none
  ztuple : PySem.W.nsIn K mainGlobals "tuple" = some none
  zlist : PySem.W.nsIn K mainGlobals "list" = some none
  zlen : PySem.W.nsIn K mainGlobals "len" = some none
  zenumerate : PySem.W.nsIn K mainGlobals "enumerate" = some none
  zsorted : PySem.W.nsIn K mainGlobals "sorted" = some none
  zrange : PySem.W.nsIn K mainGlobals "range" = some none
  zmin : PySem.W.nsIn K mainGlobals "min" = some none
  zmax : PySem.W.nsIn K mainGlobals "max" = some none
  zValueError : PySem.W.nsIn K mainGlobals "ValueError" = some none
  seat : ∃ C, IsSeat K C
  ex0 : HasEx0 K
  ex7 : exPlainB K 7 = true
  exall : exAllB K = true
  base : BaseI K (exD K) (.type "type")
theorem tab_conv {base : Heap} {mg : Str → Option Value} {c P : Addr} (h : LamX.TabB base mg c P) : LamX.TabB base mg c P := ⟨h.code, h.bm, h.gP⟩
set_option maxHeartbeats 8000000 in
theorem all_ok {P : Program} {w : World} {K : PySem.W.Frag} {h base : Heap} {mg : Str → Option Value} {fa : Addr} {P_law_deed c_law_deed : Addr} (D : Head K) (X : K.In h) (G : h.Ns mainGlobals mg) (lim : ∃ t, mg "LIMIT" = some (.int LIM t)) (TB_law_deed : LamX.TabB base mg c_law_deed P_law_deed) (ht_law_deed : PySem.W.tabIn K "_law_deed" = some (c_law_deed, P_law_deed)) {fd : FuncData} (F : Fun K "law" "law" s_law fa fd) : FnOk P w K mg base CX0 11 fa fd ["_law_script"] (spLaw21 K P_law_deed) := by
  have T0 : TxA mg := ⟨PySem.W.mg_none_of X G D.zisinstance, PySem.W.mg_none_of X G D.zint, PySem.W.mg_none_of X G D.zbool, PySem.W.mg_none_of X G D.ztuple, PySem.W.mg_none_of X G D.zlen, PySem.W.mg_none_of X G D.zenumerate, D.last.mg X G, lim, D.most.mg X G⟩
  have TB : TxB mg := ⟨PySem.W.mg_none_of X G D.zsorted⟩
  have TL : TxL mg := ⟨PySem.W.mg_none_of X G D.zint, PySem.W.mg_none_of X G D.zlen, PySem.W.mg_none_of X G D.zrange, PySem.W.mg_none_of X G D.zmin⟩
  have TN : TxN mg := ⟨PySem.W.mg_none_of X G D.zrange, PySem.W.mg_none_of X G D.zsorted⟩
  have TK : TxK mg := ⟨PySem.W.mg_none_of X G D.zisinstance, PySem.W.mg_none_of X G D.zint, PySem.W.mg_none_of X G D.zbool, PySem.W.mg_none_of X G D.zstr, PySem.W.mg_none_of X G D.ztuple, PySem.W.mg_none_of X G D.zlist, PySem.W.mg_none_of X G D.zlen, PySem.W.mg_none_of X G D.zrange⟩
  have hmax : mg "max" = none := PySem.W.mg_none_of X G D.zmax
  have c_is_number : Cal P w K mg base 1 "is_number" ["value", "low", "high"] spIsNumber := by
    obtain ⟨f, fd, F1, g⟩ := D.fis_number.fn X G
    exact ⟨f, fd, ok_is_number F1 T0, g, F1.kp, F1.binds (ps := ["value", "low", "high"]) fun _ _ _ _ _ _ us hl => match us, hl with | [_, _, _], _ => rfl⟩
  have c_is_house : Cal P w K mg base 2 "is_house" ["value"] spIsHouse := by
    obtain ⟨f, fd, F1, g⟩ := D.fis_house.fn X G
    exact ⟨f, fd, ok_is_house F1 T0 c_is_number, g, F1.kp, F1.binds (ps := ["value"]) fun _ _ _ _ _ _ us hl => match us, hl with | [_], _ => rfl⟩
  have c_changes_of : Cal P w K mg base 1 "changes_of" ["weighed"] spChangesOf := by
    obtain ⟨f, fd, F1, g⟩ := D.fchanges_of.fn X G
    exact ⟨f, fd, ok_changes_of F1 , g, F1.kp, F1.binds (ps := ["weighed"]) fun _ _ _ _ _ _ us hl => match us, hl with | [_], _ => rfl⟩
  have c_reaching : Cal P w K mg base 2 "reaching" ["weighed", "least"] spReaching := by
    obtain ⟨f, fd, F1, g⟩ := D.freaching.fn X G
    exact ⟨f, fd, ok_reaching F1 TB c_changes_of, g, F1.kp, F1.binds (ps := ["weighed", "least"]) fun _ _ _ _ _ _ us hl => match us, hl with | [_, _], _ => rfl⟩
  have c_fewest : Cal P w K mg base 3 "fewest" ["rows"] spFewest := by
    obtain ⟨f, fd, F1, g⟩ := D.ffewest.fn X G
    exact ⟨f, fd, ok_fewest F1 c_reaching, g, F1.kp, F1.binds (ps := ["rows"]) fun _ _ _ _ _ _ us hl => match us, hl with | [_], _ => rfl⟩
  have c__law_dice : Cal P w K mg base 1 "_law_dice" ["_law_script"] (spDice K) := by
    obtain ⟨f, fd, F1, g⟩ := D.f_law_dice.fn X G
    exact ⟨f, fd, ok_law_dice F1 TL, g, F1.kp, F1.binds (ps := ["_law_script"]) fun _ _ _ _ _ _ us hl => match us, hl with | [_], _ => rfl⟩
  have c__law_next : Cal P w K mg base 1 "_law_next" ["_law_dice_here", "_law_many"] (spNext K) := by
    obtain ⟨f, fd, F1, g⟩ := D.f_law_next.fn X G
    exact ⟨f, fd, ok_law_next F1 TL, g, F1.kp, F1.binds (ps := ["_law_dice_here", "_law_many"]) fun _ _ _ _ _ _ us hl => match us, hl with | [_, _], _ => rfl⟩
  have c__law_rows : Cal P w K mg base 2 "_law_rows" ["_law_d", "_law_houses", "_law_far", "_law_most"] (spRows K) := by
    obtain ⟨f, fd, F1, g⟩ := D.f_law_rows.fn X G
    exact ⟨f, fd, ok_law_rows F1 TL c__law_next, g, F1.kp, F1.binds (ps := ["_law_d", "_law_houses", "_law_far", "_law_most"]) fun _ _ _ _ _ _ us hl => match us, hl with | [_, _, _, _], _ => rfl⟩
  have c__law_names : Cal P w K mg base 1 "_law_names" ["_law_rows_here"] spNames := by
    obtain ⟨f, fd, F1, g⟩ := D.f_law_names.fn X G
    exact ⟨f, fd, ok_law_names F1 TN, g, F1.kp, F1.binds (ps := ["_law_rows_here"]) fun _ _ _ _ _ _ us hl => match us, hl with | [_], _ => rfl⟩
  have c__law_told_rows : Cal P w K mg base 1 "_law_told_rows" ["_law_names_here"] spTold := by
    obtain ⟨f, fd, F1, g⟩ := D.f_law_told_rows.fn X G
    exact ⟨f, fd, ok_law_told_rows F1 , g, F1.kp, F1.binds (ps := ["_law_names_here"]) fun _ _ _ _ _ _ us hl => match us, hl with | [_], _ => rfl⟩
  have c__law_seat : Cal P w K mg base 1 "_law_seat" [] spLSeat := by
    obtain ⟨f, fd, F1, g⟩ := D.f_law_seat.fn X G
    exact ⟨f, fd, ok_law_seat F1 , g, F1.kp, F1.binds (ps := []) fun _ _ _ _ _ _ us hl => match us, hl with | [], _ => rfl⟩
  have c__law_asked : Cal P w K mg base 2 "_law_asked" ["_law_seat_here", "_law_term"] spAsked := by
    obtain ⟨f, fd, F1, g⟩ := D.f_law_asked.fn X G
    exact ⟨f, fd, ok_law_asked F1 TN c__law_told_rows, g, F1.kp, F1.binds (ps := ["_law_seat_here", "_law_term"]) fun _ _ _ _ _ _ us hl => match us, hl with | [_, _], _ => rfl⟩
  have c__law_kept : Cal P w K mg base 2 "_law_kept" ["_law_seat_here", "_law_term", "_law_rows_here"] spLKept := by
    obtain ⟨f, fd, F1, g⟩ := D.f_law_kept.fn X G
    exact ⟨f, fd, ok_law_kept F1 TN hmax c__law_names c__law_told_rows, g, F1.kp, F1.binds (ps := ["_law_seat_here", "_law_term", "_law_rows_here"]) fun _ _ _ _ _ _ us hl => match us, hl with | [_, _, _], _ => rfl⟩
  have c__law_like : Cal P w K mg base 5 "_law_like" ["_law_found", "_law_due"] (spLike 4) := by
    obtain ⟨f, fd, F1, g⟩ := D.f_law_like.fn X G
    have bd : Binds K fd ["_law_found", "_law_due"] [] := F1.binds (ps := ["_law_found", "_law_due"]) fun _ _ _ _ _ _ us hl => match us, hl with | [_, _], _ => rfl
    have c0 : FnOk P w K mg base CX0 1 f fd ["_law_found", "_law_due"] (spLike 0) := ⟨fun vs H Q E z => by obtain ⟨_, _, _, z, _⟩ := z; exact z.elim, fun A outer s H args us vs Q E _ _ _ _ z => by obtain ⟨_, _, _, z, _⟩ := z; exact z.elim⟩
    have c1 := ok_law_like (n := 0) F1 TK ⟨f, fd, c0, g, F1.kp, bd⟩
    have c2 := ok_law_like (n := 1) F1 TK ⟨f, fd, c1, g, F1.kp, bd⟩
    have c3 := ok_law_like (n := 2) F1 TK ⟨f, fd, c2, g, F1.kp, bd⟩
    have c4 := ok_law_like (n := 3) F1 TK ⟨f, fd, c3, g, F1.kp, bd⟩
    exact ⟨f, fd, c4, g, F1.kp, bd⟩
  have TC : ToldC K mg := toldC_mk X G D.exall (PySem.W.mg_none_of X G D.zisinstance) (PySem.W.mg_none_of X G D.zValueError)
  have c_is_row : Cal P w K mg base 3 "is_row" ["row"] spIsRowX := by
    obtain ⟨f, fd, F1, g⟩ := D.fis_row.fn X G
    exact ⟨f, fd, ok_is_rowX F1 T0 c_is_number c_is_house, g, F1.kp, F1.binds (ps := ["row"]) fun _ _ _ _ _ _ us hl => match us, hl with | [_], _ => rfl⟩
  have c_first_wrong : Cal P w K mg base 4 "first_wrong" ["rows"] spFirstWrongX := by
    obtain ⟨f, fd, F1, g⟩ := D.ffirst_wrong.fn X G
    exact ⟨f, fd, ok_first_wrongX F1 T0 c_is_row, g, F1.kp, F1.binds (ps := ["rows"]) fun _ _ _ _ _ _ us hl => match us, hl with | [_], _ => rfl⟩
  have XC : ExCal P w K mg base 0 "at" := by
    obtain ⟨C0, fI, oc, od, an, osl, kV, doc, pm, cdv, ct, a, ox, i, t, l, c1, k, n⟩ := D.ex0
    have F1 := fun_mk (st := s_BadStretches___init__) l c1 k
    have e : exC K 0 = C0 := exC_of 0 rfl a
    exact ⟨fI, _, by rw [e]; exact ox, by rw [e]; exact i, t, ok_exInit F1 TC.gD D.base, F1.binds (ps := ["self", "at"]) (fun _ _ _ _ _ _ us hl => match us, hl with | [_, _], _ => rfl), by rw [e]; exact n, TC.g 0 (by decide)⟩
  have c_check_rows : CalX P w K mg base 5 "check_rows" ["rows"] (spCheckRowsX K) := by
    obtain ⟨f, fd, F1, g⟩ := D.fcheck_rows.fn X G
    exact ⟨f, fd, ok_check_rowsX F1 XC c_first_wrong, g, F1.kp, F1.binds (ps := ["rows"]) fun _ _ _ _ _ _ us hl => match us, hl with | [_], _ => rfl⟩
  have X7 : ExMk K mg 7 := exMk_of TC (by decide) D.ex7
  obtain ⟨C, I⟩ := D.seat
  have T : TxS K mg C := ⟨⟨I.pg, I.hd, I.po, I.sa⟩, I.n_rows, I.n_term, PySem.W.mg_none_of X G D.zlist, hmax, D.first.mg X G⟩
  have gS := PySem.W.mg_of X G I.aC
  have m_holds : CalM P w K mg base C 1 "holds" ["self"] (spHolds K C) := by
    obtain ⟨f, oc, od, an, osl, kV, doc, pm, cdv, ct, a, i, l, c1, k⟩ := I.m_holds
    have F1 := fun_mk (st := s_Seat_holds) l c1 k
    exact ⟨f, _, ok_Seat_holds F1 T, ⟨a, i, k⟩, F1.binds (ps := ["self"]) fun _ _ _ _ _ _ us hl => match us, hl with | [_], _ => rfl⟩
  have m_last_term : CalM P w K mg base C 1 "last_term" ["self"] (spLastTerm K C) := by
    obtain ⟨f, oc, od, an, osl, kV, doc, pm, cdv, ct, a, i, l, c1, k⟩ := I.m_last_term
    have F1 := fun_mk (st := s_Seat_last_term) l c1 k
    exact ⟨f, _, ok_Seat_last_term F1 T, ⟨a, i, k⟩, F1.binds (ps := ["self"]) fun _ _ _ _ _ _ us hl => match us, hl with | [_], _ => rfl⟩
  have m_hold : CalMX P w K mg base C 6 "hold" ["self", "rows"] (spHold K C) := by
    obtain ⟨f, oc, od, an, osl, kV, doc, pm, cdv, ct, a, i, l, c1, k⟩ := I.m_hold
    have F1 := fun_mk (st := s_Seat_hold) l c1 k
    exact ⟨f, _, ok_Seat_hold F1 T c_check_rows c_fewest m_holds, ⟨a, i, k⟩, F1.binds (ps := ["self", "rows"]) fun _ _ _ _ _ _ us hl => match us, hl with | [_, _], _ => rfl⟩
  have m_ask : CalMX P w K mg base C 2 "ask" ["self", "term"] (spAsk K C) := by
    obtain ⟨f, oc, od, an, osl, kV, doc, pm, cdv, ct, a, i, l, c1, k⟩ := I.m_ask
    have F1 := fun_mk (st := s_Seat_ask) l c1 k
    exact ⟨f, _, ok_Seat_ask F1 T X7 m_holds, ⟨a, i, k⟩, F1.binds (ps := ["self", "term"]) fun _ _ _ _ _ _ us hl => match us, hl with | [_, _], _ => rfl⟩
  have m_keep : CalMX P w K mg base C 7 "keep" ["self", "term", "rows"] (spKeep K C) := by
    obtain ⟨f, oc, od, an, osl, kV, doc, pm, cdv, ct, a, i, l, c1, k⟩ := I.m_keep
    have F1 := fun_mk (st := s_Seat_keep) l c1 k
    exact ⟨f, _, ok_Seat_keep F1 T X7 c_check_rows m_hold, ⟨a, i, k⟩, F1.binds (ps := ["self", "term", "rows"]) fun _ _ _ _ _ _ us hl => match us, hl with | [_, _, _], _ => rfl⟩
  obtain ⟨fI, oc, od, an, osl, kV, doc, pm, cdv, ct, a, i, l, c1, k⟩ := I.m_init
  have FI := fun_mk (st := s_Seat___init__) l c1 k
  have GI := ok_Seat___init__ (P := P) (w := w) (base := base) FI T
  obtain ⟨ft, fdt, Ft, gt⟩ := D.f_law_told.fn X G
  have c__law_deed : Cal P w K mg base 10 "_law_deed" ["_law_d", "_law_seat_here", "_law_own"] (spDeed K C P_law_deed) := by
    obtain ⟨f, oc, od, an, osl, kV, doc, pm, cdv, ct, a, l, c1, k⟩ := D.f_law_deed
    have e : cdv = .ref c_law_deed := PySem.W.law_code X G ht_law_deed (PySem.W.mg_of X G a) (X _ _ l) rfl
    subst e
    exact ⟨f, _, ok_law_deed ⟨⟨oc, od, kV, doc, pm, an, ct, osl, rfl, l, c1⟩⟩ ⟨TB_law_deed.code, TB_law_deed.bm, TB_law_deed.gP⟩ T TK TC Ft gt ⟨c__law_next, c__law_rows, c__law_asked, c__law_kept, c__law_like, m_ask, m_keep, m_hold⟩, PySem.W.mg_of X G a, k,
      (fun_mk (st := s_law_deed) l c1 k).binds (ps := ["_law_d", "_law_seat_here", "_law_own"]) fun _ _ _ _ _ _ us hl => match us, hl with | [_, _, _], _ => rfl⟩
  exact ok_law F T TN (PySem.W.mg_none_of X G D.zrange) ⟨c__law_dice, c__law_next, c__law_told_rows, c__law_seat, c__law_like, c__law_deed, m_holds, m_last_term⟩ ⟨I.mks, a, i, I.kc⟩ gS GI (FI.binds (ps := ["self"]) fun _ _ _ _ _ _ us hl => match us, hl with | [_], _ => rfl)
theorem walk {l : PySem.W.OpenLaw} {q : Program} {loose : List Str} {lv : List (Str × PySem.W.WData)} {YP : World → Heap → Prop} {d : DefRec} {K : Params → PySem.W.Frag} (hn : l.most = some 63) (hdf : d.params.defaults = []) (hnm : d.name = "law")
    (hY : ∀ (w : World) (h : Heap), YP w h → (K w.params).In h) (hrec_law_deed : ((recsOf q).find? (fun e => e.name == ("_law_deed" : Str))).isSome = true) (hlv : (("LIMIT" : Str), PySem.W.WData.int LIM) ∈ lv) (D : ∀ w : World, Head (K w.params)) :
    PySem.W.WalkO q loose (PySem.W.XL q lv) YP l.row.toRowW d [] (fun f vs => PySem.call f vs) := by
  refine Att.attach_callB hn hdf fun w s₀ s₁ mg mb fa o pm cd doc a vs ns G Y ho hd hcd hmg hobj hints hlen hbits hg => ?_
  have KX := hY w _ Y
  have Dw := D w
  rw [hnm] at hmg
  obtain ⟨f, oc, od, an, osl, kV, doc', pm', cdv, ct, a1, l1, c1, k1⟩ := Dw.flaw
  have e := hmg.symm.trans (PySem.W.mg_of KX G.T.g a1)
  cases e
  have lim : ∃ t, mg "LIMIT" = some (.int LIM t) := by
    obtain ⟨v, hv, hr⟩ := G.X.2.val _ hlv
    cases hr
    exact ⟨_, hv⟩
  obtain ⟨c_law_deed, P_law_deed, t_law_deed, n_law_deed⟩ := tab_ok Dw.t_law_deed
  obtain ⟨d_law_deed, hd_law_deed⟩ := Option.isSome_iff_exists.mp hrec_law_deed
  obtain ⟨hc_law_deed, hP_law_deed⟩ := PySem.W.tab_of G.T KX hd_law_deed t_law_deed
  have one : ∀ {φ : Addr × Addr → Prop} (h_law_deed : φ (c_law_deed, P_law_deed)), ∀ p ∈ [(c_law_deed, P_law_deed)], φ p := fun h_law_deed p hp => by
    simp only [List.mem_cons, List.not_mem_nil, or_false] at hp
    rcases hp with rfl
    · exact h_law_deed
  exact LamX.law_callTs (cs := [(c_law_deed, P_law_deed)]) (k := 11) (x := "_law_script") (CX := CX0) (sp := spLaw21 (K w.params) P_law_deed) KX G.T.g G.T.b G.T.builtins G.T.nolimit hg (one hP_law_deed) (one n_law_deed) (one hc_law_deed) G.T.bmain hobj hints (Nat.le_trans hlen (by decide)) ⟨rfl, by decide, by decide⟩
    (fun base _ _ hT => all_ok Dw KX G.T.g lim (tab_conv (hT _ List.mem_cons_self)) t_law_deed (fun_mk (st := s_law) l1 c1 k1)) (fun s u => .of_eq rfl) (fun H hH hS => ⟨a, ns, rfl, hS, hH _ List.mem_cons_self, fun _ => rfl⟩) fun H e s' z => z
end Rw
open PySem PySem.W PyProof.Rows in
set_option maxRecDepth 100000 in
set_option maxHeartbeats 0 in
theorem PySem.Challenge.cw_doneranges_k21_seats_holds : PySem.Challenge.rw_doneranges_k21_seats.Holds := by
  w_on; o_law; k_head; (case hw => w_witness2)
  k_fill
  refine Rw.walk (l := PySem.Challenge.rw_doneranges_k21_seats) rfl rfl rfl (fun w h Y => PySem.W.km_in_of Y) ?rec_law_deed List.mem_cons_self ?D
  case rec_law_deed => decide +kernel
  case D =>
    intro w
    constructor
    case fis_number => refine' Rw.has_mk ?a ?l ?c ?k; (case a => k_is); (case l => k_is); (case c => k_is); (case k => k_is)
    case fis_house => refine' Rw.has_mk ?a ?l ?c ?k; (case a => k_is); (case l => k_is); (case c => k_is); (case k => k_is)
    case fchanges_of => refine' Rw.has_mk ?a ?l ?c ?k; (case a => k_is); (case l => k_is); (case c => k_is); (case k => k_is)
    case freaching => refine' Rw.has_mk ?a ?l ?c ?k; (case a => k_is); (case l => k_is); (case c => k_is); (case k => k_is)
    case ffewest => refine' Rw.has_mk ?a ?l ?c ?k; (case a => k_is); (case l => k_is); (case c => k_is); (case k => k_is)
    case f_law_dice => refine' Rw.has_mk ?a ?l ?c ?k; (case a => k_is); (case l => k_is); (case c => k_is); (case k => k_is)
    case f_law_next => refine' Rw.has_mk ?a ?l ?c ?k; (case a => k_is); (case l => k_is); (case c => k_is); (case k => k_is)
    case f_law_rows => refine' Rw.has_mk ?a ?l ?c ?k; (case a => k_is); (case l => k_is); (case c => k_is); (case k => k_is)
    case f_law_names => refine' Rw.has_mk ?a ?l ?c ?k; (case a => k_is); (case l => k_is); (case c => k_is); (case k => k_is)
    case f_law_told_rows => refine' Rw.has_mk ?a ?l ?c ?k; (case a => k_is); (case l => k_is); (case c => k_is); (case k => k_is)
    case f_law_seat => refine' Rw.has_mk ?a ?l ?c ?k; (case a => k_is); (case l => k_is); (case c => k_is); (case k => k_is)
    case f_law_asked => refine' Rw.has_mk ?a ?l ?c ?k; (case a => k_is); (case l => k_is); (case c => k_is); (case k => k_is)
    case f_law_kept => refine' Rw.has_mk ?a ?l ?c ?k; (case a => k_is); (case l => k_is); (case c => k_is); (case k => k_is)
    case f_law_like => refine' Rw.has_mk ?a ?l ?c ?k; (case a => k_is); (case l => k_is); (case c => k_is); (case k => k_is)
    case fis_row => refine' Rw.has_mk ?a ?l ?c ?k; (case a => k_is); (case l => k_is); (case c => k_is); (case k => k_is)
    case ffirst_wrong => refine' Rw.has_mk ?a ?l ?c ?k; (case a => k_is); (case l => k_is); (case c => k_is); (case k => k_is)
    case fcheck_rows => refine' Rw.has_mk ?a ?l ?c ?k; (case a => k_is); (case l => k_is); (case c => k_is); (case k => k_is)
    case f_law_told => refine' Rw.has_mk ?a ?l ?c ?k; (case a => k_is); (case l => k_is); (case c => k_is); (case k => k_is)
    case f_law_deed => refine' Rw.has_mk ?a ?l ?c ?k; (case a => k_is); (case l => k_is); (case c => k_is); (case k => k_is)
    case flaw => refine' Rw.has_mk ?a ?l ?c ?k; (case a => k_is); (case l => k_is); (case c => k_is); (case k => k_is)
    case last => refine' Rw.int_mk ?a; (case a => k_is)
    case most => refine' Rw.int_mk ?a; (case a => k_is)
    case first => refine' Rw.int_mk ?a; (case a => k_is)
    case t_law_deed => kernel_rfl
    case zisinstance => k_is
    case zint => k_is
    case zbool => k_is
    case zstr => k_is
    case ztuple => k_is
    case zlist => k_is
    case zlen => k_is
    case zenumerate => k_is
    case zsorted => k_is
    case zrange => k_is
    case zmin => k_is
    case zmax => k_is
    case zValueError => k_is
    case seat =>
      refine' Rw.seat_mk ?I
      (case I => constructor; (case aC => k_is); (case pg => k_is); (case hd => k_is); (case po => k_is); (case sa => k_is); (case mks => k_is); (case kc => k_is); (case n_rows => k_is); (case n_term => k_is); (case m_holds => refine' Rw.meth_mk ?a ?i ?l ?c ?k; (case a => k_is); (case i => k_is); (case l => k_is); (case c => k_is); (case k => k_is)); (case m_last_term => refine' Rw.meth_mk ?a ?i ?l ?c ?k; (case a => k_is); (case i => k_is); (case l => k_is); (case c => k_is); (case k => k_is)); (case m_hold => refine' Rw.meth_mk ?a ?i ?l ?c ?k; (case a => k_is); (case i => k_is); (case l => k_is); (case c => k_is); (case k => k_is)); (case m_ask => refine' Rw.meth_mk ?a ?i ?l ?c ?k; (case a => k_is); (case i => k_is); (case l => k_is); (case c => k_is); (case k => k_is)); (case m_keep => refine' Rw.meth_mk ?a ?i ?l ?c ?k; (case a => k_is); (case i => k_is); (case l => k_is); (case c => k_is); (case k => k_is)); (case m_init => refine' Rw.meth_mk ?a ?i ?l ?c ?k; (case a => k_is); (case i => k_is); (case l => k_is); (case c => k_is); (case k => k_is)))
    case ex0 => refine' Rw.ex0_mk ?a ?lc ?sa ?ec ?ty ?kc ?i ?t ?l ?c ?k ?n; (case a => k_is); (case lc => kernel_rfl); (case sa => k_is); (case ec => k_is); (case ty => k_is); (case kc => k_is); (case i => k_is); (case t => k_is); (case l => k_is); (case c => k_is); (case k => k_is); (case n => k_is)
    case ex7 => kernel_rfl
    case exall => kernel_rfl
    case base => constructor; (case rd => kernel_rfl); (case ga => kernel_rfl); (case fi => kernel_rfl)
#print axioms PySem.Challenge.cw_doneranges_k21_seats_holds
