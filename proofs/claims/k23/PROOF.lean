import PyProof.Rows.All
import Wide.All
import OpenK.AllK
import Wide.FinOn
import HandS.ForMost
import HandS.EndBits
import HandS.Walk
import HandS.Wide
import HandS.IsInst
import HandS.Conv
import HandS.SortRule
import HandS.TupSets
import KE.KDictSum
import HandS.Exc
import HandS.ExcOwn
import HandS.ExcInit
import HandS.ExcField
import HandS.ClsMeth
import HandS.Deep
import HandS.FStr
import KE.KExcIs
import HandS.Lambda
import KE.KDflt
import HandS.WordsExc
import KE.KDictWalk
import KE.KDictCopyH
import HandS.EndTab
import KE.KNest
import KE.KNestM
import PySem.Challenge.RW_doneranges_k23_whole_what_was_shown_is_n
set_option Elab.async false
set_option linter.all false
set_option maxRecDepth 100000
set_option autoImplicit false
namespace Rw
/-! rows (house, first, last), points (house, number), by the order of pairs -/
abbrev Row := Int × Int × Int
abbrev Pt := Int × Int
def lt2 (p q : Pt) : Prop := p.1 < q.1 ∨ (p.1 = q.1 ∧ p.2 < q.2)
def le2 (p q : Pt) : Prop := p.1 < q.1 ∨ (p.1 = q.1 ∧ p.2 ≤ q.2)
instance (p q : Pt) : Decidable (lt2 p q) := by unfold lt2; infer_instance
instance (p q : Pt) : Decidable (le2 p q) := by unfold le2; infer_instance
def inRow (r : Row) (p : Pt) : Prop := r.1 = p.1 ∧ r.2.1 ≤ p.2 ∧ p.2 ≤ r.2.2
instance (r : Row) (p : Pt) : Decidable (inRow r p) := by unfold inRow; infer_instance
def mem (rs : List Row) (p : Pt) : Prop := ∃ r ∈ rs, inRow r p
def before (r s : Row) : Prop := r.1 < s.1 ∨ (r.1 = s.1 ∧ r.2.2 + 1 < s.2.1)
structure Canon (rs : List Row) : Prop where
  ok : ∀ r ∈ rs, r.2.1 ≤ r.2.2
  ord : rs.Pairwise before
theorem Canon.nil : Canon [] := ⟨fun _ h => absurd h (by simp), .nil⟩
theorem Canon.tail {r : Row} {rs : List Row} (c : Canon (r :: rs)) : Canon rs :=
  ⟨fun s h => c.ok s (List.mem_cons_of_mem _ h), (List.pairwise_cons.mp c.ord).2⟩
theorem mem_cons {r : Row} {rs : List Row} {p : Pt} : mem (r :: rs) p ↔ inRow r p ∨ mem rs p := by
  unfold mem; simp
theorem mem_nil {p : Pt} : ¬ mem [] p := by unfold mem; simp
theorem mem_append {as bs : List Row} {p : Pt} : mem (as ++ bs) p ↔ mem as p ∨ mem bs p := by
  unfold mem
  constructor
  · rintro ⟨r, h, e⟩
    rcases List.mem_append.mp h with h | h
    · exact .inl ⟨r, h, e⟩
    · exact .inr ⟨r, h, e⟩
  · rintro (⟨r, h, e⟩ | ⟨r, h, e⟩)
    · exact ⟨r, List.mem_append_left _ h, e⟩
    · exact ⟨r, List.mem_append_right _ h, e⟩
/-- whatever is in a later row lies behind the first one, with a gap -/
theorem Canon.later {r : Row} {rs : List Row} (c : Canon (r :: rs)) {p : Pt} (h : mem rs p) : r.1 < p.1 ∨ (r.1 = p.1 ∧ r.2.2 + 1 < p.2) := by
  obtain ⟨s, hs, e1, e2, e3⟩ := h
  have b := (List.pairwise_cons.mp c.ord).1 s hs
  unfold before at b
  omega
theorem Canon.uniq : ∀ {xs ys : List Row}, Canon xs → Canon ys → (∀ p, mem xs p ↔ mem ys p) → xs = ys
  | [], [], _, _, _ => rfl
  | [], y :: ys, _, cy, h => by
    have o := cy.ok y List.mem_cons_self
    exact absurd ((h (y.1, y.2.1)).mpr (mem_cons.mpr (.inl ⟨rfl, Int.le_refl _, o⟩))) mem_nil
  | x :: xs, [], cx, _, h => by
    have o := cx.ok x List.mem_cons_self
    exact absurd ((h (x.1, x.2.1)).mp (mem_cons.mpr (.inl ⟨rfl, Int.le_refl _, o⟩))) mem_nil
  | x :: xs, y :: ys, cx, cy, h => by
    have ox := cx.ok x List.mem_cons_self
    have oy := cy.ok y List.mem_cons_self
    have a1 := mem_cons.mp ((h (x.1, x.2.1)).mp (mem_cons.mpr (.inl ⟨rfl, Int.le_refl _, ox⟩)))
    have a2 := mem_cons.mp ((h (y.1, y.2.1)).mpr (mem_cons.mpr (.inl ⟨rfl, Int.le_refl _, oy⟩)))
    have b1 : le2 (y.1, y.2.1) (x.1, x.2.1) := by
      unfold le2
      rcases a1 with ⟨e1, e2, e3⟩ | a1
      · simp only at e1 e2 e3 ⊢; omega
      · have z := cy.later a1; simp only at z ⊢; omega
    have b2 : le2 (x.1, x.2.1) (y.1, y.2.1) := by
      unfold le2
      rcases a2 with ⟨e1, e2, e3⟩ | a2
      · simp only at e1 e2 e3 ⊢; omega
      · have z := cx.later a2; simp only at z ⊢; omega
    unfold le2 at b1 b2
    simp only at b1 b2
    have eh : x.1 = y.1 := by omega
    have ea : x.2.1 = y.2.1 := by omega
    have c1 := mem_cons.mp ((h (x.1, x.2.2)).mp (mem_cons.mpr (.inl ⟨rfl, ox, Int.le_refl _⟩)))
    have c2 := mem_cons.mp ((h (y.1, y.2.2)).mpr (mem_cons.mpr (.inl ⟨rfl, oy, Int.le_refl _⟩)))
    have eb : x.2.2 = y.2.2 := by
      rcases Int.lt_trichotomy x.2.2 y.2.2 with z | z | z
      · -- (x.1, x.2.2 + 1) is in y, so in x's tail
        have d := mem_cons.mp ((h (x.1, x.2.2 + 1)).mpr (mem_cons.mpr (.inl ⟨eh.symm, by simp only; omega, by simp only; omega⟩)))
        rcases d with ⟨_, _, e3⟩ | d
        · simp only at e3; omega
        · have u := cx.later d; simp only at u; omega
      · exact z
      · have d := mem_cons.mp ((h (y.1, y.2.2 + 1)).mp (mem_cons.mpr (.inl ⟨eh, by simp only; omega, by simp only; omega⟩)))
        rcases d with ⟨_, _, e3⟩ | d
        · simp only at e3; omega
        · have u := cy.later d; simp only at u; omega
    have exy : x = y := by
      obtain ⟨x1, x2, x3⟩ := x
      obtain ⟨y1, y2, y3⟩ := y
      simp only at eh ea eb
      subst eh ea eb
      rfl
    subst exy
    congr 1
    refine Canon.uniq cx.tail cy.tail fun p => ?_
    constructor
    · intro m
      rcases mem_cons.mp ((h p).mp (mem_cons.mpr (.inr m))) with ⟨e1, e2, e3⟩ | d
      · have u := cx.later m; omega
      · exact d
    · intro m
      rcases mem_cons.mp ((h p).mpr (mem_cons.mpr (.inr m))) with ⟨e1, e2, e3⟩ | d
      · have u := cy.later m; omega
      · exact d
theorem Canon.snoc {rs : List Row} {r : Row} (c : Canon rs) (o : r.2.1 ≤ r.2.2) (h : ∀ s ∈ rs, before s r) : Canon (rs ++ [r]) := by
  refine ⟨fun s hs => ?_, List.pairwise_append.mpr ⟨c.ord, List.pairwise_singleton _ _, fun s hs t ht => ?_⟩⟩
  · rcases List.mem_append.mp hs with hs | hs
    · exact c.ok s hs
    · rw [List.mem_singleton.mp hs]; exact o
  · rw [List.mem_singleton.mp ht]; exact h s hs

/-! ### sums over weighted rows -/
abbrev WRow := Row × Int
def S (f : Row → Int) : List WRow → Int
  | [] => 0
  | (r, w) :: ws => w * f r + S f ws
theorem S_append (f : Row → Int) : ∀ (as bs : List WRow), S f (as ++ bs) = S f as + S f bs
  | [], bs => by simp [S]
  | (r, w) :: as, bs => by
    show w * f r + S f (as ++ bs) = w * f r + S f as + S f bs
    rw [S_append f as bs]; omega
theorem S_congr {f g : Row → Int} : ∀ {ws : List WRow}, (∀ x ∈ ws, f x.1 = g x.1) → S f ws = S g ws
  | [], _ => rfl
  | (r, w) :: ws, h => by
    show w * f r + S f ws = w * g r + S g ws
    rw [h (r, w) List.mem_cons_self, S_congr (ws := ws) fun x hx => h x (List.mem_cons_of_mem _ hx)]
theorem S_add (f g : Row → Int) : ∀ ws : List WRow, S (fun r => f r + g r) ws = S f ws + S g ws
  | [] => rfl
  | (r, w) :: ws => by
    show w * (f r + g r) + S (fun r => f r + g r) ws = (w * f r + S f ws) + (w * g r + S g ws)
    rw [S_add f g ws, Int.mul_add]; omega
theorem S_zero {f : Row → Int} : ∀ {ws : List WRow}, (∀ x ∈ ws, f x.1 = 0) → S f ws = 0
  | [], _ => rfl
  | (r, w) :: ws, h => by
    show w * f r + S f ws = 0
    rw [h (r, w) List.mem_cons_self, S_zero (ws := ws) fun x hx => h x (List.mem_cons_of_mem _ hx)]; omega
def ind (c : Prop) [Decidable c] : Int := if c then 1 else 0
theorem ind_pos {c : Prop} [Decidable c] (h : c) : ind c = 1 := if_pos h
theorem ind_neg {c : Prop} [Decidable c] (h : ¬ c) : ind c = 0 := if_neg h
theorem ind_or (c : Prop) [Decidable c] : (c ∧ ind c = 1) ∨ (¬ c ∧ ind c = 0) := by
  by_cases h : c
  · exact .inl ⟨h, ind_pos h⟩
  · exact .inr ⟨h, ind_neg h⟩
def fstP (r : Row) : Pt := (r.1, r.2.1)
def endP (r : Row) : Pt := (r.1, r.2.2 + 1)
/-- what weighs on a point -/
def cover (ws : List WRow) (p : Pt) : Int := S (fun r => ind (inRow r p)) ws
/-- the change at a point -/
def chg (ws : List WRow) (p : Pt) : Int := S (fun r => ind (fstP r = p) - ind (endP r = p)) ws
def Wok (ws : List WRow) : Prop := ∀ x ∈ ws, x.1.2.1 ≤ x.1.2.2
theorem cover_eq {ws : List WRow} (h : Wok ws) (p : Pt) : cover ws p = S (fun r => ind (le2 (fstP r) p) - ind (le2 (endP r) p)) ws := by
  refine S_congr fun x hx => ?_
  have o := h x hx
  obtain ⟨⟨rh, ra, rb⟩, w⟩ := x
  obtain ⟨ph, pn⟩ := p
  rcases ind_or (inRow (rh, ra, rb) (ph, pn)) with ⟨a, ea⟩ | ⟨a, ea⟩ <;> rcases ind_or (le2 (fstP (rh, ra, rb)) (ph, pn)) with ⟨b, eb⟩ | ⟨b, eb⟩ <;>
    rcases ind_or (le2 (endP (rh, ra, rb)) (ph, pn)) with ⟨c, ec⟩ | ⟨c, ec⟩ <;> rw [ea, eb, ec] <;> simp only [inRow, le2, fstP, endP] at a b c o <;> omega
/-- all points of change are among ks -/
def Has (ks : List Pt) (ws : List WRow) : Prop := ∀ x ∈ ws, fstP x.1 ∈ ks ∧ endP x.1 ∈ ks
/-- from a point to the next one of change -/
theorem cover_step {ws : List WRow} (o : Wok ws) {c k : Pt} (hlt : lt2 c k) (hn : ∀ x ∈ ws, (le2 (fstP x.1) c ∨ le2 k (fstP x.1)) ∧ (le2 (endP x.1) c ∨ le2 k (endP x.1))) :
    cover ws k = cover ws c + chg ws k := by
  rw [cover_eq o, cover_eq o, chg, ← S_add]
  refine S_congr fun x hx => ?_
  obtain ⟨a, b⟩ := hn x hx
  obtain ⟨⟨rh, ra, rb⟩, w⟩ := x
  obtain ⟨kh, kn⟩ := k
  obtain ⟨ch, cn⟩ := c
  simp only [lt2, le2, fstP, endP] at a b hlt
  rcases ind_or (le2 (fstP (rh, ra, rb)) (kh, kn)) with ⟨u1, e1⟩ | ⟨u1, e1⟩ <;> rcases ind_or (le2 (endP (rh, ra, rb)) (kh, kn)) with ⟨u2, e2⟩ | ⟨u2, e2⟩ <;>
    rcases ind_or (le2 (fstP (rh, ra, rb)) (ch, cn)) with ⟨u3, e3⟩ | ⟨u3, e3⟩ <;> rcases ind_or (le2 (endP (rh, ra, rb)) (ch, cn)) with ⟨u4, e4⟩ | ⟨u4, e4⟩ <;>
    rcases ind_or (fstP (rh, ra, rb) = (kh, kn)) with ⟨u5, e5⟩ | ⟨u5, e5⟩ <;> rcases ind_or (endP (rh, ra, rb) = (kh, kn)) with ⟨u6, e6⟩ | ⟨u6, e6⟩ <;>
    rw [e1, e2, e3, e4, e5, e6] <;> simp only [le2, fstP, endP, Prod.mk.injEq] at u1 u2 u3 u4 u5 u6 <;> omega
theorem cover_same {ws : List WRow} (o : Wok ws) {c p : Pt} (hle : le2 c p) (hn : ∀ x ∈ ws, (le2 (fstP x.1) c ∨ lt2 p (fstP x.1)) ∧ (le2 (endP x.1) c ∨ lt2 p (endP x.1))) :
    cover ws p = cover ws c := by
  rw [cover_eq o, cover_eq o]
  refine S_congr fun x hx => ?_
  obtain ⟨a, b⟩ := hn x hx
  obtain ⟨⟨rh, ra, rb⟩, w⟩ := x
  obtain ⟨kh, kn⟩ := p
  obtain ⟨ch, cn⟩ := c
  simp only [lt2, le2, fstP, endP] at a b hle
  rcases ind_or (le2 (fstP (rh, ra, rb)) (kh, kn)) with ⟨u1, e1⟩ | ⟨u1, e1⟩ <;> rcases ind_or (le2 (endP (rh, ra, rb)) (kh, kn)) with ⟨u2, e2⟩ | ⟨u2, e2⟩ <;>
    rcases ind_or (le2 (fstP (rh, ra, rb)) (ch, cn)) with ⟨u3, e3⟩ | ⟨u3, e3⟩ <;> rcases ind_or (le2 (endP (rh, ra, rb)) (ch, cn)) with ⟨u4, e4⟩ | ⟨u4, e4⟩ <;>
    rw [e1, e2, e3, e4] <;> simp only [le2, fstP, endP] at u1 u2 u3 u4 <;> omega
theorem cover_first {ws : List WRow} (o : Wok ws) {k : Pt} (hn : ∀ x ∈ ws, le2 k (fstP x.1) ∧ le2 k (endP x.1)) : cover ws k = chg ws k := by
  rw [cover_eq o, chg]
  refine S_congr fun x hx => ?_
  obtain ⟨a, b⟩ := hn x hx
  obtain ⟨⟨rh, ra, rb⟩, w⟩ := x
  obtain ⟨kh, kn⟩ := k
  simp only [le2, fstP, endP] at a b
  rcases ind_or (le2 (fstP (rh, ra, rb)) (kh, kn)) with ⟨u1, e1⟩ | ⟨u1, e1⟩ <;> rcases ind_or (le2 (endP (rh, ra, rb)) (kh, kn)) with ⟨u2, e2⟩ | ⟨u2, e2⟩ <;>
    rcases ind_or (fstP (rh, ra, rb) = (kh, kn)) with ⟨u5, e5⟩ | ⟨u5, e5⟩ <;> rcases ind_or (endP (rh, ra, rb) = (kh, kn)) with ⟨u6, e6⟩ | ⟨u6, e6⟩ <;>
    rw [e1, e2, e5, e6] <;> simp only [le2, fstP, endP, Prod.mk.injEq] at u1 u2 u5 u6 <;> omega
theorem cover_none {ws : List WRow} {p : Pt} (hn : ∀ x ∈ ws, ¬ inRow x.1 p) : cover ws p = 0 := S_zero fun x hx => ind_neg (hn x hx)
/-- something covers: its end lies behind, in the same house -/
theorem cover_pos {ws : List WRow} {p : Pt} (h : cover ws p ≠ 0) : ∃ x ∈ ws, inRow x.1 p := by
  by_cases e : ∃ x ∈ ws, inRow x.1 p
  · exact e
  · exact absurd (cover_none fun x hx q => e ⟨x, hx, q⟩) h

/-! ### the sweep -/
structure St where
  out : List Row
  total : Int
  start : Int
def stepM (ch : Pt → Int) (least : Int) (s : St) (k : Pt) : St :=
  if s.total < least ∧ least ≤ s.total + ch k then ⟨s.out, s.total + ch k, k.2⟩
  else if s.total + ch k < least ∧ least ≤ s.total then ⟨s.out ++ [(k.1, s.start, k.2 - 1)], s.total + ch k, s.start⟩
  else ⟨s.out, s.total + ch k, s.start⟩
/-- behind the point c of change: what is out, and what is open -/
structure At (ws : List WRow) (least : Int) (c : Pt) (s : St) : Prop where
  tot : s.total = cover ws c
  can : Canon s.out
  cl : s.total < least → (∀ r ∈ s.out, le2 (endP r) c) ∧ ∀ p, le2 p c → (mem s.out p ↔ least ≤ cover ws p)
  op : least ≤ s.total → s.start ≤ c.2 ∧ (∀ r ∈ s.out, lt2 (endP r) (c.1, s.start)) ∧ (∀ n, s.start ≤ n → n ≤ c.2 → least ≤ cover ws (c.1, n)) ∧
    ∀ p, lt2 p (c.1, s.start) → (mem s.out p ↔ least ≤ cover ws p)
theorem not_mem_of_end {rs : List Row} {c p : Pt} (h : ∀ r ∈ rs, le2 (endP r) c) (hp : le2 c p) : ¬ mem rs p := by
  rintro ⟨r, hr, e1, e2, e3⟩
  have a := h r hr
  unfold le2 endP at a
  unfold le2 at hp
  simp only at a
  omega
theorem At.step {ws : List WRow} {least : Int} (hl : 0 < least) (o : Wok ws) {c k : Pt} {s : St} (a : At ws least c s) (hlt : lt2 c k)
    (hn : ∀ x ∈ ws, (le2 (fstP x.1) c ∨ le2 k (fstP x.1)) ∧ (le2 (endP x.1) c ∨ le2 k (endP x.1))) : At ws least k (stepM (chg ws) least s k) := by
  have tk : s.total + chg ws k = cover ws k := by rw [a.tot, cover_step o hlt hn]
  have same : ∀ p, le2 c p → lt2 p k → cover ws p = cover ws c := fun p h1 h2 => by
    refine cover_same o h1 fun x hx => ?_
    obtain ⟨u, v⟩ := hn x hx
    unfold lt2 le2 at *
    exact ⟨by omega, by omega⟩
  unfold stepM
  rw [tk]
  by_cases h1 : s.total < least
  · obtain ⟨c1, c2⟩ := a.cl h1
    have hm : ∀ p, lt2 p k → (mem s.out p ↔ least ≤ cover ws p) := fun p hp => by
      by_cases hc : le2 p c
      · exact c2 p hc
      · have hc' : le2 c p := by unfold le2 at *; omega
        have nm := not_mem_of_end c1 hc'
        have e := same p hc' hp
        rw [e, ← a.tot]
        exact ⟨fun z => absurd z nm, fun z => absurd h1 (by omega)⟩
    by_cases h2 : least ≤ cover ws k
    · rw [if_pos ⟨h1, h2⟩]
      refine ⟨rfl, a.can, fun z => absurd z (by simp only; omega), fun _ => ⟨Int.le_refl _, fun r hr => ?_, fun n z1 z2 => ?_, fun p hp => hm p hp⟩⟩
      · have q := c1 r hr
        unfold le2 lt2 at *
        simp only at *
        omega
      · have : n = k.2 := by simp only at z1 z2; omega
        rw [this]; exact h2
    · rw [if_neg (fun z => h2 z.2), if_neg (fun z => absurd z.2 (by omega))]
      refine ⟨rfl, a.can, fun _ => ⟨fun r hr => ?_, fun p hp => ?_⟩, fun z => absurd z (by simp only; omega)⟩
      · have q := c1 r hr
        unfold le2 lt2 at *
        omega
      · by_cases hpk : lt2 p k
        · exact hm p hpk
        · have e : p = k := by
            obtain ⟨p1, p2⟩ := p
            obtain ⟨k1, k2⟩ := k
            unfold le2 at hp
            unfold lt2 at hpk
            simp only at hp hpk
            have e1 : p1 = k1 := by omega
            have e2 : p2 = k2 := by omega
            rw [e1, e2]
          subst e
          have hck : le2 c p := by unfold lt2 at hlt; unfold le2; omega
          exact ⟨fun z => absurd z (not_mem_of_end c1 hck), fun z => absurd z h2⟩
  · have h1' : least ≤ s.total := by omega
    obtain ⟨o1, o2, o3, o4⟩ := a.op h1'
    rw [if_neg (fun z => h1 z.1)]
    -- a row that covers c ends behind c in its house: k lies in the same house
    have hk1 : k.1 = c.1 := by
      obtain ⟨x, hx, i1, i2, i3⟩ := cover_pos (ws := ws) (p := c) (by rw [← a.tot]; omega)
      obtain ⟨_, v⟩ := hn x hx
      unfold le2 endP at v
      unfold lt2 at hlt
      simp only at v
      omega
    have hk2 : c.2 < k.2 := by unfold lt2 at hlt; omega
    have seg : ∀ n, s.start ≤ n → n < k.2 → least ≤ cover ws (c.1, n) := fun n z1 z2 => by
      by_cases hc : n ≤ c.2
      · exact o3 n z1 hc
      · rw [same (c.1, n) (.inr ⟨rfl, by simp only; omega⟩) (.inr ⟨hk1.symm, z2⟩), ← a.tot]
        exact h1'
    by_cases h2 : cover ws k < least
    · rw [if_pos ⟨h2, h1'⟩]
      refine ⟨rfl, a.can.snoc (by simp only; omega) fun r hr => ?_, fun _ => ⟨fun r hr => ?_, fun p hp => ?_⟩, fun z => absurd z (show ¬ least ≤ cover ws k by omega)⟩
      · have q := o2 r hr
        unfold lt2 endP at q
        unfold before
        simp only at q ⊢
        omega
      · rcases List.mem_append.mp hr with hr | hr
        · have q := o2 r hr
          unfold lt2 at q
          unfold le2
          simp only at q ⊢
          omega
        · rw [List.mem_singleton.mp hr]
          exact .inr ⟨rfl, show k.2 - 1 + 1 ≤ k.2 by omega⟩
      · rw [mem_append]
        by_cases hb : lt2 p (c.1, s.start)
        · rw [← o4 p hb]
          constructor
          · rintro (z | ⟨r, hr, i1, i2, i3⟩)
            · exact z
            · rw [List.mem_singleton.mp hr] at i1 i2 i3
              unfold lt2 at hb
              simp only at i1 i2 i3 hb
              omega
          · exact .inl
        · by_cases hpk : lt2 p k
          · have e : p.1 = c.1 := by
              unfold lt2 at hb hpk
              simp only at hb
              omega
            have z1 : s.start ≤ p.2 := by
              unfold lt2 at hb
              simp only at hb
              omega
            have z2 : p.2 < k.2 := by
              unfold lt2 at hpk
              omega
            have q := seg p.2 z1 z2
            rw [← e] at q
            refine ⟨fun _ => q, fun _ => .inr ⟨_, List.mem_singleton.mpr rfl, ?_, ?_, ?_⟩⟩
            · simp only; omega
            · exact z1
            · simp only; omega
          · have e : p = k := by
              obtain ⟨p1, p2⟩ := p
              obtain ⟨k1, k2⟩ := k
              unfold le2 at hp
              unfold lt2 at hpk
              simp only at hp hpk
              have e1 : p1 = k1 := by omega
              have e2 : p2 = k2 := by omega
              rw [e1, e2]
            subst e
            refine ⟨fun z => ?_, fun z => absurd z (by omega)⟩
            exfalso
            rcases z with ⟨r, hr, i1, i2, i3⟩ | ⟨r, hr, i1, i2, i3⟩
            · have q := o2 r hr
              unfold lt2 endP at q
              simp only at q
              omega
            · rw [List.mem_singleton.mp hr] at i1 i2 i3
              simp only at i1 i2 i3
              omega
    · rw [if_neg (fun z => h2 z.1)]
      refine ⟨rfl, a.can, fun z => absurd z (by simp only; omega), fun _ => ⟨by simp only; omega, ?_, fun n z1 z2 => ?_, ?_⟩⟩
      · rw [hk1]; exact o2
      · rw [hk1]
        by_cases hn2 : n < k.2
        · exact seg n z1 hn2
        · have : n = k.2 := by omega
          rw [this, ← hk1]
          show least ≤ cover ws k
          omega
      · rw [hk1]; exact o4
/-- the first point -/
theorem At.start {ws : List WRow} {least : Int} (hl : 0 < least) (o : Wok ws) {k : Pt} (z : Int) (hn : ∀ x ∈ ws, le2 k (fstP x.1) ∧ le2 k (endP x.1)) :
    At ws least k (stepM (chg ws) least ⟨[], 0, z⟩ k) := by
  have tk : (0 : Int) + chg ws k = cover ws k := by rw [cover_first o hn]; omega
  have zero : ∀ p, lt2 p k → cover ws p = 0 := fun p hp => cover_none fun x hx ⟨i1, i2, i3⟩ => by
    obtain ⟨u, _⟩ := hn x hx
    unfold le2 fstP at u
    unfold lt2 at hp
    simp only at u
    omega
  unfold stepM
  simp only
  rw [tk]
  by_cases h2 : least ≤ cover ws k
  · rw [if_pos ⟨hl, h2⟩]
    refine ⟨rfl, .nil, fun z => absurd z (by simp only; omega), fun _ => ⟨Int.le_refl _, fun r hr => absurd hr (by simp), fun n z1 z2 => ?_, fun p hp => ?_⟩⟩
    · have : n = k.2 := by simp only at z1 z2; omega
      rw [this]; exact h2
    · rw [zero p hp]
      exact ⟨fun z => absurd z mem_nil, fun z => absurd z (by omega)⟩
  · rw [if_neg (fun z => h2 z.2), if_neg (fun z => absurd z.2 (by omega))]
    refine ⟨rfl, .nil, fun _ => ⟨fun r hr => absurd hr (by simp), fun p hp => ?_⟩, fun z => absurd z (by simp only; omega)⟩
    by_cases hpk : lt2 p k
    · rw [zero p hpk]
      exact ⟨fun z => absurd z mem_nil, fun z => absurd z (by omega)⟩
    · have e : p = k := by
        obtain ⟨p1, p2⟩ := p
        obtain ⟨k1, k2⟩ := k
        unfold le2 at hp
        unfold lt2 at hpk
        simp only at hp hpk
        have e1 : p1 = k1 := by omega
        have e2 : p2 = k2 := by omega
        rw [e1, e2]
      subst e
      exact ⟨fun z => absurd z mem_nil, fun z => absurd z h2⟩
theorem le2_of_not {p q : Pt} (h : ¬ lt2 p q) : le2 q p := by unfold lt2 at h; unfold le2; omega
theorem At.done {ws : List WRow} {least : Int} (hl : 0 < least) (o : Wok ws) {c : Pt} {s : St} (a : At ws least c s) (hn : ∀ x ∈ ws, le2 (fstP x.1) c ∧ le2 (endP x.1) c) :
    Canon s.out ∧ ∀ p, mem s.out p ↔ least ≤ cover ws p := by
  have far : ∀ p, le2 c p → cover ws p = 0 := fun p hp => cover_none fun x hx ⟨i1, i2, i3⟩ => by
    obtain ⟨_, v⟩ := hn x hx
    unfold le2 endP at v
    unfold le2 at hp
    simp only at v
    omega
  have ht : s.total < least := by
    rw [a.tot, far c (by unfold le2; omega)]; exact hl
  obtain ⟨c1, c2⟩ := a.cl ht
  refine ⟨a.can, fun p => ?_⟩
  by_cases hp : le2 p c
  · exact c2 p hp
  · have hp' : le2 c p := by unfold le2 at *; omega
    rw [far p hp']
    exact ⟨fun z => absurd z (not_mem_of_end c1 hp'), fun z => absurd z (by omega)⟩
theorem sweep_from {ws : List WRow} {least : Int} (hl : 0 < least) (o : Wok ws) : ∀ (ks : List Pt) (c : Pt) (s : St), At ws least c s → (c :: ks).Pairwise lt2 →
    (∀ x ∈ ws, (le2 (fstP x.1) c ∨ fstP x.1 ∈ ks) ∧ (le2 (endP x.1) c ∨ endP x.1 ∈ ks)) →
    Canon (ks.foldl (stepM (chg ws) least) s).out ∧ ∀ p, mem (ks.foldl (stepM (chg ws) least) s).out p ↔ least ≤ cover ws p
  | [], c, s, a, _, h => a.done hl o fun x hx => by
    obtain ⟨u, v⟩ := h x hx
    exact ⟨u.resolve_right (by simp), v.resolve_right (by simp)⟩
  | k :: ks, c, s, a, hp, h => by
    have h1 := (List.pairwise_cons.mp hp).1 k List.mem_cons_self
    have h2 := (List.pairwise_cons.mp hp).2
    have h3 := (List.pairwise_cons.mp h2).1
    have key : ∀ q : Pt, (le2 q c ∨ q ∈ k :: ks) → (le2 q c ∨ le2 k q) := fun q z => by
      rcases z with z | z
      · exact .inl z
      · rcases List.mem_cons.mp z with e | z
        · subst e; exact .inr (by unfold le2; omega)
        · have w := h3 q z
          exact .inr (by unfold lt2 at w; unfold le2; omega)
    refine sweep_from hl o ks k _ (a.step hl o h1 fun x hx => ⟨key _ (h x hx).1, key _ (h x hx).2⟩) h2 fun x hx => ?_
    have key2 : ∀ q : Pt, (le2 q c ∨ q ∈ k :: ks) → (le2 q k ∨ q ∈ ks) := fun q z => by
      rcases z with z | z
      · exact .inl (by unfold lt2 at h1; unfold le2 at *; omega)
      · rcases List.mem_cons.mp z with e | z
        · subst e; exact .inl (by unfold le2; omega)
        · exact .inr z
    exact ⟨key2 _ (h x hx).1, key2 _ (h x hx).2⟩
/-- THE SWEEP: the fewest rows of what weighs least or more -/
theorem sweep {ws : List WRow} {least : Int} (hl : 0 < least) (o : Wok ws) {ks : List Pt} (hp : ks.Pairwise lt2) (h : Has ks ws) (z : Int) :
    Canon (ks.foldl (stepM (chg ws) least) ⟨[], 0, z⟩).out ∧ ∀ p, mem (ks.foldl (stepM (chg ws) least) ⟨[], 0, z⟩).out p ↔ least ≤ cover ws p := by
  cases ks with
  | nil =>
    have e : ws = [] := by
      cases ws with
      | nil => rfl
      | cons x xs => exact absurd (h x List.mem_cons_self).1 (by simp)
    subst e
    refine ⟨.nil, fun p => ⟨fun z => absurd z mem_nil, fun z => absurd z ?_⟩⟩
    show ¬ least ≤ 0
    omega
  | cons k ks =>
    have h3 := (List.pairwise_cons.mp hp).1
    have key : ∀ q : Pt, q ∈ k :: ks → le2 k q := fun q z => by
      rcases List.mem_cons.mp z with e | z
      · subst e; unfold le2; omega
      · have w := h3 q z
        unfold lt2 at w; unfold le2; omega
    refine sweep_from hl o ks k _ (At.start hl o z fun x hx => ⟨key _ (h x hx).1, key _ (h x hx).2⟩) hp fun x hx => ?_
    have key2 : ∀ q : Pt, q ∈ k :: ks → (le2 q k ∨ q ∈ ks) := fun q z => by
      rcases List.mem_cons.mp z with e | z
      · subst e; exact .inl (by unfold le2; omega)
      · exact .inr z
    exact ⟨key2 _ (h x hx).1, key2 _ (h x hx).2⟩
end Rw
namespace Rw
open PySem L2
/-! ### kinds of data that never change -/
structure Kd (α : Type) where
  is : Hp → V → α → Prop
  mono : ∀ {F F' : Hp} {v : V} {x : α}, Same F F' → is F v x → is F' v x
def kInt : Kd Int := ⟨fun _ v x => v = .int x, fun _ h => h⟩
def kRow : Kd Row := ⟨fun F v r => ∃ t, v = .ref t ∧ F t = some (.tup [.int r.1, .int r.2.1, .int r.2.2]), fun s ⟨t, e, h⟩ => ⟨t, e, s _ _ h⟩⟩
def kPt : Kd Pt := ⟨fun F v p => ∃ t, v = .ref t ∧ F t = some (.tup [.int p.1, .int p.2]), fun s ⟨t, e, h⟩ => ⟨t, e, s _ _ h⟩⟩
def kW : Kd WRow := ⟨fun F v x => ∃ t u, v = .ref t ∧ F t = some (.tup [u, .int x.2]) ∧ kRow.is F u x.1, fun s ⟨t, u, e, h, k⟩ => ⟨t, u, e, s _ _ h, kRow.mono s k⟩⟩
theorem pr_mono {α : Type} {R S : V → α → Prop} (h : ∀ v x, R v x → S v x) : ∀ {vs : List V} {xs : List α}, Paired R vs xs → Paired S vs xs
  | _, _, .nil => .nil
  | _, _, .cons r t => .cons (h _ _ r) (pr_mono h t)
theorem pr_len {α : Type} {R : V → α → Prop} : ∀ {vs : List V} {xs : List α}, Paired R vs xs → vs.length = xs.length
  | _, _, .nil => rfl
  | _, _, .cons _ t => by rw [List.length_cons, List.length_cons, pr_len t]
theorem pr_get {α : Type} {R : V → α → Prop} : ∀ {vs : List V} {xs : List α} {i : Nat} {v : V}, Paired R vs xs → vs[i]? = some v → ∃ x, xs[i]? = some x ∧ R v x
  | _, _, _, _, .nil, e => by simp at e
  | _, _, 0, _, .cons r _, e => by simp at e; subst e; exact ⟨_, rfl, r⟩
  | _, _, i + 1, v, .cons _ t, e => by
    obtain ⟨x, h1, h2⟩ := pr_get (i := i) (v := v) t (by simpa using e)
    exact ⟨x, by simpa using h1, h2⟩
theorem pr_get' {α : Type} {R : V → α → Prop} : ∀ {vs : List V} {xs : List α} {i : Nat} {x : α}, Paired R vs xs → xs[i]? = some x → ∃ v, vs[i]? = some v ∧ R v x
  | _, _, _, _, .nil, e => by simp at e
  | _, _, 0, _, .cons r _, e => by simp at e; subst e; exact ⟨_, rfl, r⟩
  | _, _, i + 1, v, .cons _ t, e => by
    obtain ⟨x, h1, h2⟩ := pr_get' (i := i) t (by simpa using e)
    exact ⟨x, by simpa using h1, h2⟩
theorem pr_append {α : Type} {R : V → α → Prop} : ∀ {vs us : List V} {xs ys : List α}, Paired R vs xs → Paired R us ys → Paired R (vs ++ us) (xs ++ ys)
  | _, _, _, _, .nil, s => s
  | _, _, _, _, .cons r t, s => .cons r (pr_append t s)
theorem pr_snoc {α : Type} {R : V → α → Prop} {vs : List V} {xs : List α} {v : V} {x : α} (h : Paired R vs xs) (r : R v x) : Paired R (vs ++ [v]) (xs ++ [x]) := pr_append h (.cons r .nil)
theorem pr_take {α : Type} {R : V → α → Prop} : ∀ {vs : List V} {xs : List α} (n : Nat), Paired R vs xs → Paired R (vs.take n) (xs.take n)
  | _, _, 0, _ => .nil
  | _, _, _ + 1, .nil => .nil
  | _, _, n + 1, .cons r t => .cons r (pr_take n t)
theorem pr_drop {α : Type} {R : V → α → Prop} : ∀ {vs : List V} {xs : List α} (n : Nat), Paired R vs xs → Paired R (vs.drop n) (xs.drop n)
  | _, _, 0, r => r
  | _, _, _ + 1, .nil => .nil
  | _, _, n + 1, .cons _ t => pr_drop n t
theorem pr_map {α β : Type} {R : V → α → Prop} {S : V → β → Prop} {f : α → β} (h : ∀ v x, R v x → S v (f x)) : ∀ {vs : List V} {xs : List α}, Paired R vs xs → Paired S vs (xs.map f)
  | _, _, .nil => .nil
  | _, _, .cons r t => .cons (h _ _ r) (pr_map h t)
theorem pr_mem {α : Type} {R : V → α → Prop} {v : V} : ∀ {vs : List V} {xs : List α}, Paired R vs xs → v ∈ vs → ∃ x ∈ xs, R v x
  | _, _, .nil, h => by simp at h
  | _, _, .cons r t, h => by
    rcases List.mem_cons.mp h with e | h
    · subst e; exact ⟨_, List.mem_cons_self, r⟩
    · obtain ⟨x, hx, rx⟩ := pr_mem t h; exact ⟨x, List.mem_cons_of_mem _ hx, rx⟩
/-- lists of data -/
def kL {α : Type} (k : Kd α) : Kd (List α) := ⟨fun F v xs => ∃ a vs, v = .ref a ∧ F a = some (.lst vs) ∧ Paired (k.is F) vs xs, fun s ⟨a, vs, e, h, p⟩ => ⟨a, vs, e, s _ _ h, pr_mono (fun _ _ r => k.mono s r) p⟩⟩
/-! ### frames: F the part that never changes, H the whole; M the places that the step may change -/
structure Ext (M : Addr → Prop) (F H F' H' : Hp) : Prop where
  ff : Same F F'
  fh : Same F' H'
  hh : ∀ b o, H b = some o → ¬ M b → H' b = some o
  tr : ∀ b, H b ≠ none → H' b ≠ none
  new : ∀ b, H b ≠ none → F' b = F b
abbrev M0 : Addr → Prop := fun _ => False
section
variable {M M' : Addr → Prop} {F H F' H' F'' H'' : Hp} {p : Addr} {o : HO}
theorem Ext.refl (s : Same F H) : Ext M F H F H := ⟨Same.refl F, s, fun _ _ h _ => h, fun _ h => h, fun _ _ => rfl⟩
theorem Ext.trans (a : Ext M F H F' H') (b : Ext M F' H' F'' H'') : Ext M F H F'' H'' :=
  ⟨a.ff.trans b.ff, b.fh, fun c u h m => b.hh c u (a.hh c u h m) m, fun c h => b.tr c (a.tr c h), fun c h => (b.new c (a.tr c h)).trans (a.new c h)⟩
theorem Ext.mono (a : Ext M F H F' H') (h : ∀ b, M b → M' b) : Ext M' F H F' H' := ⟨a.ff, a.fh, fun c u e m => a.hh c u e fun z => m (h c z), a.tr, a.new⟩
theorem Ext.up (a : Ext M0 F H F' H') : Ext M F H F' H' := a.mono fun _ z => z.elim
theorem Ext.same (a : Ext M0 F H F' H') : Same H H' := fun b o h => a.hh b o h fun z => z
theorem Ext.free (a : Ext M F H F' H') (h : H' p = none) : H p = none := by
  cases q : H p with
  | none => rfl
  | some u => exact absurd h (a.tr p (by rw [q]; simp))
theorem Ext.ffree (a : Ext M F H F' H') (h : H' p = none) : F' p = none := a.fh.free h
/-- a new thing that never changes -/
theorem Ext.lay (a : Ext M F H F' H') (h : H' p = none) : Ext M F H (upd F' p o) (upd H' p o) := by
  have fp := a.ffree h
  have hp := a.free h
  refine ⟨fun b u e => ?_, fun b u e => ?_, fun b u e m => ?_, fun b e => ?_, fun b e => ?_⟩
  · rw [upd_ne (ne_of_none (a.ff b u e) fp)]; exact a.ff b u e
  · by_cases hb : b = p
    · subst hb; rw [upd_same] at e ⊢; exact e
    · rw [upd_ne hb] at e ⊢; exact a.fh b u e
  · rw [upd_ne (ne_of_none (a.hh b u e m) h)]; exact a.hh b u e m
  · by_cases hb : b = p
    · subst hb; exact absurd hp e
    · rw [upd_ne hb]; exact a.tr b e
  · by_cases hb : b = p
    · subst hb; exact absurd hp e
    · rw [upd_ne hb]; exact a.new b e
/-- a new thing outside of F, or a change of one -/
theorem Ext.put (a : Ext M F H F' H') (h : H p = none ∨ M p) (f : F' p = none) : Ext M F H F' (upd H' p o) := by
  refine ⟨a.ff, fun b u e => ?_, fun b u e m => ?_, fun b e => ?_, a.new⟩
  · rw [upd_ne (ne_of_none e f)]; exact a.fh b u e
  · have hb : b ≠ p := fun z => by
      subst z
      rcases h with h | h
      · rw [h] at e; cases e
      · exact m h
    rw [upd_ne hb]; exact a.hh b u e m
  · by_cases hb : b = p
    · subst hb; rw [upd_same]; simp
    · rw [upd_ne hb]; exact a.tr b e
theorem Ext.tmp (a : Ext M F H F' H') (h : H' p = none) : Ext M F H F' (upd H' p o) := a.put (.inl (a.free h)) (a.ffree h)
/-- what was made within, from now on never changes -/
theorem Ext.frz (a : Ext M F H F' H') (h : H p = none) (f : F' p = none) (e : H' p = some o) : Ext M F H (upd F' p o) H' := by
  refine ⟨fun b u z => ?_, fun b u z => ?_, a.hh, a.tr, fun b z => ?_⟩
  · rw [upd_ne (ne_of_none (a.ff b u z) f)]; exact a.ff b u z
  · by_cases hb : b = p
    · subst hb; rw [upd_same] at z; cases z; exact e
    · rw [upd_ne hb] at z; exact a.fh b u z
  · have hb : b ≠ p := fun q => by subst q; exact z h
    rw [upd_ne hb]; exact a.new b z
end
theorem same_upd {H : Hp} {p : Addr} {o : HO} (h : H p = none) : Same H (upd H p o) := fun b x e => by
  rw [upd_ne (ne_of_none e h)]
  exact e
/-- a promise: a new list of such data, of which φ holds; the list itself may be changed behind -/
def RetL {α : Type} (M : Addr → Prop) (F H : Hp) (k : Kd α) (φ : List α → Prop) (Q : VK) : Prop :=
  ∀ (F' H' : Hp) (a : Addr) (vs : List V) (xs : List α), Ext M F H F' H' → H a = none → F' a = none → H' a = some (.lst vs) → Paired (k.is F') vs xs → φ xs → Q (.ref a) H'
/-- a promise: this value, nothing changed -/
def RetV (F H : Hp) (v : V) (Q : VK) : Prop := ∀ (F' H' : Hp), Ext M0 F H F' H' → Q v H'
theorem kL_new {α : Type} {k : Kd α} {F' : Hp} {a : Addr} {vs : List V} {xs : List α} (f : F' a = none) (h : Paired (k.is F') vs xs) : (kL k).is (upd F' a (.lst vs)) (.ref a) xs :=
  ⟨a, vs, rfl, upd_same, pr_mono (fun _ _ r => k.mono (same_upd f) r) h⟩
/-! ### as data of the library -/
def dRow (r : Row) : PyData := .tuple [.int r.1, .int r.2.1, .int r.2.2]
def dPt (p : Pt) : PyData := .tuple [.int p.1, .int p.2]
structure Kd.Enc {α : Type} (k : Kd α) (d : α → PyData) : Prop where
  dp : ∀ {K : PySem.W.Frag} {F H : Hp} {v : V} {x : α}, Same F H → k.is F v x → Dp K H v (d x)
theorem dpInts {K : PySem.W.Frag} {H : Hp} : ∀ ns : List Int, DpAll K H (ns.map V.int) (ns.map PyData.int)
  | [] => .nil
  | n :: ns => .cons (.int n) (dpInts ns)
theorem enc_row : kRow.Enc dRow := ⟨fun s ⟨t, e, h⟩ => by subst e; exact .tup (SqT.of (s _ _ h)) (dpInts [_, _, _])⟩
theorem enc_pt : kPt.Enc dPt := ⟨fun s ⟨t, e, h⟩ => by subst e; exact .tup (SqT.of (s _ _ h)) (dpInts [_, _])⟩
theorem dpAll {α : Type} {k : Kd α} {d : α → PyData} (E : k.Enc d) {K : PySem.W.Frag} {F H : Hp} (s : Same F H) : ∀ {vs : List V} {xs : List α}, Paired (k.is F) vs xs → DpAll K H vs (xs.map d)
  | _, _, .nil => .nil
  | _, _, .cons r t => .cons (E.dp s r) (dpAll E s t)
def dL {α : Type} (d : α → PyData) (xs : List α) : PyData := .list (xs.map d)
theorem enc_L {α : Type} {k : Kd α} {d : α → PyData} (E : k.Enc d) : (kL k).Enc (dL d) := ⟨fun s ⟨a, vs, e, h, p⟩ => by subst e; exact .lst (SqL.of (s _ _ h)) (dpAll E s p)⟩
end Rw
namespace Rw
open PySem PySem.Spec PyProof.Rows L2
/-! ### sorted(d) of a dict whose keys are pairs of ints, any length -/
section
variable {prog : Program} {w : World} {A : Around} {E : Value → Shared → Prop} {s : Shared} {T : String} {r d : Addr} {n : Nat} {P : Nat → Value → Prop} {OK : Heap → Prop}
theorem sorted_src {vs : List Value} {k : Value → Int × Int} {Q : Value → Shared → Prop} (K : PySem.W.KdlSrc prog w T r d n P OK) (hh : A.handled = none) (hok : OK s.heap) (hn : n ≤ sizeLine)
    (hv : ∀ acc, ItemsOf P acc n → acc.toList = vs) (hp : ∀ v ∈ vs, Srt.IsPair s.heap v (k v).1 (k v).2)
    (h : ∀ (h1 h' : Heap) (tk : Nat) (e : Addr) (out : List Value), SrtO.Srtd (fun v u => SrtO.lexB (k v) (k u)) out → SrtO.Stb (fun v u => SrtO.lexB (k v) (k u)) out vs → (∀ b o, s.heap.get? b = some o → h1.get? b = some o) → (∀ b o, h1.get? b = some o → h'.get? b = some o) → h1.objs.size ≤ e →
      (∃ n, h'.get? e = some (seqObj "list" out.toArray n)) → Q (.ref e) { s with heap := h', toks := tk }) :
    wpAny (model prog w) A (call (.builtin "sorted") [.ref r]) Q E s := by
  refine Calls.call_function_entry kind_sorted plain_sorted entry_sorted (args_sorted1 _) ?_
  unfold Builtin.«sorted»
  refine wpAny_bind (m := checkCount "sorted" 1 1 _) (wpAny_pure ?_)
  refine wpAny_bind (PySem.W.kdu_collect (A := A.in1) K hh hok hn fun h' tk acc hk hacc => ?_)
  have e := hv acc hacc
  have hz : vs.length ≤ sizeLine := by rw [← e, Array.length_toList, hacc.1]; exact hn
  rw [e]
  refine wpAny_bind (wpAny_newList ?_ hz)
  have hoL : (h'.push (seqObj "list" vs.toArray 0)).get? h'.objs.size = some (seqObj "list" vs.toArray 0) := Heap.get?_push_size _ rfl
  have keep : ∀ b o, s.heap.get? b = some o → b ≠ h'.objs.size ∧ (h'.push (seqObj "list" vs.toArray 0)).get? b = some o := fun b o q =>
    ⟨Nat.ne_of_lt (Heap.lt_size (hk b o q)), Heap.get?_push_of_some _ (hk b o q)⟩
  show wpAny _ _ _ _ _ { s with heap := h'.push (seqObj "list" vs.toArray 0), toks := tk }
  refine wpAny_bind (wpAny_holding (wpAny_call_entry slot_list_sort ⟨_, hoL, rfl⟩ entry_list_sort
    (SrtO.list_sort_ord (s := { s with heap := h'.push (seqObj "list" vs.toArray 0), toks := tk }) (SrtO.swo_lex k) hoL hz (fun h2 => ?_) fun out hs hb => ⟨_, rfl, ?_⟩) (args_list_sort _)))
  · refine SrtO.pairs_sortableO (s := { s with heap := h'.push (seqObj "list" vs.toArray 0), toks := tk }) (by omega) (fun v hm => (hp v hm).keeps fun b o e _ => (keep b o e).2) fun o e' => ?_
    have e2 : some o = some (seqObj "list" vs.toArray 0) := e'.symm.trans hoL
    cases e2
    intro c
    exact absurd (Value.type.inj c) (by decide)
  · refine wpAny_pure ⟨_, rfl, h h' _ tk h'.objs.size out hs hb hk (fun b o q => ?_) (Nat.le_refl _) (sortedHeap_at hoL)⟩
    have hb : b < h'.objs.size := Heap.lt_size q
    rw [sortedHeap_old (Nat.ne_of_lt hb) (by rw [size_push']; exact Nat.lt_succ_of_lt hb)]
    exact Heap.get?_push_of_some _ q
end
/-- the key of a point -/
def kk (p : Pt) : List Key := [.inl p.1, .inl p.2]
theorem kk_inj {p q : Pt} (h : kk p = kk q) : p = q := by
  unfold kk at h
  have h1 := List.cons.inj h
  have h2 := List.cons.inj h1.2
  obtain ⟨p1, p2⟩ := p
  obtain ⟨q1, q2⟩ := q
  have e1 : p1 = q1 := Sum.inl.inj h1.1
  have e2 : p2 = q2 := Sum.inl.inj h2.1
  rw [e1, e2]
section
variable {X : Cx}
/-- the pair of ints that a value is, by the abstract heap -/
noncomputable def ptOf (H : Hp) (v : V) : Pt := open Classical in if h : ∃ p : Pt, kPt.is H v p then h.choose else (0, 0)
theorem kPt_inj {H : Hp} {v : V} {p q : Pt} (a : kPt.is H v p) (b : kPt.is H v q) : p = q := by
  obtain ⟨t, e, h⟩ := a
  obtain ⟨u, e', h'⟩ := b
  subst e
  cases e'
  rw [h] at h'
  have z := HO.tup.inj (Option.some.inj h')
  have z1 := List.cons.inj z
  have z2 := List.cons.inj z1.2
  obtain ⟨p1, p2⟩ := p
  obtain ⟨q1, q2⟩ := q
  have e1 : p1 = q1 := V.int.inj z1.1
  have e2 : p2 = q2 := V.int.inj z2.1
  rw [e1, e2]
theorem ptOf_eq {H : Hp} {v : V} {p : Pt} (h : kPt.is H v p) : ptOf H v = p := by
  have e : ∃ p : Pt, kPt.is H v p := ⟨p, h⟩
  unfold ptOf
  rw [dif_pos e]
  exact kPt_inj e.choose_spec h
theorem isPair_of {pins : List (Addr × Obj)} {σ : L2.St} {H : Hp} {s : Shared} (I : Inv X pins σ H s) {t : Addr} {p : Pt} (h : kPt.is H (.ref t) p) : Srt.IsPair s.heap (.ref t) p.1 p.2 := by
  obtain ⟨u, e, ht⟩ := h
  cases e
  obtain ⟨_, its2, r2, o, ho, hc, n, hd⟩ := I.hok _ _ ht
  obtain ⟨u1, u2, rfl, ri, rj⟩ := vals2 r2
  obtain ⟨t1, rfl⟩ := ri
  obtain ⟨t2, rfl⟩ := rj
  exact ⟨_, o, t1, t2, n, rfl, ho, hc, hd⟩
theorem keys_pts {H : Hp} : ∀ {kvs : List (List Key × V)} {bs : List Addr} {ps : List Pt}, IsKeys H kvs bs → kvs.map (·.1) = ps.map kk → Paired (kPt.is H) (bs.map V.ref) ps
  | [], _, [], .nil, _ => .nil
  | [], _, _ :: _, .nil, e => by simp at e
  | _ :: _, _, [], _, e => by simp at e
  | kv :: kvs, _, p :: ps, .cons (b := b) r t, e => by
    have e1 := List.cons.inj e
    refine .cons ⟨b, rfl, ?_⟩ (keys_pts t e1.2)
    have : kv.1 = kk p := e1.1
    rw [this] at r
    exact r
theorem pr_perm {α : Type} {R : V → α → Prop} {f : V → α} (hf : ∀ v x, R v x → f v = x) : ∀ {vs : List V} {xs : List α}, Paired R vs xs → xs = vs.map f
  | _, _, .nil => rfl
  | _, _, .cons r t => by rw [List.map_cons, ← pr_perm hf t, hf _ _ r]
theorem pr_of_all {α : Type} {R : V → α → Prop} {f : V → α} : ∀ {vs : List V}, (∀ v ∈ vs, R v (f v)) → Paired R vs (vs.map f)
  | [], _ => .nil
  | v :: vs, h => .cons (h v List.mem_cons_self) (pr_of_all fun u hu => h u (List.mem_cons_of_mem _ hu))
/-- what behind a sort of pairs stands: the points, in order -/
theorem sorted_pts {H : Hp} {vs ys : List V} {ps : List Pt} (h : Paired (kPt.is H) vs ps) (nd : ps.Nodup) (hs : SrtO.Srtd (ltP (ptOf H)) ys) (hb : SrtO.Stb (ltP (ptOf H)) ys vs) :
    ∃ qs : List Pt, Paired (kPt.is H) ys qs ∧ qs.Perm ps ∧ qs.Pairwise lt2 := by
  have e : ps = vs.map (ptOf H) := pr_perm (fun v x r => ptOf_eq r) h
  have all : ∀ v ∈ ys, kPt.is H v (ptOf H v) := fun v hv => by
    obtain ⟨x, _, r⟩ := pr_mem h (hb.perm.mem_iff.mp hv)
    rw [ptOf_eq r]
    exact r
  have perm : (ys.map (ptOf H)).Perm ps := by rw [e]; exact hb.perm.map _
  refine ⟨ys.map (ptOf H), pr_of_all all, perm, ?_⟩
  have nd' : (ys.map (ptOf H)).Nodup := perm.nodup_iff.mpr nd
  rw [List.pairwise_map]
  have nd2 : ys.Pairwise fun a b => ptOf H a ≠ ptOf H b := List.pairwise_map.mp nd'
  refine (List.Pairwise.and hs nd2).imp fun {a b} z => ?_
  have a1 := SrtO.lexB_no.mp z.1
  have a2 := z.2
  unfold lt2
  have a3 : ¬ ((ptOf H a).1 = (ptOf H b).1 ∧ (ptOf H a).2 = (ptOf H b).2) := fun q => a2 (Prod.ext q.1 q.2)
  omega
def rSortedDT : List V → Hp → VK → Prop := fun vs H Q => ∃ (d : Addr) (kvs : List (List Key × V)) (ps : List Pt), vs = [V.ref d] ∧ H d = some (.dT kvs) ∧ kvs.map (·.1) = ps.map kk ∧ ps.Nodup ∧
  ∀ (ys : List V) (qs : List Pt) (p : Addr), Paired (kPt.is H) ys qs → qs.Perm ps → qs.Pairwise lt2 → H p = none → Q (.ref p) (upd H p (.lst ys))
theorem cr_sortedDT (hc : X.calm = true) : CallR X (.builtin "sorted") rSortedDT := by
  intro pins s σ H xs us Q I r h
  obtain ⟨d, kvs, ps, rfl, hd, hps, hnd, q⟩ := h
  obtain ⟨u, rfl, rx⟩ := r.one
  cases rx
  obtain ⟨z, hs, ks, pr, o, es, ep, ho, hx, hdt, he, hn⟩ := (show ObjOk X.prog X.w H s.heap d (.dT kvs) from I.hok d _ hd)
  have l1 : es.size = ks.length := size_of_entries he
  have l2 : kvs.length = ks.length := Paired.length pr
  have hpp : Paired (kPt.is H) ((ks.map fun x => x.2.1).map V.ref) ps := keys_pts (isKeys_of pr) hps
  refine sorted_src (vs := (ks.map fun x => x.2.1).map Value.ref) (k := fun u => ptOf H (backV u)) (kdl_raw hs hx hdt) (I.ok.hd hc) ho (by omega) (fun acc' it => ?_) (fun v hv => ?_) fun h1 h' tk e out hs1 hb1 k1 k2 hle hob => ?_
  · have hl : acc'.toList.length = ks.length := by rw [Array.length_toList, it.1]; exact l1
    rw [List.map_map]
    apply List.ext_getElem?
    intro j
    rw [List.getElem?_map]
    cases hj : acc'.toList[j]? with
    | none =>
      have h1 := List.getElem?_eq_none_iff.mp hj
      rw [List.getElem?_eq_none (by omega)]
      all_goals rfl
    | some v =>
      obtain ⟨en, hen, hv⟩ := it.2 j v (by rw [← Array.getElem?_toList]; exact hj)
      have qe := entry_at he j
      rw [hen] at qe
      cases hb : ks[j]? with
      | none =>
        rw [hb] at qe
        exact nomatch (show some en = none from qe)
      | some b =>
        rw [hb] at qe
        have e2 : en = entryOfKey (tupleKind (mixKind X.prog X.w)) b := Option.some.inj qe
        rw [hv, e2]
        all_goals rfl
  · obtain ⟨t, ht, rfl⟩ := List.mem_map.mp hv
    obtain ⟨x, _, rx⟩ := pr_mem hpp (List.mem_map.mpr ⟨t, ht, rfl⟩)
    have : ptOf H (backV (Value.ref t)) = x := ptOf_eq rx
    show Srt.IsPair _ _ (ptOf H (backV (Value.ref t))).1 (ptOf H (backV (Value.ref t))).2
    rw [this]
    exact isPair_of I rx
  · have h3 : ∀ u ∈ out, ∃ a, u = Value.ref a := fun u hu => by
      have := hb1.perm.mem_iff.mp hu
      obtain ⟨t, _, rfl⟩ := List.mem_map.mp this
      exact ⟨t, rfl⟩
    have hback : ((ks.map fun x => x.2.1).map Value.ref).map backV = (ks.map fun x => x.2.1).map V.ref := by
      rw [List.map_map]
      exact List.map_congr_left fun _ _ => rfl
    have hb2 : SrtO.Stb (ltP (ptOf H)) (out.map backV) ((ks.map fun x => x.2.1).map V.ref) := by
      rw [← hback]
      exact SrtO.Stb.map (ltP_swo (ptOf H)) backV hb1
    obtain ⟨qs, a1, a2, a3⟩ := sorted_pts hpp hnd (SrtO.srtd_map hs1) hb2
    obtain ⟨n, hob⟩ := hob
    have I1 : Inv X pins σ H { s with heap := h1 } := I.kept (t' := s.toks) k1
    refine ⟨.ref e, upd H e (.lst (out.map backV)), I1.laid (t' := tk) k2 hle ⟨?_, out, n, vals_back h3, hob⟩, rfl, q _ qs e a1 a2 a3 (I1.hok.fresh hle)⟩
    rw [hb2.len, List.length_map, List.length_map, ← l2]
    exact z
end
end Rw
namespace Rw
open PySem L2
section
variable (P : Program) (w : World) (K : PySem.W.Frag) (mg : Str → Option Value) (base : Heap)
/-- a def that may be called by its name -/
def Cal (k : Nat) (x : Str) (ps : List Str) (sp : Sp) : Prop :=
  ∃ (f : Addr) (fd : FuncData), FnOk P w K mg base CX0 k f fd ps sp ∧ mg x = some (.ref f) ∧ PySem.W.keepIn K (.ref f) = true ∧ Binds K fd ps []
end
theorem tyx_int {K : PySem.W.Frag} {H : Hp} (i : Int) : TyX K H (.int i) (.type "int") := .base (.int i)
theorem tyx_tup {K : PySem.W.Frag} {H : Hp} {a : Addr} {xs : List V} (h : H a = some (.tup xs)) : TyX K H (.ref a) (.type "tuple") := .base (.tup h)
theorem tyx_lst {K : PySem.W.Frag} {H : Hp} {a : Addr} {xs : List V} (h : H a = some (.lst xs)) : TyX K H (.ref a) (.type "list") := .base (.lst h)
theorem kit_ii {K : PySem.W.Frag} : PySem.W.kitOne K (.type "int") (.type "int") = some true := kit_ty (by decide +kernel)
theorem kit_ib {K : PySem.W.Frag} : PySem.W.kitOne K (.type "int") (.type "bool") = some false := kit_ty (by decide +kernel)
theorem kit_tt {K : PySem.W.Frag} : PySem.W.kitOne K (.type "tuple") (.type "tuple") = some true := kit_ty (by decide +kernel)
theorem bt_int : bootBuiltins "int" = some (.type "int") := by decide +kernel
theorem bt_bool : bootBuiltins "bool" = some (.type "bool") := by decide +kernel
theorem bt_tuple : bootBuiltins "tuple" = some (.type "tuple") := by decide +kernel
theorem pe_bty {X : Cx} {x : Str} {n : String} {pos : Pos} (hg : Gl X x) (hm : X.mg x = none) (hv : bootBuiltins x = some (.type n)) (hn : x ≠ "__name__" := by decide) (hd : (x == ("__debug__" : Str)) = false := by decide) : PE X (.Name x pos) (tC (.ty n)) :=
  pe_bltn (v := .ty n) (u := .type n) hg hm hv rfl hn hd
end Rw
namespace Rw
open PySem L2
def topS (i : Nat) : Stmt := PySem.Challenge.pw_doneranges_k23_whole_what_was_shown_is_n.main.body.getD i (.Pass ⟨0, 0, 0, 0⟩)
abbrev s_wall : Stmt := topS 0
theorem sc_wall : FnScope ["k"] ["k"] (defScope s_wall) := ⟨rfl, rfl, rfl, by decide +kernel, rfl, by decide +kernel, by decide +kernel⟩
abbrev s_BadStretches___init__ : Stmt := inClass (topS 3) 0
theorem sc_BadStretches___init__ : FnScope ["self", "at"] ["self", "at"] (defScope s_BadStretches___init__) := ⟨rfl, rfl, rfl, by decide +kernel, rfl, by decide +kernel, by decide +kernel⟩
abbrev s_BadDeed___init__ : Stmt := inClass (topS 6) 0
theorem sc_BadDeed___init__ : FnScope ["self", "at"] ["self", "at"] (defScope s_BadDeed___init__) := ⟨rfl, rfl, rfl, by decide +kernel, rfl, by decide +kernel, by decide +kernel⟩
abbrev s_BadText___init__ : Stmt := inClass (topS 8) 0
theorem sc_BadText___init__ : FnScope ["self", "place"] ["self", "place"] (defScope s_BadText___init__) := ⟨rfl, rfl, rfl, by decide +kernel, rfl, by decide +kernel, by decide +kernel⟩
abbrev s_BadEvent___init__ : Stmt := inClass (topS 11) 0
theorem sc_BadEvent___init__ : FnScope ["self", "at"] ["self", "at"] (defScope s_BadEvent___init__) := ⟨rfl, rfl, rfl, by decide +kernel, rfl, by decide +kernel, by decide +kernel⟩
abbrev s_is_number : Stmt := topS 16
theorem sc_is_number : FnScope ["value", "low", "high"] ["value", "low", "high"] (defScope s_is_number) := ⟨rfl, rfl, rfl, by decide +kernel, rfl, by decide +kernel, by decide +kernel⟩
abbrev s_is_house : Stmt := topS 17
theorem sc_is_house : FnScope ["value"] ["value"] (defScope s_is_house) := ⟨rfl, rfl, rfl, by decide +kernel, rfl, by decide +kernel, by decide +kernel⟩
abbrev s_is_row : Stmt := topS 18
theorem sc_is_row : FnScope ["row", "house", "first", "last"] ["row"] (defScope s_is_row) := ⟨rfl, rfl, rfl, by decide +kernel, rfl, by decide +kernel, by decide +kernel⟩
abbrev s_first_wrong : Stmt := topS 19
theorem sc_first_wrong : FnScope ["rows", "at", "row"] ["rows"] (defScope s_first_wrong) := ⟨rfl, rfl, rfl, by decide +kernel, rfl, by decide +kernel, by decide +kernel⟩
abbrev s_check_rows : Stmt := topS 20
theorem sc_check_rows : FnScope ["rows", "at"] ["rows"] (defScope s_check_rows) := ⟨rfl, rfl, rfl, by decide +kernel, rfl, by decide +kernel, by decide +kernel⟩
abbrev s_changes_of : Stmt := topS 21
theorem sc_changes_of : FnScope ["weighed", "changes", "house", "first", "last", "weight"] ["weighed"] (defScope s_changes_of) := ⟨rfl, rfl, rfl, by decide +kernel, rfl, by decide +kernel, by decide +kernel⟩
abbrev s_reaching : Stmt := topS 22
theorem sc_reaching : FnScope ["weighed", "least", "changes", "out", "total", "start", "house", "number", "ahead"] ["weighed", "least"] (defScope s_reaching) := ⟨rfl, rfl, rfl, by decide +kernel, rfl, by decide +kernel, by decide +kernel⟩
abbrev s_fewest : Stmt := topS 23
theorem sc_fewest : FnScope ["rows", "row"] ["rows"] (defScope s_fewest) := ⟨rfl, rfl, rfl, by decide +kernel, rfl, by decide +kernel, by decide +kernel⟩
abbrev s_held_by_many : Stmt := topS 24
theorem sc_held_by_many : FnScope ["sets", "least", "rows", "row"] ["sets", "least"] (defScope s_held_by_many) := ⟨rfl, rfl, rfl, by decide +kernel, rfl, by decide +kernel, by decide +kernel⟩
abbrev s_without : Stmt := topS 25
theorem sc_without : FnScope ["one", "other", "kept", "barred", "row"] ["one", "other"] (defScope s_without) := ⟨rfl, rfl, rfl, by decide +kernel, rfl, by decide +kernel, by decide +kernel⟩
abbrev s_check_many : Stmt := topS 29
theorem sc_check_many : FnScope ["many"] ["many"] (defScope s_check_many) := ⟨rfl, rfl, rfl, by decide +kernel, rfl, by decide +kernel, by decide +kernel⟩
abbrev s_check_one_of : Stmt := topS 30
theorem sc_check_one_of : FnScope ["which", "many"] ["which", "many"] (defScope s_check_one_of) := ⟨rfl, rfl, rfl, by decide +kernel, rfl, by decide +kernel, by decide +kernel⟩
abbrev s_Seat___init__ : Stmt := inClass (topS 33) 0
theorem sc_Seat___init__ : FnScope ["self"] ["self"] (defScope s_Seat___init__) := ⟨rfl, rfl, rfl, by decide +kernel, rfl, by decide +kernel, by decide +kernel⟩
abbrev s_Seat_hold : Stmt := inClass (topS 33) 1
theorem sc_Seat_hold : FnScope ["self", "rows"] ["self", "rows"] (defScope s_Seat_hold) := ⟨rfl, rfl, rfl, by decide +kernel, rfl, by decide +kernel, by decide +kernel⟩
abbrev s_Seat_ask : Stmt := inClass (topS 33) 2
theorem sc_Seat_ask : FnScope ["self", "term"] ["self", "term"] (defScope s_Seat_ask) := ⟨rfl, rfl, rfl, by decide +kernel, rfl, by decide +kernel, by decide +kernel⟩
abbrev s_Seat_keep : Stmt := inClass (topS 33) 3
theorem sc_Seat_keep : FnScope ["self", "term", "rows"] ["self", "term", "rows"] (defScope s_Seat_keep) := ⟨rfl, rfl, rfl, by decide +kernel, rfl, by decide +kernel, by decide +kernel⟩
abbrev s_Seat_holds : Stmt := inClass (topS 33) 4
theorem sc_Seat_holds : FnScope ["self"] ["self"] (defScope s_Seat_holds) := ⟨rfl, rfl, rfl, by decide +kernel, rfl, by decide +kernel, by decide +kernel⟩
abbrev s_Lead___init__ : Stmt := inClass (topS 34) 0
theorem sc_Lead___init__ : FnScope ["self", "many"] ["self", "many"] (defScope s_Lead___init__) := ⟨rfl, rfl, rfl, by decide +kernel, rfl, by decide +kernel, by decide +kernel⟩
abbrev s_Lead_heard : Stmt := inClass (topS 34) 1
theorem sc_Lead_heard : FnScope ["self", "seat", "rows"] ["self", "seat", "rows"] (defScope s_Lead_heard) := ⟨rfl, rfl, rfl, by decide +kernel, rfl, by decide +kernel, by decide +kernel⟩
abbrev s_Lead_must : Stmt := inClass (topS 34) 2
theorem sc_Lead_must : FnScope ["self"] ["self"] (defScope s_Lead_must) := ⟨rfl, rfl, rfl, by decide +kernel, rfl, by decide +kernel, by decide +kernel⟩
abbrev s_Lead_begin : Stmt := inClass (topS 34) 3
theorem sc_Lead_begin : FnScope ["self", "rows"] ["self", "rows"] (defScope s_Lead_begin) := ⟨rfl, rfl, rfl, by decide +kernel, rfl, by decide +kernel, by decide +kernel⟩
abbrev s_Lead_kept : Stmt := inClass (topS 34) 4
theorem sc_Lead_kept : FnScope ["self", "seat", "rows"] ["self", "seat", "rows"] (defScope s_Lead_kept) := ⟨rfl, rfl, rfl, by decide +kernel, rfl, by decide +kernel, by decide +kernel⟩
abbrev s_Lead_shown : Stmt := inClass (topS 34) 5
theorem sc_Lead_shown : FnScope ["self"] ["self"] (defScope s_Lead_shown) := ⟨rfl, rfl, rfl, by decide +kernel, rfl, by decide +kernel, by decide +kernel⟩
abbrev s_Lead_leads : Stmt := inClass (topS 34) 6
theorem sc_Lead_leads : FnScope ["self"] ["self"] (defScope s_Lead_leads) := ⟨rfl, rfl, rfl, by decide +kernel, rfl, by decide +kernel, by decide +kernel⟩
abbrev s_Lead__most : Stmt := inClass (topS 34) 7
theorem sc_Lead__most : FnScope ["self"] ["self"] (defScope s_Lead__most) := ⟨rfl, rfl, rfl, by decide +kernel, rfl, by decide +kernel, by decide +kernel⟩
abbrev s_Lead__check_begun : Stmt := inClass (topS 34) 8
theorem sc_Lead__check_begun : FnScope ["self"] ["self"] (defScope s_Lead__check_begun) := ⟨rfl, rfl, rfl, by decide +kernel, rfl, by decide +kernel, by decide +kernel⟩
abbrev s_within : Stmt := topS 36
theorem sc_within : FnScope ["one", "other"] ["one", "other"] (defScope s_within) := ⟨rfl, rfl, rfl, by decide +kernel, rfl, by decide +kernel, by decide +kernel⟩
abbrev s_law_dice : Stmt := topS 38
theorem sc_law_dice : FnScope ["_law_script", "_law_mixed", "_law_cell"] ["_law_script"] (defScope s_law_dice) := ⟨rfl, rfl, rfl, by decide +kernel, rfl, by decide +kernel, by decide +kernel⟩
abbrev s_law_next : Stmt := topS 39
theorem sc_law_next : FnScope ["_law_dice_here", "_law_many", "_law_found", "_law_cell"] ["_law_dice_here", "_law_many"] (defScope s_law_next) := ⟨rfl, rfl, rfl, by decide +kernel, rfl, by decide +kernel, by decide +kernel⟩
abbrev s_law_told : Stmt := topS 40
theorem sc_law_told : FnScope ["_law_work", "e", "_law_kinds", "_law_words", "_law_word"] ["_law_work"] (defScope s_law_told) := ⟨rfl, rfl, rfl, by decide +kernel, rfl, by decide +kernel, by decide +kernel⟩
abbrev s_law_ask : Stmt := topS 41
theorem sc_law_ask : FnScope ["_law_d", "_law_seats", "_law_leads", "_law_lead", "_law_term", "_law_answer", "_law_seat"] ["_law_d", "_law_seats", "_law_leads"] (defScope s_law_ask) := ⟨rfl, rfl, rfl, by decide +kernel, rfl, by decide +kernel, by decide +kernel⟩
abbrev s_law_bring : Stmt := topS 42
theorem sc_law_bring : FnScope ["_law_d", "_law_seats", "_law_lead", "_law_told_here", "_law_late", "_law_rows", "_law_seat"] ["_law_d", "_law_seats", "_law_lead"] (defScope s_law_bring) := ⟨rfl, rfl, rfl, by decide +kernel, rfl, by decide +kernel, by decide +kernel⟩
abbrev s_law : Stmt := topS 43
theorem sc_law : FnScope ["_law_script", "_law_d", "_law_seats", "_law_leads", "_law_shown", "_law_turn", "_law_ahead", "_law_kind", "_law_must", "_law_rows", "_law_other", "_law_lead", "_law_seat", "_law_term", "_law_k"] ["_law_script"] (defScope s_law) := ⟨rfl, rfl, rfl, by decide +kernel, rfl, by decide +kernel, by decide +kernel⟩
end Rw
namespace Rw
open PySem L2
/-! ### the refusals' readers, of what is right -/
def LIM : Int := 1000000000000
def spIsNumber : Sp := fun vs H Q _ => ∃ v lo hi : Int, vs = [.int v, .int lo, .int hi] ∧ Q (.bl (decide (lo ≤ v ∧ v ≤ hi))) H
def spIsHouse : Sp := fun vs H Q _ => ∃ v : Int, vs = [.int v] ∧ Q (.bl (decide (0 ≤ v ∧ v ≤ 7))) H
/-- a row as it may be handed in -/
def RowOk (r : Row) : Prop := 0 ≤ r.1 ∧ r.1 ≤ 7 ∧ 1 ≤ r.2.1 ∧ r.2.1 ≤ r.2.2 ∧ r.2.2 ≤ LIM
def spIsRow : Sp := fun vs H Q _ => ∃ (v : V) (r : Row), vs = [v] ∧ kRow.is H v r ∧ RowOk r ∧ Q (.bl true) H
def RowsOk (rs : List Row) : Prop := rs.length ≤ 200 ∧ ∀ r ∈ rs, RowOk r
def spFirstWrong : Sp := fun vs H Q _ => ∃ (v : V) (rs : List Row), vs = [v] ∧ (kL kRow).is H v rs ∧ RowsOk rs ∧ ∀ H', Same H H' → Q .non H'
structure TxA (mg : Str → Option Value) : Prop where
  isinst : mg "isinstance" = none
  int : mg "int" = none
  bool : mg "bool" = none
  tuple : mg "tuple" = none
  len : mg "len" = none
  enum : mg "enumerate" = none
  last : ∃ t, mg "LAST_HOUSE" = some (.int 7 t)
  lim : ∃ t, mg "LIMIT" = some (.int LIM t)
  most : ∃ t, mg "MOST_ROWS" = some (.int 200 t)
section
variable {P : Program} {w : World} {K : PySem.W.Frag} {mg : Str → Option Value} {base : Heap}
theorem ok_is_number {f : Addr} {fd : FuncData} (F : Fun K "is_number" "is_number" s_is_number f fd) (T : TxA mg) : FnOk P w K mg base CX0 1 f fd ["value", "low", "high"] spIsNumber := by
  refine F.ok sc_is_number (fun vs H Q E h => ?_) (fun cdv A outer s H vs Q E hr h => ?_)
  · obtain ⟨v, lo, hi, rfl, _⟩ := h
    rfl
  · obtain ⟨v, lo, hi, rfl, q⟩ := h
    refine ⟨_, pss_one (ps_ret (pe_and (pe_callB call_isi (by rfl) T.isinst (by decide +kernel) (pa_cons (pv 0) (pa_cons (pe_bty (by rfl) T.int bt_int) pa_nil)))
      (pe_and (pe_not (pe_callB call_isi (by rfl) T.isinst (by decide +kernel) (pa_cons (pv 0) (pa_cons (pe_bty (by rfl) T.bool bt_bool) pa_nil))))
      (pe_one (pe_chain op_le op_le (pv 1) (pv 0) (pv 2)))))), ?_⟩
    refine ⟨_, rfl, _, .ty "int", _, _, _, rfl, .ty _, tyx_int _, kit_ii, true, rfl, iteT ?_⟩
    refine ⟨_, rfl, _, .ty "bool", _, _, _, rfl, .ty _, tyx_int _, kit_ib, false, rfl, true, rfl, iteT ?_⟩
    refine ⟨_, rfl, _, rfl, _, _, rfl, rfl, _, rfl, ite2 (fun h1 => ?_) (fun h1 => ?_)⟩
    · have h1 := of_decide_eq_true h1
      refine ⟨_, rfl, _, _, rfl, rfl, ?_⟩
      have e : decide (v ≤ hi) = decide (lo ≤ v ∧ v ≤ hi) := by
        by_cases z : v ≤ hi
        · rw [decide_eq_true z, decide_eq_true ⟨h1, z⟩]
        · rw [decide_eq_false z, decide_eq_false fun q => z q.2]
      rw [← e] at q
      exact q
    · have h1' : ¬ lo ≤ v := fun z => h1 (decide_eq_true z)
      rw [decide_eq_false fun q => h1' q.1] at q
      exact q
theorem ok_is_house {f : Addr} {fd : FuncData} (F : Fun K "is_house" "is_house" s_is_house f fd) (T : TxA mg) (CN : Cal P w K mg base 1 "is_number" ["value", "low", "high"] spIsNumber) : FnOk P w K mg base CX0 2 f fd ["value"] spIsHouse := by
  obtain ⟨f1, fd1, G1, g1, kp1, b1⟩ := CN
  obtain ⟨t7, h7⟩ := T.last
  refine F.ok sc_is_house (fun vs H Q E h => ?_) (fun cdv A outer s H vs Q E hr h => ?_)
  · obtain ⟨v, rfl, _⟩ := h
    rfl
  · obtain ⟨v, rfl, q⟩ := h
    refine ⟨_, pss_one (ps_ret (pe_call G1 hr (by rfl) g1 kp1 b1 .nil pass0 (pa_cons (pv 0) (pa_cons pe_int (pa_cons (pe_glob (v := .int 7) (by rfl) h7 ⟨_, rfl⟩) pa_nil))))), ?_⟩
    exact ⟨_, rfl, v, 0, 7, rfl, q⟩
theorem ok_is_row {f : Addr} {fd : FuncData} (F : Fun K "is_row" "is_row" s_is_row f fd) (T : TxA mg) (CN : Cal P w K mg base 1 "is_number" ["value", "low", "high"] spIsNumber) (CH : Cal P w K mg base 2 "is_house" ["value"] spIsHouse) : FnOk P w K mg base CX0 3 f fd ["row"] spIsRow := by
  obtain ⟨f1, fd1, G1, g1, kp1, b1⟩ := CN
  obtain ⟨f2, fd2, G2, g2, kp2, b2⟩ := CH
  obtain ⟨tl, hl⟩ := T.lim
  refine F.ok sc_is_row (fun vs H Q E h => ?_) (fun cdv A outer s H vs Q E hr h => ?_)
  · obtain ⟨v, r, rfl, _⟩ := h
    rfl
  · obtain ⟨v, r, rfl, ⟨t, rfl, ht⟩, ⟨r1, r2, r3, r4, r5⟩, q⟩ := h
    have hr1 : Room 1 _ := hr.mono (by decide)
    refine ⟨_, pss_cons (ps_if (PW.pt (pw_or (pt_not (pt_val (pe_callB call_isi (by rfl) T.isinst (by decide +kernel) (pa_cons (pv 0) (pa_cons (pe_bty (by rfl) T.tuple bt_tuple) pa_nil)))))
        (pw_or1 (pt_cmpR op_ne (pe_callB call_len (by rfl) T.len PySem.boot_len (pa_cons (pv 0) pa_nil)) pe_int (nomark _))))) (pss_one (ps_ret pe_bl)) pss_nil)
      (pss_cons (ps_asg (pv 0) (pg_tup (by rfl) (pgs_cons (pg_name (i := 1) sc_is_row.nd rfl (.inl rfl)) (pgs_cons (pg_name (i := 2) sc_is_row.nd rfl (.inl rfl)) (pgs_cons (pg_name (i := 3) sc_is_row.nd rfl (.inl rfl)) pgs_nil)))))
      (pss_one (ps_ret (pe_and (pe_call G2 hr (by rfl) g2 kp2 b2 .nil pass0 (pa_cons (pv 1) pa_nil))
        (pe_and (pe_call G1 hr1 (by rfl) g1 kp1 b1 .nil pass0 (pa_cons (pv 2) (pa_cons pe_int (pa_cons (pe_glob (v := .int LIM) (by rfl) hl ⟨_, rfl⟩) pa_nil))))
          (pe_one (pe_call G1 hr1 (by rfl) g1 kp1 b1 .nil pass0 (pa_cons (pv 3) (pa_cons (pv 2) (pa_cons (pe_glob (v := .int LIM) (by rfl) hl ⟨_, rfl⟩) pa_nil)))))))))), ?_⟩
    refine ⟨_, rfl, _, .ty "tuple", _, _, _, rfl, .ty _, tyx_tup ht, kit_tt, true, rfl, iteF ?_⟩
    refine ⟨_, rfl, _, 3, rfl, .inr ⟨_, SqT.of ht, rfl⟩, rfl, false, by decide, iteF ?_⟩
    refine ⟨_, rfl, _, _, rfl, SqT.of ht, rfl, _, _, rfl, _, _, rfl, _, _, rfl, rfl, ?_⟩
    refine ⟨_, rfl, r.1, rfl, _, rfl, ?_⟩
    rw [decide_eq_true ⟨r1, r2⟩]
    refine iteT ⟨_, rfl, r.2.1, 1, LIM, rfl, _, rfl, ?_⟩
    rw [decide_eq_true ⟨r3, Int.le_trans r4 r5⟩]
    refine iteT ⟨_, rfl, _, rfl, r.2.2, r.2.1, LIM, rfl, ?_⟩
    rw [decide_eq_true ⟨r4, r5⟩]
    exact q
end
end Rw
namespace Rw
open PySem L2
theorem mem_cut {xs : List V} {lo hi : Option Int} {i : Nat} {x : V} (h : (cutV xs lo hi)[i]? = some x) : x ∈ xs := by
  have h1 := List.mem_of_getElem? h
  unfold cutV at h1
  exact List.mem_of_mem_drop (List.mem_of_mem_take h1)
theorem kL_mem {α : Type} {k : Kd α} {F : Hp} {vs : List V} {xs : List α} (h : Paired (k.is F) vs xs) {v : V} (m : v ∈ vs) : ∃ x ∈ xs, k.is F v x := pr_mem h m
def spCheckRows : Sp := fun vs H Q _ => ∃ (v : V) (rs : List Row), vs = [v] ∧ (kL kRow).is H v rs ∧ RowsOk rs ∧ ∀ H', Same H H' → Q .non H'
def spCheckHouse : Sp := fun vs H Q _ => ∃ (h : Int), vs = [.int h] ∧ 0 ≤ h ∧ h ≤ 7 ∧ Q .non H
section
variable {P : Program} {w : World} {K : PySem.W.Frag} {mg : Str → Option Value} {base : Heap}
theorem ok_first_wrong {f : Addr} {fd : FuncData} (F : Fun K "first_wrong" "first_wrong" s_first_wrong f fd) (T : TxA mg) (CR : Cal P w K mg base 3 "is_row" ["row"] spIsRow) : FnOk P w K mg base CX0 4 f fd ["rows"] spFirstWrong := by
  obtain ⟨f1, fd1, G1, g1, kp1, b1⟩ := CR
  obtain ⟨tm, hm⟩ := T.most
  refine F.ok sc_first_wrong (fun vs H Q E h => ?_) (fun cdv A outer s H vs Q E hr h => ?_)
  · obtain ⟨v, rs, rfl, _⟩ := h
    rfl
  · obtain ⟨v, rs, rfl, ⟨a, xs, rfl, ha, hp⟩, ⟨hl, hok⟩, q⟩ := h
    have el : xs.length = rs.length := pr_len hp
    refine ⟨_, pss_cons (ps_for PassesOwn.never rfl (pi_enum (by rfl) T.enum (pa_cons (pe_slice sl_list (pv 0) po_none (po_some (pe_glob (v := .int 200) (by rfl) hm ⟨_, rfl⟩))) pa_nil))
          (pg_tup rfl (pgs_cons (pg_name (i := 1) sc_first_wrong.nd rfl (.inl rfl)) (pgs_cons (pg_name (i := 2) sc_first_wrong.nd rfl (.inl rfl)) pgs_nil)))
        (pss_one (ps_if (pt_not (pt_val (pe_call G1 hr (by rfl) g1 kp1 b1 .nil pass0 (pa_cons (pv 2) pa_nil)))) (pss_one (ps_ret (pv 1))) pss_nil)))
      (pss_one (ps_ret (pe_ifExp (pt_cmpR op_gt (pe_callB call_len (by rfl) T.len PySem.boot_len (pa_cons (pv 0) pa_nil)) (pe_glob (v := .int 200) (by rfl) hm ⟨_, rfl⟩) (nomark _))
        (pe_glob (v := .int 200) (by rfl) hm ⟨_, rfl⟩) pe_non))), ?_⟩
    refine ⟨_, rfl, 200, rfl, a, xs, rfl, SqL.of ha, fun p np => ?_⟩
    refine ⟨p, _, rfl, SqL.of upd_same, for_it (walk_enum (K := K) (a := p) (xs := cutV xs none (some 200))) (fun i σ H' => Same H H' ∧ SqL K H' p (cutV xs none (some 200)) ∧ ∃ x y, σ = [some (.ref a), x, y])
      ⟨same_upd np, SqL.of upd_same, none, none, rfl⟩ (fun _ _ _ _ h => h.2.1) ?_ ?_⟩
    · rintro i x σ H1 H2 hi ⟨s1, l1, x0, y0, rfl⟩ ⟨U, i', row, rfl, nU, rfl, ei, er⟩
      have s2 : Same H (upd H1 U (.tup [i', row])) := s1.trans (same_upd nU)
      obtain ⟨r, hr1, hr2⟩ := pr_mem hp (mem_cut er)
      refine ⟨U, _, rfl, SqT.of upd_same, rfl, i', [row], rfl, row, [], rfl, rfl, ?_⟩
      refine ⟨_, rfl, _, r, rfl, kRow.mono s2 hr2, hok r hr1, true, rfl, iteF ?_⟩
      exact ⟨s2, (same_upd nU).seq l1, _, _, rfl⟩
    · rintro σ H1 ⟨s1, l1, x0, y0, rfl⟩
      have la : H1 a = some (.lst xs) := s1 _ _ ha
      refine ⟨_, rfl, _, xs.length, rfl, .inl ⟨_, SqL.of la, rfl⟩, _, _, rfl, rfl, _, rfl, ?_⟩
      rw [decide_eq_false (show ¬ (xs.length : Int) > 200 by omega)]
      exact iteF (q _ s1)
theorem ok_check_rows {f : Addr} {fd : FuncData} (F : Fun K "check_rows" "check_rows" s_check_rows f fd) (CR : Cal P w K mg base 4 "first_wrong" ["rows"] spFirstWrong) : FnOk P w K mg base CX0 5 f fd ["rows"] spCheckRows := by
  obtain ⟨f1, fd1, G1, g1, kp1, b1⟩ := CR
  refine F.ok sc_check_rows (fun vs H Q E h => ?_) (fun cdv A outer s H vs Q E hr h => ?_)
  · obtain ⟨v, rs, rfl, _⟩ := h
    rfl
  · obtain ⟨v, rs, rfl, hv, hok, q⟩ := h
    refine ⟨_, pss_cons (ps_set (i := 1) sc_check_rows.nd rfl (.inl rfl) (pe_call G1 hr (by rfl) g1 kp1 b1 .nil pass0 (pa_cons (pv 0) pa_nil)))
      (pss_one (ps_if (pt_cmpR op_notN (pv 1) pe_non (nomark _)) (pss_one ps_never) pss_nil)), ?_⟩
    refine ⟨_, rfl, v, rs, rfl, hv, hok, fun H1 s1 => ?_⟩
    refine ⟨_, rfl, rfl, _, rfl, iteF ?_⟩
    exact q _ s1
end
end Rw
namespace Rw
open PySem L2
/-! ### a dict of points -/
structure DI (kvs : List (List Key × V)) (ps : List Pt) (g : Pt → Int) : Prop where
  keys : kvs.map (·.1) = ps.map kk
  nd : ps.Nodup
  val : ∀ p, valV kvs (kk p) = if p ∈ ps then some (.int (g p)) else none
theorem DI.nil (g : Pt → Int) : DI [] [] g := ⟨rfl, .nil, fun p => by simp [valV]⟩
theorem DI.put {kvs : List (List Key × V)} {ps : List Pt} {g : Pt → Int} (d : DI kvs ps g) (q : Pt) (z : Int) :
    ∃ ps', DI (putK kvs (kk q) (.int z)) ps' (fun p => if p = q then z else g p) ∧ (∀ p, p ∈ ps' ↔ p ∈ ps ∨ p = q) ∧ ps'.length ≤ ps.length + 1 := by
  have vals : ∀ p, valV (putK kvs (kk q) (.int z)) (kk p) = if p = q then some (.int z) else if p ∈ ps then some (.int (g p)) else none := fun p => by
    rw [valV_put]
    by_cases e : p = q
    · rw [if_pos (by rw [e]), if_pos e]
    · rw [if_neg (fun h => e (kk_inj h)), if_neg e, d.val p]
  by_cases m : q ∈ ps
  · refine ⟨ps, ⟨?_, d.nd, fun p => ?_⟩, fun p => ⟨.inl, fun h => h.elim id fun e => e ▸ m⟩, Nat.le_succ _⟩
    · have a : (kvs.any fun kv => decide (kv.1 = kk q)) = true := by rw [valV_any, d.val q, if_pos m]; rfl
      unfold putK
      rw [if_pos a, List.map_map, ← d.keys]
      refine List.map_congr_left fun kv _ => ?_
      by_cases e : kv.1 = kk q
      · simp only [Function.comp, if_pos e]
      · simp only [Function.comp, if_neg e]
    · rw [vals p]
      by_cases e : p = q
      · rw [if_pos e, if_pos (e ▸ m)]
        simp only [if_pos e]
      · simp only [if_neg e]
  · refine ⟨ps ++ [q], ⟨?_, ?_, fun p => ?_⟩, fun p => by simp, by simp⟩
    · rw [putK_new _ (by rw [d.val q, if_neg m]), List.map_append, List.map_append, d.keys]
      rfl
    · exact List.nodup_append.mpr ⟨d.nd, by simp, fun a ha b hb e => by rw [List.mem_singleton.mp hb] at e; exact m (e ▸ ha)⟩
    · rw [vals p]
      by_cases e : p = q
      · rw [if_pos e, if_pos (by rw [e]; simp)]
        simp only [if_pos e]
      · simp [e]
theorem putK_le (kvs : List (List Key × V)) (k : List Key) (v : V) : (putK kvs k v).length ≤ kvs.length + 1 := by
  unfold putK
  split
  · rw [List.length_map]; omega
  · rw [List.length_append]; simp
theorem DI.len {kvs : List (List Key × V)} {ps : List Pt} {g : Pt → Int} (d : DI kvs ps g) : kvs.length = ps.length := by
  have h := congrArg List.length d.keys
  rw [List.length_map, List.length_map] at h
  exact h
/-- what stands at a point, 0 where nothing does -/
theorem DI.get {kvs : List (List Key × V)} {ps : List Pt} {g : Pt → Int} (d : DI kvs ps g) (z : ∀ p, p ∉ ps → g p = 0) (p : Pt) : (valV kvs (kk p)).getD (.int 0) = .int (g p) := by
  rw [d.val p]
  by_cases m : p ∈ ps
  · rw [if_pos m]; rfl
  · rw [if_neg m, z p m]; rfl
theorem DI.congr {kvs : List (List Key × V)} {ps : List Pt} {g g' : Pt → Int} (d : DI kvs ps g) (h : ∀ p, g p = g' p) : DI kvs ps g' := by
  have e : g = g' := funext h
  rw [← e]; exact d
theorem chg_snoc (ws : List WRow) (r : Row) (z : Int) (p : Pt) : chg (ws ++ [(r, z)]) p = chg ws p + z * (ind (fstP r = p) - ind (endP r = p)) := by
  unfold chg
  rw [S_append]
  show _ + (z * (ind (fstP r = p) - ind (endP r = p)) + 0) = _
  omega
/-- what the program's dict of changes tells of weighed rows -/
structure ChD (kvs : List (List Key × V)) (ws : List WRow) : Prop where
  ex : ∃ ps : List Pt, DI kvs ps (chg ws) ∧ (∀ p, p ∉ ps → chg ws p = 0) ∧ Has ps ws ∧ ps.length ≤ 2 * ws.length
theorem ChD.nil : ChD [] [] := ⟨[], DI.nil _, fun _ _ => rfl, fun x h => absurd h (by simp), Nat.le_refl _⟩
/-- one row more: the two stores -/
theorem ChD.step {kvs : List (List Key × V)} {ws : List WRow} (c : ChD kvs ws) (r : Row) (z : Int) (hne : fstP r ≠ endP r) :
    ∃ v1 : Int, (valV kvs (kk (fstP r))).getD (.int 0) = .int v1 ∧ ∃ v2 : Int, (valV (putK kvs (kk (fstP r)) (.int (v1 + z))) (kk (endP r))).getD (.int 0) = .int v2 ∧
      ChD (putK (putK kvs (kk (fstP r)) (.int (v1 + z))) (kk (endP r)) (.int (v2 - z))) (ws ++ [(r, z)]) := by
  obtain ⟨ps, d, hz, hh, hl⟩ := c.ex
  refine ⟨chg ws (fstP r), d.get hz _, ?_⟩
  obtain ⟨ps1, d1, m1, l1⟩ := d.put (fstP r) (chg ws (fstP r) + z)
  have hz1 : ∀ p, p ∉ ps1 → (if p = fstP r then chg ws (fstP r) + z else chg ws p) = 0 := fun p hp => by
    have a : ¬ (p ∈ ps ∨ p = fstP r) := fun q => hp ((m1 p).mpr q)
    rw [if_neg fun e => a (.inr e)]
    exact hz p fun q => a (.inl q)
  have e2 : (if endP r = fstP r then chg ws (fstP r) + z else chg ws (endP r)) = chg ws (endP r) := if_neg fun e => hne e.symm
  refine ⟨chg ws (endP r), by rw [d1.get hz1, e2], ?_⟩
  obtain ⟨ps2, d2, m2, l2⟩ := d1.put (endP r) (chg ws (endP r) - z)
  have ev : ∀ p, (if p = endP r then chg ws (endP r) - z else if p = fstP r then chg ws (fstP r) + z else chg ws p) = chg (ws ++ [(r, z)]) p := fun p => by
    rw [chg_snoc]
    by_cases a : p = endP r
    · subst a
      rw [if_pos rfl, ind_pos (rfl : endP r = endP r), ind_neg hne]
      omega
    · rw [if_neg a, ind_neg (fun e => a e.symm : ¬ endP r = p)]
      by_cases b : p = fstP r
      · subst b
        rw [if_pos rfl, ind_pos (rfl : fstP r = fstP r)]
        omega
      · rw [if_neg b, ind_neg (fun e => b e.symm : ¬ fstP r = p)]
        omega
  refine ⟨ps2, d2.congr ev, fun p hp => ?_, fun x hx => ?_, ?_⟩
  · rw [← ev p]
    have a : ¬ (p ∈ ps1 ∨ p = endP r) := fun q => hp ((m2 p).mpr q)
    rw [if_neg fun e => a (.inr e)]
    exact hz1 p fun q => a (.inl q)
  · rcases List.mem_append.mp hx with hx | hx
    · obtain ⟨a, b⟩ := hh x hx
      exact ⟨(m2 _).mpr (.inl ((m1 _).mpr (.inl a))), (m2 _).mpr (.inl ((m1 _).mpr (.inl b)))⟩
    · rw [List.mem_singleton.mp hx]
      exact ⟨(m2 _).mpr (.inl ((m1 _).mpr (.inr rfl))), (m2 _).mpr (.inr rfl)⟩
  · rw [List.length_append, List.length_singleton]
    omega
def spChangesOf : Sp := fun vs H Q _ => ∃ (F : Hp) (v : V) (ws : List WRow), vs = [v] ∧ Same F H ∧ (kL kW).is F v ws ∧ Wok ws ∧ ws.length ≤ 1000000 ∧
  ∀ (H' : Hp) (d : Addr) (kvs : List (List Key × V)), Ext M0 F H F H' → H d = none → F d = none → H' d = some (.dT kvs) → ChD kvs ws → Q (.ref d) H'
section
variable {P : Program} {w : World} {K : PySem.W.Frag} {mg : Str → Option Value} {base : Heap}
theorem ok_changes_of {f : Addr} {fd : FuncData} (F0 : Fun K "changes_of" "changes_of" s_changes_of f fd) : FnOk P w K mg base CX0 1 f fd ["weighed"] spChangesOf := by
  refine F0.ok sc_changes_of (fun vs H Q E h => ?_) (fun cdv A outer s H vs Q E hr h => ?_)
  · obtain ⟨F, v, ws, rfl, _⟩ := h
    rfl
  · obtain ⟨F, v, ws, rfl, fh, ⟨a, xs, rfl, ha, hp⟩, hok, hlen, q⟩ := h
    have hu := hu_of hr
    refine ⟨_, pss_cons (ps_set (i := 1) sc_changes_of.nd rfl (.inl rfl) pe_dnewT)
      (pss_cons (ps_for PassesOwn.never rfl (pi_list (pv 0))
          (pg_tup rfl (pgs_cons (pg_tup rfl (pgs_cons (pg_name (i := 2) sc_changes_of.nd rfl (.inl rfl)) (pgs_cons (pg_name (i := 3) sc_changes_of.nd rfl (.inl rfl)) (pgs_cons (pg_name (i := 4) sc_changes_of.nd rfl (.inl rfl)) pgs_nil))))
            (pgs_cons (pg_name (i := 5) sc_changes_of.nd rfl (.inl rfl)) pgs_nil)))
        (pss_cons (ps_dput hu (pv 1) (pe_tup (pa_cons (pv 2) (pa_cons (pv 3) pa_nil))) (pe_op op_add (pe_dget2 hu (pv 1) (pe_tup (pa_cons (pv 2) (pa_cons (pv 3) pa_nil))) pe_int ⟨rfl, rfl, rfl, rfl⟩) (pv 5)) rfl)
          (pss_one (ps_dput hu (pv 1) (pe_tup (pa_cons (pv 2) (pa_cons (pe_op op_add (pv 4) pe_int) pa_nil))) (pe_op op_sub (pe_dget2 hu (pv 1) (pe_tup (pa_cons (pv 2) (pa_cons (pe_op op_add (pv 4) pe_int) pa_nil))) pe_int ⟨rfl, rfl, rfl, rfl⟩) (pv 5)) rfl))))
      (pss_one (ps_ret (pv 1)))), ?_⟩
    intro d nd
    have fd0 : F d = none := fh.free nd
    refine ⟨_, rfl, a, rfl, ⟨xs, SqL.of ((same_upd nd) _ _ (fh _ _ ha))⟩, for_list (K := K) (a := a) (xs := xs) (fun i σ H1 => ∃ kvs y2 y3 y4 y5, σ = [some (.ref a), some (.ref d), y2, y3, y4, y5] ∧ Ext M0 F H F H1 ∧ H1 d = some (.dT kvs) ∧ ChD kvs (ws.take i))
      ⟨[], none, none, none, none, rfl, (Ext.refl fh).put (.inl nd) fd0, upd_same, ChD.nil⟩ (fun i σ H1 _ ⟨_, _, _, _, _, _, X1, _, _⟩ => SqL.of (X1.fh _ _ ha)) ?_ ?_⟩
    · rintro i x σ H1 hi ⟨kvs, y2, y3, y4, y5, rfl, X1, hd, hc⟩
      obtain ⟨⟨r, z⟩, hri, t, u, rfl, ht, ⟨t2, rfl, ht2⟩⟩ := pr_get hp hi
      have hro := hok _ (List.mem_of_getElem? hri)
      have hne : fstP r ≠ endP r := fun e => by
        have e2 := congrArg Prod.snd e
        simp only [fstP, endP] at e2
        simp only at hro
        omega
      obtain ⟨v1, e1, v2, e2, hc2⟩ := hc.step r z hne
      have hlen2 : ∀ {kvs : List (List Key × V)} {n : Nat}, ChD kvs (ws.take n) → kvs.length < sizeLine - 2 := fun {kvs n} c => by
        obtain ⟨ps, dd, _, _, l⟩ := c.ex
        have l2 : (ws.take n).length ≤ ws.length := List.length_take_le' n ws
        rw [dd.len, sizeLine_eq]
        omega
      have hk := hlen2 hc
      refine ⟨t, _, rfl, SqT.of (X1.fh _ _ ht), rfl, _, _, rfl, t2, _, rfl, SqT.of (X1.fh _ _ ht2), rfl, _, _, rfl, _, _, rfl, _, _, rfl, rfl, _, _, rfl, rfl, ?_⟩
      -- changes[house, first] = changes.get((house, first), 0) + weight
      refine ⟨_, rfl, d, rfl, .inr ⟨kvs, .inl hd⟩, _, rfl, _, rfl, (by show 2 ≤ sizeLine; decide), fun k1 nk1 => ?_⟩
      have dk1 : d ≠ k1 := ne_of_none hd nk1
      have hd1 : upd H1 k1 (.tup [.int r.1, .int r.2.1]) d = some (.dT kvs) := by rw [upd_ne dk1]; exact hd
      refine ⟨_, DGet.t (k := kk (fstP r)) hd1 upd_same, _, rfl, v1, z, e1, rfl, _, rfl, _, rfl, _, rfl, (by show 2 ≤ sizeLine; decide), fun k2 nk2 => ?_⟩
      have dk2 : d ≠ k2 := ne_of_none hd1 nk2
      have hd2 : upd (upd H1 k1 (.tup [.int r.1, .int r.2.1])) k2 (.tup [.int r.1, .int r.2.1]) d = some (.dT kvs) := by rw [upd_ne dk2]; exact hd1
      refine ⟨d, _, rfl, DPut.t (k := kk (fstP r)) hd2 upd_same (by omega), ?_⟩
      have X2 := (((X1.tmp (o := .tup [.int r.1, .int r.2.1]) nk1).tmp (o := .tup [.int r.1, .int r.2.1]) nk2).put (o := .dT (putK kvs (kk (fstP r)) (.int (v1 + z)))) (.inl nd) fd0)
      have hd3 : upd (upd (upd H1 k1 (.tup [.int r.1, .int r.2.1])) k2 (.tup [.int r.1, .int r.2.1])) d (.dT (putK kvs (kk (fstP r)) (.int (v1 + z)))) d = some (.dT (putK kvs (kk (fstP r)) (.int (v1 + z)))) := upd_same
      revert hd3 X2
      generalize upd (upd (upd H1 k1 (.tup [.int r.1, .int r.2.1])) k2 (.tup [.int r.1, .int r.2.1])) d (.dT (putK kvs (kk (fstP r)) (.int (v1 + z)))) = H2
      intro X2 hd3
      -- changes[house, last + 1] = changes.get((house, last + 1), 0) - weight
      refine ⟨_, rfl, d, rfl, .inr ⟨_, .inl hd3⟩, _, rfl, _, rfl, _, _, rfl, rfl, (by show 2 ≤ sizeLine; decide), fun k3 nk3 => ?_⟩
      have dk3 : d ≠ k3 := ne_of_none hd3 nk3
      have hd4 : upd H2 k3 (.tup [.int r.1, .int (r.2.2 + 1)]) d = some (.dT (putK kvs (kk (fstP r)) (.int (v1 + z)))) := by rw [upd_ne dk3]; exact hd3
      refine ⟨_, DGet.t (k := kk (endP r)) hd4 upd_same, _, rfl, v2, z, e2, rfl, _, rfl, _, rfl, _, rfl, _, _, rfl, rfl, (by show 2 ≤ sizeLine; decide), fun k4 nk4 => ?_⟩
      have dk4 : d ≠ k4 := ne_of_none hd4 nk4
      have hd5 : upd (upd H2 k3 (.tup [.int r.1, .int (r.2.2 + 1)])) k4 (.tup [.int r.1, .int (r.2.2 + 1)]) d = some (.dT (putK kvs (kk (fstP r)) (.int (v1 + z)))) := by rw [upd_ne dk4]; exact hd4
      have lp : (putK kvs (kk (fstP r)) (.int (v1 + z))).length ≤ kvs.length + 1 := putK_le _ _ _
      refine ⟨d, _, rfl, DPut.t (k := kk (endP r)) hd5 upd_same (by omega), ?_⟩
      refine ⟨_, _, _, _, _, rfl, (((X2.tmp nk3).tmp nk4).put (.inl nd) fd0), upd_same, ?_⟩
      rw [List.take_add_one, hri]
      exact hc2
    · rintro σ H1 ⟨kvs, y2, y3, y4, y5, rfl, X1, hd, hc⟩
      refine ⟨_, rfl, q H1 d kvs X1 nd fd0 hd ?_⟩
      rw [pr_len hp, List.take_length] at hc
      exact hc
end
end Rw
namespace Rw
open PySem L2
theorem same_put {G H : Hp} {p : Addr} {o : HO} (s : Same G H) (g : G p = none) : Same G (upd H p o) := fun b u e => by
  rw [upd_ne (ne_of_none e g)]
  exact s b u e
/-- all but one place -/
def but (H : Hp) (o : Addr) : Hp := fun b => if b = o then none else H b
theorem but_same {H : Hp} {o : Addr} : Same (but H o) H := fun b u e => by
  unfold but at e
  by_cases h : b = o
  · rw [if_pos h] at e; cases e
  · rw [if_neg h] at e; exact e
theorem but_self {H : Hp} {o : Addr} : but H o o = none := if_pos rfl
theorem but_at {H : Hp} {o b : Addr} (h : b ≠ o) : but H o b = H b := if_neg h
theorem kPt_but {H : Hp} {o : Addr} {xs : List V} (ho : H o = some (.lst xs)) {v : V} {p : Pt} (h : kPt.is H v p) : kPt.is (but H o) v p := by
  obtain ⟨t, e, ht⟩ := h
  exact ⟨t, e, by rw [but_at (ne_of ht ho (by intro z; cases z))]; exact ht⟩
def sweepM (ws : List WRow) (least : Int) (ks : List Pt) : St := ks.foldl (stepM (chg ws) least) ⟨[], 0, 0⟩
theorem stepM_out (ch : Pt → Int) (least : Int) (s : St) (k : Pt) : (stepM ch least s k).out.length ≤ s.out.length + 1 := by
  unfold stepM
  split
  · exact Nat.le_succ _
  · split
    · simp
    · exact Nat.le_succ _
theorem sweepM_snoc (ws : List WRow) (least : Int) (ks : List Pt) (k : Pt) : sweepM ws least (ks ++ [k]) = stepM (chg ws) least (sweepM ws least ks) k := by
  unfold sweepM
  rw [List.foldl_append]
  rfl
theorem sweepM_len (ws : List WRow) (least : Int) (ks : List Pt) : (sweepM ws least ks).out.length ≤ ks.length := by
  have key : ∀ (ks : List Pt) (s : St), (ks.foldl (stepM (chg ws) least) s).out.length ≤ s.out.length + ks.length := by
    intro ks
    induction ks with
    | nil => intro s; exact Nat.le_refl _
    | cons k ks ih =>
      intro s
      have h1 := ih (stepM (chg ws) least s k)
      have h2 := stepM_out (chg ws) least s k
      rw [List.foldl_cons, List.length_cons]
      omega
  have h := key ks ⟨[], 0, 0⟩
  simp only [List.length_nil, Nat.zero_add] at h
  exact h
/-- what the sweep tells -/
structure Told (ws : List WRow) (least : Int) (out : List Row) : Prop where
  can : Canon out
  mem : ∀ p, mem out p ↔ least ≤ cover ws p
def spReaching : Sp := fun vs H Q _ => ∃ (F : Hp) (v : V) (ws : List WRow) (least : Int), vs = [v, .int least] ∧ Same F H ∧ (kL kW).is F v ws ∧ Wok ws ∧ ws.length ≤ 1000000 ∧ 0 < least ∧ RetL M0 F H kRow (Told ws least) Q
structure TxB (mg : Str → Option Value) : Prop where
  sorted : mg "sorted" = none
section
variable {P : Program} {w : World} {K : PySem.W.Frag} {mg : Str → Option Value} {base : Heap}
theorem ok_reaching {f : Addr} {fd : FuncData} (F0 : Fun K "reaching" "reaching" s_reaching f fd) (T : TxB mg) (CC : Cal P w K mg base 1 "changes_of" ["weighed"] spChangesOf) : FnOk P w K mg base CX0 2 f fd ["weighed", "least"] spReaching := by
  obtain ⟨f1, fd1, G1, g1, kp1, b1⟩ := CC
  refine F0.ok sc_reaching (fun vs H Q E h => ?_) (fun cdv A outer s H vs Q E hr h => ?_)
  · obtain ⟨F, v, ws, least, rfl, _⟩ := h
    rfl
  · obtain ⟨F, v, ws, least, rfl, fh, hv, hok, hlen, hle, q⟩ := h
    have hu := hu_of hr
    refine ⟨_, pss_cons (ps_set (i := 2) sc_reaching.nd rfl (.inl rfl) (pe_call G1 hr (by rfl) g1 kp1 b1 .nil pass0 (pa_cons (pv 0) pa_nil)))
      (pss_cons (ps_set (i := 3) sc_reaching.nd rfl (.inl rfl) (pe_lst pa_nil))
      (pss_cons (ps_set (i := 4) sc_reaching.nd rfl (.inl rfl) pe_int)
      (pss_cons (ps_set (i := 5) sc_reaching.nd rfl (.inl rfl) pe_int)
      (pss_cons (ps_for PassesOwn.never rfl (pi_list (pe_callB (cr_sortedDT (by rfl)) (by rfl) T.sorted (by decide +kernel) (pa_cons (pv 2) pa_nil)))
          (pg_tup rfl (pgs_cons (pg_name (i := 6) sc_reaching.nd rfl (.inl rfl)) (pgs_cons (pg_name (i := 7) sc_reaching.nd rfl (.inl rfl)) pgs_nil)))
        (pss_cons (ps_set (i := 8) sc_reaching.nd rfl (.inl rfl) (pv 4))
        (pss_cons (ps_set (i := 4) sc_reaching.nd rfl (.inl rfl) (pe_op op_add (pv 8) (pe_dget hu (pv 2) (pe_tup (pa_cons (pv 6) (pa_cons (pv 7) pa_nil))) (fun _ _ => rfl))))
        (pss_one (ps_if (pt_chain op_lt op_le (pv 8) (pv 1) (pv 4)) (pss_one (ps_set (i := 5) sc_reaching.nd rfl (.inl rfl) (pv 7)))
          (pss_one (ps_if (pt_chain op_lt op_le (pv 4) (pv 1) (pv 8))
            (pss_one (ps_expr (pe_bm PySem.F.plainAttrs_list PySem.F.slot_list_append PySem.F.type_list_append mt_append (pv 3) (pa_cons (pe_tup (pa_cons (pv 6) (pa_cons (pv 5) (pa_cons (pe_op op_sub (pv 7) pe_int) pa_nil)))) pa_nil)))) pss_nil)))))))
      (pss_one (ps_ret (pv 3))))))), ?_⟩
    refine ⟨_, rfl, F, v, ws, rfl, fh, hv, hok, hlen, fun H1 d kvs X1 nd fd hd hc => ?_⟩
    refine ⟨Nat.zero_le _, fun o no => ?_⟩
    have X2 := X1.tmp (o := .lst []) no
    have dno : d ≠ o := ne_of_none hd no
    have hd2 : upd H1 o (.lst []) d = some (.dT kvs) := by rw [upd_ne dno]; exact hd
    have ho2 : upd H1 o (.lst []) o = some (.lst []) := upd_same
    have Ho : H o = none := X1.free no
    have Fo : F o = none := X1.ffree no
    revert X2 hd2 ho2
    generalize upd H1 o (.lst []) = H2
    intro X2 hd2 ho2
    obtain ⟨ps, dd, hz, hh, hl⟩ := hc.ex
    refine ⟨_, rfl, d, kvs, ps, rfl, hd2, dd.keys, dd.nd, fun ys qs p hys hperm hsort np => ?_⟩
    have pno : o ≠ p := ne_of_none ho2 np
    have dnp : d ≠ p := ne_of_none hd2 np
    have X3 := X2.tmp (o := .lst ys) np
    have ho3 : upd H2 p (.lst ys) o = some (.lst []) := by rw [upd_ne pno]; exact ho2
    have hd3 : upd H2 p (.lst ys) d = some (.dT kvs) := by rw [upd_ne dnp]; exact hd2
    have hp3 : upd H2 p (.lst ys) p = some (.lst ys) := upd_same
    have hys3 : Paired (kPt.is (but (upd H2 p (.lst ys)) o)) ys qs := pr_mono (fun _ _ r => kPt_but ho3 (kPt.mono (same_upd np) r)) hys
    revert X3 ho3 hd3 hp3 hys3
    generalize upd H2 p (.lst ys) = H3
    intro X3 ho3 hd3 hp3 hys3
    have gd : but H3 o d = some (.dT kvs) := by rw [but_at dno]; exact hd3
    have gp : but H3 o p = some (.lst ys) := by rw [but_at pno.symm]; exact hp3
    have go : but H3 o o = none := but_self
    have gs : Same (but H3 o) H3 := but_same
    revert gd gp go gs hys3
    generalize but H3 o = G
    intro hys3 gd gp go gs
    have lq : qs.length ≤ 2 * ws.length := by rw [hperm.length_eq]; exact hl
    refine ⟨p, rfl, ⟨ys, SqL.of (gs _ _ gp)⟩, for_list (K := K) (a := p) (xs := ys) (fun i σ H' => ∃ F' outs y6 y7 y8, σ = [some v, some (.int least), some (.ref d), some (.ref o), some (.int (sweepM ws least (qs.take i)).total), some (.int (sweepM ws least (qs.take i)).start), y6, y7, y8] ∧
        Ext M0 F H F' H' ∧ Same G H' ∧ F' o = none ∧ H' o = some (.lst outs) ∧ Paired (kRow.is F') outs (sweepM ws least (qs.take i)).out)
      ⟨F, [], none, none, none, rfl, X3, gs, Fo, ho3, .nil⟩ (fun i σ H' _ ⟨_, _, _, _, _, _, _, s1, _⟩ => SqL.of (s1 _ _ gp)) ?_ ?_⟩
    · rintro i x σ H' hi ⟨F', outs, y6, y7, y8, rfl, X4, s4, fo, hout, hpr⟩
      obtain ⟨k, hk, t, rfl, ht⟩ := pr_get hys3 hi
      have kps : k ∈ ps := hperm.mem_iff.mp (List.mem_of_getElem? hk)
      have hval : valV kvs (kk k) = some (.int (chg ws k)) := by rw [dd.val k, if_pos kps]
      have hst : sweepM ws least (qs.take (i + 1)) = stepM (chg ws) least (sweepM ws least (qs.take i)) k := by
        rw [List.take_add_one, hk, ← sweepM_snoc]
        rfl
      have hlo : outs.length ≤ 2 * ws.length := by
        have h1 := sweepM_len ws least (qs.take i)
        have h2 : (qs.take i).length ≤ qs.length := List.length_take_le' i qs
        rw [pr_len hpr]
        omega
      revert hpr hst
      generalize sweepM ws least (qs.take i) = st
      intro hpr hst
      refine ⟨t, _, rfl, SqT.of (s4 _ _ ht), rfl, _, _, rfl, _, _, rfl, rfl, ?_⟩
      refine ⟨_, rfl, _, rfl, _, rfl, _, rfl, _, rfl, (by show 2 ≤ sizeLine; decide), fun k1 nk1 => ?_⟩
      have hd4 : H' d = some (.dT kvs) := s4 _ _ gd
      have dk1 : d ≠ k1 := ne_of_none hd4 nk1
      have ok1 : o ≠ k1 := ne_of_none hout nk1
      have e5 : upd H' k1 (.tup [.int k.1, .int k.2]) d = some (.dT kvs) := by rw [upd_ne dk1]; exact hd4
      refine ⟨d, _, rfl, hval ▸ DGet.t (k := kk k) e5 upd_same, _, _, rfl, rfl, ?_⟩
      have X5 := X4.tmp (o := .tup [.int k.1, .int k.2]) nk1
      have s5 : Same G (upd H' k1 (.tup [.int k.1, .int k.2])) := s4.trans (same_upd nk1)
      have ho5 : upd H' k1 (.tup [.int k.1, .int k.2]) o = some (.lst outs) := by rw [upd_ne ok1]; exact hout
      revert X5 s5 ho5
      generalize upd H' k1 (.tup [.int k.1, .int k.2]) = H5
      intro X5 s5 ho5
      by_cases c1 : st.total < least
      · by_cases c2 : least ≤ st.total + chg ws k
        · have es : sweepM ws least (qs.take (i + 1)) = ⟨st.out, st.total + chg ws k, k.2⟩ := by rw [hst]; unfold stepM; rw [if_pos ⟨c1, c2⟩]
          refine ⟨_, rfl, _, rfl, _, _, rfl, rfl, _, rfl, ?_⟩
          rw [decide_eq_true c1]
          refine iteT ⟨_, rfl, _, _, rfl, rfl, _, rfl, ?_⟩
          rw [decide_eq_true c2]
          refine iteT ⟨_, rfl, F', outs, some (.int k.1), some (.int k.2), some (.int st.total), ?_, X5, s5, fo, ho5, ?_⟩
          · rw [es]; rfl
          · rw [es]; exact hpr
        · have es : sweepM ws least (qs.take (i + 1)) = ⟨st.out, st.total + chg ws k, st.start⟩ := by
            rw [hst]; unfold stepM; rw [if_neg (fun z => c2 z.2), if_neg (fun z => absurd z.2 (by omega))]
          refine ⟨_, rfl, _, rfl, _, _, rfl, rfl, _, rfl, ?_⟩
          rw [decide_eq_true c1]
          refine iteT ⟨_, rfl, _, _, rfl, rfl, _, rfl, ?_⟩
          rw [decide_eq_false c2]
          refine iteF ⟨_, rfl, _, rfl, _, _, rfl, rfl, _, rfl, ?_⟩
          rw [decide_eq_true (show st.total + chg ws k < least by omega)]
          refine iteT ⟨_, rfl, _, _, rfl, rfl, _, rfl, ?_⟩
          rw [decide_eq_false (show ¬ least ≤ st.total by omega)]
          refine iteF ⟨F', outs, some (.int k.1), some (.int k.2), some (.int st.total), ?_, X5, s5, fo, ho5, ?_⟩
          · rw [es]; rfl
          · rw [es]; exact hpr
      · by_cases c2 : st.total + chg ws k < least
        · have es : sweepM ws least (qs.take (i + 1)) = ⟨st.out ++ [(k.1, st.start, k.2 - 1)], st.total + chg ws k, st.start⟩ := by
            rw [hst]; unfold stepM; rw [if_neg (fun z => c1 z.1), if_pos ⟨c2, by omega⟩]
          refine ⟨_, rfl, _, rfl, _, _, rfl, rfl, _, rfl, ?_⟩
          rw [decide_eq_false c1]
          refine iteF ⟨_, rfl, iteF ⟨_, rfl, _, rfl, _, _, rfl, rfl, _, rfl, ?_⟩⟩
          rw [decide_eq_true c2]
          refine iteT ⟨_, rfl, _, _, rfl, rfl, _, rfl, ?_⟩
          rw [decide_eq_true (show least ≤ st.total by omega)]
          refine iteT ⟨_, rfl, .inl ⟨rfl, _, SqL.of ho5⟩, _, rfl, _, rfl, _, rfl, _, _, rfl, rfl, (by show 3 ≤ sizeLine; decide), fun t6 nt6 => ?_⟩
          have ot6 : o ≠ t6 := ne_of_none ho5 nt6
          refine ⟨o, outs, _, rfl, rfl, by rw [upd_ne ot6]; exact ho5, by rw [sizeLine_eq]; omega, ?_⟩
          have fo6 : upd F' t6 (.tup [.int k.1, .int st.start, .int (k.2 - 1)]) o = none := by rw [upd_ne ot6]; exact fo
          refine ⟨upd F' t6 (.tup [.int k.1, .int st.start, .int (k.2 - 1)]), outs ++ [.ref t6], some (.int k.1), some (.int k.2), some (.int st.total), ?_, (X5.lay nt6).put (.inl Ho) fo6, same_put (s5.trans (same_upd nt6)) go, fo6, upd_same, ?_⟩
          · rw [es]; rfl
          · rw [es]
            exact pr_snoc (pr_mono (fun _ _ r => kRow.mono (same_upd (X5.ffree nt6)) r) hpr) ⟨t6, rfl, upd_same⟩
        · have es : sweepM ws least (qs.take (i + 1)) = ⟨st.out, st.total + chg ws k, st.start⟩ := by
            rw [hst]; unfold stepM; rw [if_neg (fun z => c1 z.1), if_neg (fun z => c2 z.1)]
          refine ⟨_, rfl, _, rfl, _, _, rfl, rfl, _, rfl, ?_⟩
          rw [decide_eq_false c1]
          refine iteF ⟨_, rfl, iteF ⟨_, rfl, _, rfl, _, _, rfl, rfl, _, rfl, ?_⟩⟩
          rw [decide_eq_false c2]
          refine iteF ⟨_, rfl, iteF ⟨F', outs, some (.int k.1), some (.int k.2), some (.int st.total), ?_, X5, s5, fo, ho5, ?_⟩⟩
          · rw [es]; rfl
          · rw [es]; exact hpr
    · rintro σ H' ⟨F', outs, y6, y7, y8, rfl, X4, s4, fo, hout, hpr⟩
      rw [pr_len hys3, List.take_length] at hpr
      obtain ⟨a1, a2⟩ := sweep hle hok hsort (fun x hx => ⟨hperm.mem_iff.mpr (hh x hx).1, hperm.mem_iff.mpr (hh x hx).2⟩) 0
      refine ⟨_, rfl, q F' H' o outs _ X4 Ho fo hout hpr ⟨a1, a2⟩⟩
end
end Rw
namespace Rw
open PySem L2
/-! ### how long what is told can be; its rows are rows -/
theorem nodup_sub {α : Type} [DecidableEq α] : ∀ (l D : List α), l.Nodup → (∀ x ∈ l, x ∈ D) → l.length ≤ D.length
  | [], _, _, _ => Nat.zero_le _
  | x :: l, D, hn, h => by
    have h1 := List.nodup_cons.mp hn
    have hx := h x List.mem_cons_self
    have ih := nodup_sub l (D.erase x) h1.2 fun y hy => by
      have ne : y ≠ x := fun e => h1.1 (e ▸ hy)
      exact (List.mem_erase_of_ne ne).mpr (h y (List.mem_cons_of_mem _ hy))
    rw [List.length_erase_of_mem hx] at ih
    have : 0 < D.length := List.length_pos_of_mem hx
    rw [List.length_cons]
    omega
theorem S_drop {f g : Row → Int} : ∀ {ws : List WRow}, S f ws < S g ws → ∃ x ∈ ws, x.2 * f x.1 < x.2 * g x.1
  | [], h => by simp [S] at h
  | (r, w) :: ws, h => by
    by_cases c : w * f r < w * g r
    · exact ⟨_, List.mem_cons_self, c⟩
    · have h' : w * f r + S f ws < w * g r + S g ws := h
      obtain ⟨x, hx, e⟩ := S_drop (f := f) (g := g) (ws := ws) (by omega)
      exact ⟨x, List.mem_cons_of_mem _ hx, e⟩
/-- where a weighed row can end a told one -/
def stopP (x : WRow) : Pt := if 0 < x.2 then endP x.1 else fstP x.1
theorem Canon.ends {out : List Row} (c : Canon out) : (out.map endP).Nodup := by
  refine List.pairwise_map.mpr (c.ord.imp_of_mem fun {r s} hr hs b e => ?_)
  have o := c.ok s hs
  have e1 := congrArg Prod.fst e
  have e2 := congrArg Prod.snd e
  unfold endP at e1 e2
  simp only at e1 e2
  unfold before at b
  omega
theorem Canon.gap {out : List Row} (c : Canon out) {r : Row} (hr : r ∈ out) : ¬ mem out (endP r) := by
  rintro ⟨s, hs, i1, i2, i3⟩
  unfold endP at i1 i2 i3
  simp only at i1 i2 i3
  rcases Classical.em (r = s) with e | e
  · subst e; omega
  · have key : before r s ∨ before s r := by
      obtain ⟨i, hi, ei⟩ := List.getElem_of_mem hr
      obtain ⟨j, hj, ej⟩ := List.getElem_of_mem hs
      have p := List.pairwise_iff_getElem.mp c.ord
      rcases Nat.lt_trichotomy i j with l | l | l
      · exact .inl (by have := p i j hi hj l; rw [ei, ej] at this; exact this)
      · subst l; exact absurd (ei.symm.trans ej) e
      · exact .inr (by have := p j i hj hi l; rw [ei, ej] at this; exact this)
    have o := c.ok r hr
    have o2 := c.ok s hs
    unfold before at key
    omega
theorem Canon.last {out : List Row} (c : Canon out) {r : Row} (hr : r ∈ out) : mem out (r.1, r.2.2) := ⟨r, hr, rfl, c.ok r hr, Int.le_refl _⟩
theorem Canon.first {out : List Row} (c : Canon out) {r : Row} (hr : r ∈ out) : mem out (r.1, r.2.1) := ⟨r, hr, rfl, Int.le_refl _, c.ok r hr⟩
theorem Told.len {ws : List WRow} {least : Int} {out : List Row} (t : Told ws least out) : out.length ≤ ws.length := by
  have h := nodup_sub (out.map endP) (ws.map stopP) t.can.ends fun p hp => by
    obtain ⟨r, hr, rfl⟩ := List.mem_map.mp hp
    have a := (t.mem _).mp (t.can.last hr)
    have b : ¬ least ≤ cover ws (endP r) := fun z => t.can.gap hr ((t.mem _).mpr z)
    obtain ⟨x, hx, e⟩ := S_drop (f := fun s => ind (inRow s (endP r))) (g := fun s => ind (inRow s (r.1, r.2.2))) (ws := ws) (by unfold cover at a b; omega)
    refine List.mem_map.mpr ⟨x, hx, ?_⟩
    obtain ⟨s, w⟩ := x
    simp only at e
    unfold stopP
    rcases ind_or (inRow s (endP r)) with ⟨u1, e1⟩ | ⟨u1, e1⟩ <;> rcases ind_or (inRow s (r.1, r.2.2)) with ⟨u2, e2⟩ | ⟨u2, e2⟩ <;> rw [e1, e2] at e
    · omega
    · rw [if_neg (show ¬ 0 < w by omega)]
      unfold inRow endP at u1
      unfold inRow at u2
      unfold fstP endP
      simp only at u1 u2 ⊢
      exact Prod.ext (by simp only; omega) (by simp only; omega)
    · rw [if_pos (show 0 < w by omega)]
      unfold inRow endP at u1
      unfold inRow at u2
      unfold endP
      simp only at u1 u2 ⊢
      exact Prod.ext (by simp only; omega) (by simp only; omega)
    · omega
  rw [List.length_map, List.length_map] at h
  exact h
def InBox (p : Pt) : Prop := 0 ≤ p.1 ∧ p.1 ≤ 7 ∧ 1 ≤ p.2 ∧ p.2 ≤ LIM
theorem RowOk.box {r : Row} (h : RowOk r) {p : Pt} (i : inRow r p) : InBox p := by
  obtain ⟨a, b, c, d, e⟩ := h
  obtain ⟨i1, i2, i3⟩ := i
  unfold InBox
  omega
theorem rows_box {rs : List Row} (h : ∀ r ∈ rs, RowOk r) {p : Pt} (m : mem rs p) : InBox p := by
  obtain ⟨r, hr, i⟩ := m
  exact (h r hr).box i
theorem canon_ok {out : List Row} (c : Canon out) (h : ∀ p, mem out p → InBox p) : ∀ r ∈ out, RowOk r := fun r hr => by
  have a := h _ (c.last hr)
  have b := h _ (c.first hr)
  have o := c.ok r hr
  unfold InBox at a b
  unfold RowOk
  simp only at a b
  omega
/-! ### what the sums come to -/
def once (rs : List Row) : List WRow := rs.map fun r => (r, 1)
theorem cover_once (rs : List Row) (p : Pt) : 0 ≤ cover (once rs) p ∧ (1 ≤ cover (once rs) p ↔ mem rs p) := by
  induction rs with
  | nil => exact ⟨Int.le_refl _, fun h => absurd h (by show ¬ (1 : Int) ≤ 0; omega), fun h => absurd h mem_nil⟩
  | cons r rs ih =>
    have e : cover (once (r :: rs)) p = 1 * ind (inRow r p) + cover (once rs) p := rfl
    rw [e, mem_cons]
    rcases ind_or (inRow r p) with ⟨u, eu⟩ | ⟨u, eu⟩ <;> rw [eu]
    · exact ⟨by omega, fun _ => .inl u, fun _ => by omega⟩
    · refine ⟨by omega, fun h => .inr (ih.2.mp (by omega)), fun h => ?_⟩
      have := ih.2.mpr (h.resolve_left u)
      omega
instance (rs : List Row) (p : Pt) : Decidable (mem rs p) := by unfold mem; infer_instance
/-- of a canonical list each point is covered at most once -/
theorem cover_canon {rs : List Row} (c : Canon rs) (p : Pt) : cover (once rs) p = ind (mem rs p) := by
  induction rs with
  | nil => exact (ind_neg mem_nil).symm
  | cons r rs ih =>
    have e : cover (once (r :: rs)) p = 1 * ind (inRow r p) + cover (once rs) p := rfl
    rw [e, ih c.tail]
    rcases ind_or (inRow r p) with ⟨u, eu⟩ | ⟨u, eu⟩ <;> rw [eu]
    · have n : ¬ mem rs p := fun m => by
        have := c.later m
        obtain ⟨i1, i2, i3⟩ := u
        omega
      rw [ind_neg n, ind_pos (mem_cons.mpr (.inl u))]
      omega
    · by_cases m : mem rs p
      · rw [ind_pos m, ind_pos (mem_cons.mpr (.inr m))]; omega
      · rw [ind_neg m, ind_neg (fun z => (mem_cons.mp z).elim u m)]; omega
end Rw
namespace Rw
open PySem L2
/-! ### loops of comprehensions, by a walk -/
theorem it_by {J : It} {n : Nat} {G : Hp → Prop} {Y : Nat → Hp → V → Hp → Prop} (w : Walk J n G Y) {B : (Hp → Prop) → V → Hp → Prop} {H0 : Hp} {Qd : Hp → Prop} (Pv : Nat → Hp → Prop) (h0 : Pv 0 H0)
    (hG : ∀ i H, i ≤ n → Pv i H → G H) (hs : ∀ i x H H', i < n → Pv i H → Y i H x H' → B (Pv (i + 1)) x H') (hd : ∀ H, Pv n H → Qd H) :
    ∃ W : Nat → Nat → Hp → Prop, (∃ m, W 0 m H0) ∧ ∀ i m H, W i m H →
      (J.stop i H ∧ Qd H) ∨ (J.go i H ∧ ∃ Nx : Hp → Prop, (∀ H', Nx H' → ∃ m', m' < m ∧ W (i + 1) m' H') ∧ ∀ x H', J.yld i H x H' → B Nx x H') := by
  refine ⟨fun i m H => m = n - i ∧ i ≤ n ∧ Pv i H, ⟨n, by simp, Nat.zero_le _, h0⟩, ?_⟩
  rintro i m H ⟨rfl, hi, p⟩
  have g := hG i H hi p
  by_cases c : i < n
  · exact .inr ⟨w.goes i H c g, Pv (i + 1), fun H' p' => ⟨n - (i + 1), by omega, rfl, c, p'⟩, fun x H' y => hs i x H H' c p (w.yields i H x H' c g y)⟩
  · obtain rfl : i = n := by omega
    exact .inl ⟨w.stops H g, hd H p⟩
theorem RetL.step {α : Type} {M : Addr → Prop} {F H F1 H1 : Hp} {k : Kd α} {φ ψ : List α → Prop} {Q : VK} (X : Ext M F H F1 H1) (q : RetL M F H k ψ Q) (h : ∀ xs, φ xs → ψ xs) : RetL M0 F1 H1 k φ Q :=
  fun F' H' a vs xs X' ha fa hl hp hx => q F' H' a vs xs (X.trans X'.up) (X.free ha) fa hl hp (h xs hx)
/-- how many of some sets hold a point -/
def cnt : List (List Row) → Pt → Int
  | [], _ => 0
  | rs :: sets, p => ind (mem rs p) + cnt sets p
def total : List (List Row) → Nat
  | [] => 0
  | rs :: sets => rs.length + total sets
theorem cnt_snoc (p : Pt) (rs : List Row) : ∀ sets : List (List Row), cnt (sets ++ [rs]) p = cnt sets p + ind (mem rs p)
  | [] => by show ind _ + 0 = 0 + ind _; omega
  | x :: sets => by
    show ind _ + cnt (sets ++ [rs]) p = ind _ + cnt sets p + ind _
    rw [cnt_snoc p rs sets]; omega
theorem total_snoc (rs : List Row) : ∀ sets : List (List Row), total (sets ++ [rs]) = total sets + rs.length
  | [] => by show rs.length + 0 = 0 + rs.length; omega
  | x :: sets => by
    show x.length + total (sets ++ [rs]) = x.length + total sets + rs.length
    rw [total_snoc rs sets]; omega
theorem total_take (sets : List (List Row)) (i : Nat) : total (sets.take i) ≤ total sets := by
  induction sets generalizing i with
  | nil => simp [total]
  | cons x sets ih =>
    cases i with
    | zero => simp [total]
    | succ i =>
      have := ih i
      show x.length + total (sets.take i) ≤ x.length + total sets
      omega
def Valid (rs : List Row) : Prop := ∀ r ∈ rs, r.2.1 ≤ r.2.2
theorem wok_once {rs : List Row} (h : Valid rs) : Wok (once rs) := fun x hx => by
  obtain ⟨r, hr, rfl⟩ := List.mem_map.mp hx
  exact h r hr
structure Fewest (rs out : List Row) : Prop where
  can : Canon out
  mem : ∀ p, mem out p ↔ mem rs p
  len : out.length ≤ rs.length
def spFewest : Sp := fun vs H Q _ => ∃ (F : Hp) (v : V) (rs : List Row), vs = [v] ∧ Same F H ∧ (kL kRow).is F v rs ∧ Valid rs ∧ rs.length ≤ 100000 ∧ RetL M0 F H kRow (Fewest rs) Q
structure Held (sets : List (List Row)) (least : Int) (out : List Row) : Prop where
  can : Canon out
  mem : ∀ p, mem out p ↔ least ≤ cnt sets p
  len : out.length ≤ total sets
def spHeld : Sp := fun vs H Q _ => ∃ (F : Hp) (v : V) (sets : List (List Row)) (least : Int), vs = [v, .int least] ∧ Same F H ∧ (kL (kL kRow)).is F v sets ∧ (∀ rs ∈ sets, Valid rs) ∧ total sets ≤ 100000 ∧ 0 < least ∧ RetL M0 F H kRow (Held sets least) Q
structure Without (one other out : List Row) : Prop where
  can : Canon out
  mem : ∀ p, mem out p ↔ mem one p ∧ ¬ mem other p
  len : out.length ≤ one.length + other.length
def spWithout : Sp := fun vs H Q _ => ∃ (F : Hp) (v u : V) (one other : List Row), vs = [v, u] ∧ Same F H ∧ (kL kRow).is F v one ∧ (kL kRow).is F u other ∧ Valid one ∧ Valid other ∧ one.length ≤ 50000 ∧ other.length ≤ 50000 ∧ RetL M0 F H kRow (Without one other) Q
theorem once_len (rs : List Row) : (once rs).length = rs.length := List.length_map ..
theorem told_fewest {rs out : List Row} (t : Told (once rs) 1 out) : Fewest rs out := ⟨t.can, fun p => (t.mem p).trans (cover_once rs p).2, by have := t.len; rw [once_len] at this; exact this⟩
section
variable {P : Program} {w : World} {K : PySem.W.Frag} {mg : Str → Option Value} {base : Heap}
theorem ok_fewest {f : Addr} {fd : FuncData} (F0 : Fun K "fewest" "fewest" s_fewest f fd) (CR : Cal P w K mg base 2 "reaching" ["weighed", "least"] spReaching) : FnOk P w K mg base CX0 3 f fd ["rows"] spFewest := by
  obtain ⟨f1, fd1, G1, g1, kp1, b1⟩ := CR
  refine F0.ok sc_fewest (fun vs H Q E h => ?_) (fun cdv A outer s H vs Q E hr h => ?_)
  · obtain ⟨F, v, rs, rfl, _⟩ := h
    rfl
  · obtain ⟨F, v, rs, rfl, fh, ⟨a, xs, rfl, ha, hp⟩, hval, hlen, q⟩ := h
    refine ⟨_, pss_one (ps_ret (pe_call G1 hr (by rfl) g1 kp1 b1 .nil pass0 (pa_cons (pe_lc (own := [("row", 1)]) (g := gName 1) (tt := tYes) (by rfl) sc_fewest.nd (pi_list (pv 0))
      (blkOk_by (own := [("row", 1)]) (N := ["rows", "row"]) (sc := defScope s_fewest) (by decide +kernel)) (fun _ _ _ _ _ => pg_name (i := 1) sc_fewest.nd rfl (Or.inl rfl)) (fun _ _ _ _ _ => pts_nil)
      (fun _ _ _ _ _ => pe_tup (pa_cons (pv 1) (pa_cons pe_int pa_nil)))) (pa_cons pe_int pa_nil)))), ?_⟩
    refine ⟨_, rfl, a, rfl, ⟨_, SqL.of (fh _ _ ha)⟩, fun D nD => ?_⟩
    have fD : F D = none := fh.free nD
    refine it_by (walk_list (K := K) (a := a) (xs := xs)) (fun i H' => ∃ F' acc, Ext M0 F H F' H' ∧ H' D = some (.lst acc) ∧ F' D = none ∧ Paired (kW.is F') acc (once (rs.take i)))
      ⟨F, [], (Ext.refl fh).tmp nD, upd_same, fD, .nil⟩ (fun i H' _ ⟨_, _, X1, _⟩ => SqL.of (X1.fh _ _ (X1.ff _ _ ha))) ?_ ?_
    · rintro i x H1 _ hi ⟨F', acc, X1, hD, fD', hacc⟩ ⟨rfl, hx⟩
      obtain ⟨r, hri, hr1⟩ := pr_get hp hx
      refine ⟨rfl, ?_⟩
      refine ⟨_, rfl, (by show 2 ≤ sizeLine; decide), fun t nt => ?_⟩
      have Dt : D ≠ t := ne_of_none hD nt
      have la : acc.length ≤ rs.length := by rw [pr_len hacc, once_len]; exact List.length_take_le' i rs
      refine ⟨acc, by rw [upd_ne Dt]; exact hD, by rw [sizeLine_eq]; omega, ?_⟩
      have fD2 : upd F' t (.tup [x, .int 1]) D = none := by rw [upd_ne Dt]; exact fD'
      refine ⟨upd F' t (.tup [x, .int 1]), acc ++ [.ref t], (X1.lay nt).put (.inl nD) fD2, upd_same, fD2, ?_⟩
      rw [List.take_add_one, hri]
      have e : once (rs.take i ++ [r]) = once (rs.take i) ++ [(r, 1)] := List.map_append ..
      show Paired _ _ (once (rs.take i ++ [r]))
      rw [e]
      have sm : Same F' (upd F' t (.tup [x, .int 1])) := same_upd (X1.ffree nt)
      exact pr_snoc (pr_mono (fun _ _ z => kW.mono sm z) hacc) ⟨t, x, rfl, upd_same, kRow.mono (X1.ff.trans sm) hr1⟩
    · rintro H1 ⟨F', acc, X1, hD, fD', hacc⟩
      rw [pr_len hp, List.take_length] at hacc
      have X2 := X1.frz nD fD' hD
      refine ⟨upd F' D (.lst acc), .ref D, once rs, 1, rfl, X2.fh, kL_new fD' hacc, wok_once hval, by rw [once_len]; omega, by decide, RetL.step X2 q fun out t => told_fewest t⟩
end
end Rw
namespace Rw
open PySem L2
theorem kLL_get {α : Type} {k : Kd α} {F : Hp} {vs : List V} {xss : List (List α)} {i : Nat} {v : V} (h : Paired ((kL k).is F) vs xss) (e : vs[i]? = some v) : ∃ xs, xss[i]? = some xs ∧ (kL k).is F v xs := pr_get h e
theorem cover_append (as bs : List WRow) (p : Pt) : cover (as ++ bs) p = cover as p + cover bs p := S_append _ as bs
theorem wok_append {as bs : List WRow} (h : Wok as) (h' : Wok bs) : Wok (as ++ bs) := fun x hx => (List.mem_append.mp hx).elim (h x) (h' x)
theorem once_snoc (rs : List Row) (r : Row) : once (rs ++ [r]) = once rs ++ [(r, 1)] := List.map_append ..
theorem valid_canon {rs : List Row} (c : Canon rs) : Valid rs := c.ok
def anti (rs : List Row) : List WRow := rs.map fun r => (r, -1)
theorem cover_anti (rs : List Row) (p : Pt) : cover (anti rs) p = - cover (once rs) p := by
  induction rs with
  | nil => rfl
  | cons r rs ih =>
    have e1 : cover (anti (r :: rs)) p = -1 * ind (inRow r p) + cover (anti rs) p := rfl
    have e2 : cover (once (r :: rs)) p = 1 * ind (inRow r p) + cover (once rs) p := rfl
    rw [e1, e2, ih]; omega
theorem wok_anti {rs : List Row} (h : Valid rs) : Wok (anti rs) := fun x hx => by
  obtain ⟨r, hr, rfl⟩ := List.mem_map.mp hx
  exact h r hr
theorem told_without {one other kept out : List Row} (k : Fewest one kept) (t : Told (once kept ++ anti other) 1 out) : Without one other out := by
  refine ⟨t.can, fun p => ?_, ?_⟩
  · rw [t.mem p, cover_append, cover_anti, cover_canon k.can, ← k.mem p]
    have c := cover_once other p
    rcases ind_or (mem kept p) with ⟨u, eu⟩ | ⟨u, eu⟩ <;> rw [eu]
    · constructor
      · intro h; exact ⟨u, fun z => by have := c.2.mpr z; omega⟩
      · intro h
        have : ¬ 1 ≤ cover (once other) p := fun z => h.2 (c.2.mp z)
        omega
    · exact ⟨fun h => by omega, fun h => absurd h.1 u⟩
  · have h := t.len
    rw [List.length_append, once_len] at h
    have e : (anti other).length = other.length := List.length_map ..
    have := k.len
    omega
section
variable {P : Program} {w : World} {K : PySem.W.Frag} {mg : Str → Option Value} {base : Heap}
theorem ok_held_by_many {f : Addr} {fd : FuncData} (F0 : Fun K "held_by_many" "held_by_many" s_held_by_many f fd) (CR : Cal P w K mg base 2 "reaching" ["weighed", "least"] spReaching) (CF : Cal P w K mg base 3 "fewest" ["rows"] spFewest) :
    FnOk P w K mg base CX0 4 f fd ["sets", "least"] spHeld := by
  obtain ⟨f1, fd1, G1, g1, kp1, b1⟩ := CR
  obtain ⟨f2, fd2, G2, g2, kp2, b2⟩ := CF
  refine F0.ok sc_held_by_many (fun vs H Q E h => ?_) (fun cdv A outer s H vs Q E hr h => ?_)
  · obtain ⟨F, v, sets, least, rfl, _⟩ := h
    rfl
  · obtain ⟨F, v, sets, least, rfl, fh, ⟨a, xs, rfl, ha, hp⟩, hval, hlen, hle, q⟩ := h
    have hr1 : Room 2 _ := hr.mono (by decide)
    refine ⟨_, pss_one (ps_ret (pe_call G1 hr1 (by rfl) g1 kp1 b1 .nil pass0 (pa_cons (pe_lc2 (own := [("rows", 2), ("row", 3)]) (g := gName 2) (tt := tYes) (wi1 := iList K (tCall spFewest [] E0 (tCons (tVar 2) tNil))) (g1 := gName 3) (tt1 := tYes) (vs1 := [3]) (by rfl) sc_held_by_many.nd (pi_list (pv 0))
      (blkOk_by (own := [("rows", 2), ("row", 3)]) (N := ["sets", "least", "rows", "row"]) (sc := defScope s_held_by_many) (by decide +kernel)) (by decide)
      (fun _ _ _ _ _ => pg_name (i := 2) sc_held_by_many.nd rfl (Or.inl rfl)) (fun _ _ _ _ _ => pts_nil)
      (fun _ _ _ _ _ => pi_list (pe_call G2 hr (by rfl) g2 kp2 b2 .nil pass0 (pa_cons (pv 2) pa_nil)))
      (fun _ _ _ _ _ => pg_name (i := 3) sc_held_by_many.nd rfl (Or.inl rfl)) (fun _ _ _ _ _ => pts_nil)
      (fun _ _ _ _ _ => pe_tup (pa_cons (pv 3) (pa_cons pe_int pa_nil)))) (pa_cons (pv 1) pa_nil)))), ?_⟩
    refine ⟨_, rfl, a, rfl, ⟨_, SqL.of (fh _ _ ha)⟩, fun D nD => ?_⟩
    have fD : F D = none := fh.free nD
    refine it_by (walk_list (K := K) (a := a) (xs := xs)) (fun i H' => ∃ F' acc ws, Ext M0 F H F' H' ∧ H' D = some (.lst acc) ∧ F' D = none ∧ Paired (kW.is F') acc ws ∧ Wok ws ∧ (∀ p, cover ws p = cnt (sets.take i) p) ∧ ws.length ≤ total (sets.take i))
      ⟨F, [], [], (Ext.refl fh).tmp nD, upd_same, fD, .nil, fun x h => absurd h (by simp), fun _ => rfl, Nat.le_refl _⟩ (fun i H' _ ⟨_, _, _, X1, _⟩ => SqL.of (X1.fh _ _ (X1.ff _ _ ha))) ?_ ?_
    · rintro i x H1 _ hi ⟨F', acc, ws, X1, hD, fD', hacc, wok, hcov, hwl⟩ ⟨rfl, hx⟩
      obtain ⟨rs, hri, hrs⟩ := pr_get hp hx
      have hrm : rs ∈ sets := List.mem_of_getElem? hri
      have et : sets.take (i + 1) = sets.take i ++ [rs] := by rw [List.take_add_one, hri]; rfl
      have tl : total (sets.take i) + rs.length ≤ 100000 := by
        have h1 := total_take sets (i + 1)
        rw [et, total_snoc] at h1
        omega
      refine ⟨rfl, _, rfl, F', x, rs, rfl, X1.fh, (kL kRow).mono X1.ff hrs, hval rs hrm, by omega, fun F2 H2 b vs out X2 nb fb hb hout fw => ?_⟩
      refine ⟨b, rfl, ⟨vs, SqL.of hb⟩, ?_⟩
      have X3 := X1.trans X2
      have hD2 : H2 D = some (.lst acc) := X2.same _ _ hD
      have fD2 : F2 D = none := by rw [X2.new D (by rw [hD]; simp)]; exact fD'
      refine it_by (walk_list (K := K) (a := b) (xs := vs)) (fun j H' => ∃ F3 acc3, Ext M0 F H F3 H' ∧ H' D = some (.lst acc3) ∧ F3 D = none ∧ H' b = some (.lst vs) ∧ F3 b = none ∧ Paired (kRow.is F3) vs out ∧ Paired (kW.is F3) acc3 (ws ++ once (out.take j)))
        ⟨F2, acc, X3, hD2, fD2, hb, fb, hout, by rw [show once (out.take 0) = [] from rfl, List.append_nil]; exact pr_mono (fun _ _ z => kW.mono X2.ff z) hacc⟩ (fun j H' _ ⟨_, _, _, _, _, z, _⟩ => SqL.of z) ?_ ?_
      · rintro j y H3 _ hj ⟨F3, acc3, X4, hD3, fD3, hb3, fb3, hout3, hacc3⟩ ⟨rfl, hy⟩
        obtain ⟨r, hrj, hr3⟩ := pr_get hout3 hy
        refine ⟨rfl, _, rfl, (by show 2 ≤ sizeLine; decide), fun t nt => ?_⟩
        have Dt : D ≠ t := ne_of_none hD3 nt
        have bt : b ≠ t := ne_of_none hb3 nt
        have Db : b ≠ D := fun e => by rw [e] at nb; rw [nb] at hD; cases hD
        have la : acc3.length ≤ 100000 := by
          rw [pr_len hacc3, List.length_append, once_len]
          have h1 := List.length_take_le' j out
          have := fw.len
          omega
        refine ⟨acc3, by rw [upd_ne Dt]; exact hD3, by rw [sizeLine_eq]; omega, ?_⟩
        have fD4 : upd F3 t (.tup [y, .int 1]) D = none := by rw [upd_ne Dt]; exact fD3
        have sm : Same F3 (upd F3 t (.tup [y, .int 1])) := same_upd (X4.ffree nt)
        refine ⟨upd F3 t (.tup [y, .int 1]), acc3 ++ [.ref t], (X4.lay nt).put (.inl nD) fD4, upd_same, fD4, by rw [upd_ne Db, upd_ne bt]; exact hb3, by rw [upd_ne bt]; exact fb3, pr_mono (fun _ _ z => kRow.mono sm z) hout3, ?_⟩
        have eo : once (out.take (j + 1)) = once (out.take j) ++ [(r, 1)] := by rw [List.take_add_one, hrj]; exact once_snoc _ _
        rw [eo, ← List.append_assoc]
        exact pr_snoc (pr_mono (fun _ _ z => kW.mono sm z) hacc3) ⟨t, y, rfl, upd_same, kRow.mono sm hr3⟩
      · rintro H3 ⟨F3, acc3, X4, hD3, fD3, hb3, fb3, hout3, hacc3⟩
        rw [pr_len hout3, List.take_length] at hacc3
        refine ⟨F3, acc3, _, X4, hD3, fD3, hacc3, wok_append wok (wok_once (valid_canon fw.can)), fun p => ?_, ?_⟩
        · rw [cover_append, hcov p, cover_canon fw.can, et, cnt_snoc]
          have : ind (mem out p) = ind (mem rs p) := by
            rcases ind_or (mem rs p) with ⟨u, eu⟩ | ⟨u, eu⟩ <;> rw [eu]
            · exact ind_pos ((fw.mem p).mpr u)
            · exact ind_neg fun z => u ((fw.mem p).mp z)
          rw [this]
        · rw [List.length_append, once_len, et, total_snoc]
          have := fw.len
          omega
    · rintro H1 ⟨F', acc, ws, X1, hD, fD', hacc, wok, hcov, hwl⟩
      rw [pr_len hp, List.take_length] at hcov hwl
      have X2 := X1.frz nD fD' hD
      refine ⟨_, rfl, upd F' D (.lst acc), .ref D, ws, least, rfl, X2.fh, kL_new fD' hacc, wok, by omega, hle, RetL.step X2 q fun out t => ?_⟩
      exact ⟨t.can, fun p => by rw [t.mem p, hcov p], Nat.le_trans t.len hwl⟩
theorem ok_without {f : Addr} {fd : FuncData} (F0 : Fun K "without" "without" s_without f fd) (CR : Cal P w K mg base 2 "reaching" ["weighed", "least"] spReaching) (CF : Cal P w K mg base 3 "fewest" ["rows"] spFewest) :
    FnOk P w K mg base CX0 4 f fd ["one", "other"] spWithout := by
  obtain ⟨f1, fd1, G1, g1, kp1, b1⟩ := CR
  obtain ⟨f2, fd2, G2, g2, kp2, b2⟩ := CF
  refine F0.ok sc_without (fun vs H Q E h => ?_) (fun cdv A outer s H vs Q E hr h => ?_)
  · obtain ⟨F, v, u, one, other, rfl, _⟩ := h
    rfl
  · obtain ⟨F, v, u, one, other, rfl, fh, hv, ⟨b, ys, rfl, hb, hpb⟩, val1, val2, len1, len2, q⟩ := h
    have hr1 : Room 2 _ := hr.mono (by decide)
    refine ⟨_, pss_cons (ps_setLc (i := 2) (own := [("row", 4)]) (g := gName 4) (tt := tYes) (by rfl) sc_without.nd rfl rfl (sw_true rfl rfl rfl (by decide +kernel)) (pi_list (pe_call G2 hr (by rfl) g2 kp2 b2 .nil pass0 (pa_cons (pv 0) pa_nil)))
        (blkOk_by (own := [("row", 4)]) (N := ["one", "other", "kept", "barred", "row"]) (sc := defScope s_without) (by decide +kernel)) (fun _ _ _ _ _ => pg_name (i := 4) sc_without.nd rfl (Or.inl rfl)) (fun _ _ _ _ _ => pts_nil)
        (fun _ _ _ _ _ => pe_tup (pa_cons (pv 4) (pa_cons pe_int pa_nil))))
      (pss_cons (ps_setLc (i := 3) (own := [("row", 4)]) (g := gName 4) (tt := tYes) (by rfl) sc_without.nd rfl rfl (sw_true rfl rfl rfl (by decide +kernel)) (pi_list (pv 1))
        (blkOk_by (own := [("row", 4)]) (N := ["one", "other", "kept", "barred", "row"]) (sc := defScope s_without) (by decide +kernel)) (fun _ _ _ _ _ => pg_name (i := 4) sc_without.nd rfl (Or.inl rfl)) (fun _ _ _ _ _ => pts_nil)
        (fun _ _ _ _ _ => pe_tup (pa_cons (pv 4) (pa_cons (pe_un un_neg pe_int) pa_nil))))
      (pss_one (ps_ret (pe_call G1 hr1 (by rfl) g1 kp1 b1 .nil pass0 (pa_cons (pe_op op_cat (pv 2) (pv 3)) (pa_cons pe_int pa_nil)))))), ?_⟩
    have hr3 : Room 3 _ := hr.mono (by decide)
    refine ⟨_, rfl, F, v, one, rfl, fh, hv, val1, by omega, fun F1 H1 c vs out X1 nc fc hc hout fw => ?_⟩
    refine ⟨c, rfl, ⟨vs, SqL.of hc⟩, fun D nD => ?_⟩
    have HD : H D = none := X1.free nD
    have cD : c ≠ D := ne_of_none hc nD
    have lo : out.length ≤ 50000 := Nat.le_trans fw.len len1
    refine it_by (walk_list (K := K) (a := c) (xs := vs)) (fun i H' => ∃ F' acc, Ext M0 F H F' H' ∧ H' D = some (.lst acc) ∧ F' D = none ∧ H' c = some (.lst vs) ∧ Paired (kRow.is F') vs out ∧ Paired (kW.is F') acc (once (out.take i)))
      ⟨F1, [], X1.tmp nD, upd_same, X1.ffree nD, by rw [upd_ne cD]; exact hc, hout, .nil⟩ (fun i H' _ ⟨_, _, _, _, _, z, _⟩ => SqL.of z) ?_ ?_
    · rintro i x H2 _ hi ⟨F', acc, X2, hD, fD, hc2, hout2, hacc⟩ ⟨rfl, hx⟩
      obtain ⟨r, hri, hr2⟩ := pr_get hout2 hx
      refine ⟨rfl, _, rfl, (by show 2 ≤ sizeLine; decide), fun t nt => ?_⟩
      have Dt : D ≠ t := ne_of_none hD nt
      have ct : c ≠ t := ne_of_none hc2 nt
      have la : acc.length ≤ 50000 := by
        rw [pr_len hacc, once_len]
        have h1 := List.length_take_le' i out
        omega
      refine ⟨acc, by rw [upd_ne Dt]; exact hD, by rw [sizeLine_eq]; omega, ?_⟩
      have fD2 : upd F' t (.tup [x, .int 1]) D = none := by rw [upd_ne Dt]; exact fD
      have sm : Same F' (upd F' t (.tup [x, .int 1])) := same_upd (X2.ffree nt)
      refine ⟨upd F' t (.tup [x, .int 1]), acc ++ [.ref t], (X2.lay nt).put (.inl HD) fD2, upd_same, fD2, by rw [upd_ne cD, upd_ne ct]; exact hc2, pr_mono (fun _ _ z => kRow.mono sm z) hout2, ?_⟩
      have eo : once (out.take (i + 1)) = once (out.take i) ++ [(r, 1)] := by rw [List.take_add_one, hri]; exact once_snoc _ _
      rw [eo]
      exact pr_snoc (pr_mono (fun _ _ z => kW.mono sm z) hacc) ⟨t, x, rfl, upd_same, kRow.mono sm hr2⟩
    · rintro H2 ⟨F', acc, X2, hD, fD, hc2, hout2, hacc⟩
      rw [pr_len hout2, List.take_length] at hacc
      refine ⟨_, rfl, b, rfl, ⟨_, SqL.of (X2.fh _ _ (X2.ff _ _ hb))⟩, fun D2 nD2 => ?_⟩
      have HD2 : H D2 = none := X2.free nD2
      have DD : D ≠ D2 := ne_of_none hD nD2
      refine it_by (walk_list (K := K) (a := b) (xs := ys)) (fun i H' => ∃ F' acc2, Ext M0 F H F' H' ∧ H' D2 = some (.lst acc2) ∧ F' D2 = none ∧ H' D = some (.lst acc) ∧ F' D = none ∧ Paired (kW.is F') acc (once out) ∧ Paired (kW.is F') acc2 (anti (other.take i)))
        ⟨F', [], X2.tmp nD2, upd_same, X2.ffree nD2, by rw [upd_ne DD]; exact hD, fD, hacc, .nil⟩ (fun i H' _ ⟨_, _, z, _⟩ => SqL.of (z.fh _ _ (z.ff _ _ hb))) ?_ ?_
      · rintro i x H3 _ hi ⟨F3, acc2, X3, hD2, fD2, hD3, fD3, hacc3, hacc2⟩ ⟨rfl, hx⟩
        obtain ⟨r, hri, hr2⟩ := pr_get hpb hx
        refine ⟨rfl, _, rfl, 1, rfl, (by show 2 ≤ sizeLine; decide), fun t nt => ?_⟩
        have Dt : D2 ≠ t := ne_of_none hD2 nt
        have ct : D ≠ t := ne_of_none hD3 nt
        have la : acc2.length ≤ 50000 := by
          have e : (anti (other.take i)).length = (other.take i).length := List.length_map ..
          rw [pr_len hacc2, e]
          have h1 := List.length_take_le' i other
          omega
        refine ⟨acc2, by rw [upd_ne Dt]; exact hD2, by rw [sizeLine_eq]; omega, ?_⟩
        have fD4 : upd F3 t (.tup [x, .int (-1)]) D2 = none := by rw [upd_ne Dt]; exact fD2
        have sm : Same F3 (upd F3 t (.tup [x, .int (-1)])) := same_upd (X3.ffree nt)
        refine ⟨upd F3 t (.tup [x, .int (-1)]), acc2 ++ [.ref t], (X3.lay nt).put (.inl HD2) fD4, upd_same, fD4, by rw [upd_ne DD, upd_ne ct]; exact hD3, by rw [upd_ne ct]; exact fD3, pr_mono (fun _ _ z => kW.mono sm z) hacc3, ?_⟩
        have eo : anti (other.take (i + 1)) = anti (other.take i) ++ [(r, -1)] := by rw [List.take_add_one, hri]; exact List.map_append ..
        rw [eo]
        exact pr_snoc (pr_mono (fun _ _ z => kW.mono sm z) hacc2) ⟨t, x, rfl, upd_same, kRow.mono (X3.ff.trans sm) hr2⟩
      · rintro H3 ⟨F3, acc2, X3, hD2, fD2, hD3, fD3, hacc3, hacc2⟩
        rw [pr_len hpb, List.take_length] at hacc2
        have l1 : acc.length = out.length := by rw [pr_len hacc3, once_len]
        have l2 : acc2.length = other.length := by rw [pr_len hacc2]; exact List.length_map ..
        refine ⟨_, rfl, _, rfl, D, D2, acc, acc2, rfl, rfl, hD3, hD2, by rw [sizeLine_eq]; omega, fun p np => ?_⟩
        have X4 := X3.lay (o := .lst (acc ++ acc2)) np
        refine ⟨upd F3 p (.lst (acc ++ acc2)), .ref p, once out ++ anti other, 1, rfl, X4.fh, kL_new (X3.ffree np) (pr_append hacc3 hacc2), wok_append (wok_once (valid_canon fw.can)) (wok_anti val2), ?_, by decide, RetL.step X4 q fun o t => told_without fw t⟩
        have e : (anti other).length = other.length := List.length_map ..
        rw [List.length_append, once_len, e]
        omega
end
end Rw
namespace Rw
open PySem L2
theorem eqv_row (r s : Row) : PyData.eqv (dRow r) (dRow s) = decide (r = s) := by
  obtain ⟨a, b, c⟩ := r
  obtain ⟨a', b', c'⟩ := s
  unfold dRow
  simp only [PyData.eqv, PyData.eqvAll, Bool.and_true]
  by_cases e1 : a = a' <;> by_cases e2 : b = b' <;> by_cases e3 : c = c' <;> simp [e1, e2, e3]
theorem eqvAll_rows : ∀ xs ys : List Row, PyData.eqvAll (xs.map dRow) (ys.map dRow) = decide (xs = ys)
  | [], [] => rfl
  | [], _ :: _ => by simp [PyData.eqvAll]
  | _ :: _, [] => by simp [PyData.eqvAll]
  | x :: xs, y :: ys => by
    rw [List.map_cons, List.map_cons, PyData.eqvAll, eqv_row, eqvAll_rows xs ys]
    by_cases e1 : x = y <;> by_cases e2 : xs = ys <;> simp [e1, e2]
theorem eqv_rows (xs ys : List Row) : PyData.eqv (dL dRow xs) (dL dRow ys) = decide (xs = ys) := by
  unfold dL
  rw [PyData.eqv]
  exact eqvAll_rows xs ys
theorem canLay_rows : ∀ xs : List Row, PyData.canLayAll0 (xs.map dRow) = true
  | [] => rfl
  | x :: xs => by
    rw [List.map_cons, PyData.canLayAll0, canLay_rows xs]
    simp [dRow, PyData.canLay0, PyData.canLayAll0]
theorem depth_rows : ∀ xs : List Row, PyData.depthAll (xs.map dRow) ≤ 1
  | [] => by simp [PyData.depthAll]
  | x :: xs => by
    rw [List.map_cons, PyData.depthAll]
    have := depth_rows xs
    have h : (dRow x).depth ≤ 1 := by simp [dRow, PyData.depth, PyData.depthAll]
    omega
theorem shaped_rows (xs : List Row) : SeqAt.shaped (dL dRow xs) = true := by
  unfold SeqAt.shaped dL
  rw [PyData.canLay0, canLay_rows, PyData.depth]
  have := depth_rows xs
  simp
  omega
end Rw
namespace Rw
open PySem L2
theorem rows_valid {rs : List Row} (h : ∀ r ∈ rs, RowOk r) : Valid rs := fun r hr => (h r hr).2.2.2.1
def spPlain : Sp := fun vs H Q _ => ∃ (F : Hp) (v : V) (rs : List Row), vs = [v] ∧ Same F H ∧ (kL kRow).is F v rs ∧ RowsOk rs ∧ RetL M0 F H kRow (Fewest rs) Q
/-- of two sets: which points are told -/
structure Of2 (one other : List Row) (φ : Prop → Prop → Prop) (out : List Row) : Prop where
  can : Canon out
  mem : ∀ p, mem out p ↔ φ (mem one p) (mem other p)
  len : out.length ≤ one.length + other.length
def sp2 (φ : Prop → Prop → Prop) : Sp := fun vs H Q _ => ∃ (F : Hp) (v u : V) (one other : List Row), vs = [v, u] ∧ Same F H ∧ (kL kRow).is F v one ∧ (kL kRow).is F u other ∧ RowsOk one ∧ RowsOk other ∧ RetL M0 F H kRow (Of2 one other φ) Q
abbrev fOr : Prop → Prop → Prop := fun a b => a ∨ b
abbrev fAnd : Prop → Prop → Prop := fun a b => a ∧ b
abbrev fLess : Prop → Prop → Prop := fun a b => a ∧ ¬ b
def spByMany : Sp := fun vs H Q _ => ∃ (F : Hp) (v : V) (sets : List (List Row)) (least : Int), vs = [v, .int least] ∧ Same F H ∧ (kL (kL kRow)).is F v sets ∧ (∀ rs ∈ sets, RowsOk rs) ∧ sets.length ≤ 100 ∧ 1 ≤ least ∧ least ≤ sets.length ∧ RetL M0 F H kRow (Held sets least) Q
def fore (rs : List Row) : List Row := rs.map fun r => (r.1, 1, r.2.2)
def spGaps : Sp := fun vs H Q _ => ∃ (F : Hp) (v : V) (rs : List Row), vs = [v] ∧ Same F H ∧ (kL kRow).is F v rs ∧ RowsOk rs ∧ RetL M0 F H kRow (Without (fore rs) rs) Q
def spWithin : Sp := fun vs H Q _ => ∃ (F : Hp) (v u : V) (one other : List Row), vs = [v, u] ∧ Same F H ∧ (kL kRow).is F v one ∧ (kL kRow).is F u other ∧ RowsOk one ∧ RowsOk other ∧
  ∀ (b : Bool) (F' H' : Hp), Ext M0 F H F' H' → (b = true ↔ ∀ p, mem one p → mem other p) → Q (.bl b) H'
/-- up to where there is no gap -/
structure Whole (rs : List Row) (h z : Int) : Prop where
  nn : 0 ≤ z
  all : ∀ n, 1 ≤ n → n ≤ z → mem rs (h, n)
  stop : ¬ mem rs (h, z + 1)
def spWholeTo : Sp := fun vs H Q _ => ∃ (F : Hp) (v : V) (rs : List Row) (h : Int), vs = [v, .int h] ∧ Same F H ∧ (kL kRow).is F v rs ∧ RowsOk rs ∧ 0 ≤ h ∧ h ≤ 7 ∧ ∀ (z : Int) (F' H' : Hp), Ext M0 F H F' H' → Whole rs h z → Q (.int z) H'
theorem ext_of_same {F H H' : Hp} (s : Same F H) (t : Same H H') : Ext M0 F H F H' :=
  ⟨Same.refl F, s.trans t, fun b o h _ => t b o h, fun b h e => h (t.free e), fun _ _ => rfl⟩
section
variable {P : Program} {w : World} {K : PySem.W.Frag} {mg : Str → Option Value} {base : Heap}
abbrev CalCheck (P : Program) (w : World) (K : PySem.W.Frag) (mg : Str → Option Value) (base : Heap) := Cal P w K mg base 5 "check_rows" ["rows"] spCheckRows
theorem two_sets {F' : Hp} {v u : V} {one other : List Row} (h1 : (kL kRow).is F' v one) (h2 : (kL kRow).is F' u other) : Paired ((kL kRow).is F') [v, u] [one, other] := .cons h1 (.cons h2 .nil)
theorem ok_within {f : Addr} {fd : FuncData} (F0 : Fun K "within" "within" s_within f fd) (CC : CalCheck P w K mg base) (CW : Cal P w K mg base 4 "without" ["one", "other"] spWithout) : FnOk P w K mg base CX0 6 f fd ["one", "other"] spWithin := by
  obtain ⟨f1, fd1, G1, g1, kp1, b1⟩ := CC
  obtain ⟨f2, fd2, G2, g2, kp2, b2⟩ := CW
  refine F0.ok sc_within (fun vs H Q E h => ?_) (fun cdv A outer s H vs Q E hr h => ?_)
  · obtain ⟨F, v, u, one, other, rfl, _⟩ := h
    rfl
  · obtain ⟨F, v, u, one, other, rfl, fh, hv, hu, ok1, ok2, q⟩ := h
    have hr2 : Room 4 _ := hr.mono (by decide)
    refine ⟨_, pss_cons (ps_expr (pe_call G1 hr (by rfl) g1 kp1 b1 .nil pass0 (pa_cons (pv 0) pa_nil))) (pss_cons (ps_expr (pe_call G1 hr (by rfl) g1 kp1 b1 .nil pass0 (pa_cons (pv 1) pa_nil)))
      (pss_one (ps_ret (pe_cmpR (op_eqD hr.units) (pe_call G2 hr2 (by rfl) g2 kp2 b2 .nil pass0 (pa_cons (pv 0) (pa_cons (pv 1) pa_nil))) (pe_lst pa_nil) (nomark _))))), ?_⟩
    refine ⟨_, rfl, v, one, rfl, (kL kRow).mono fh hv, ok1, fun H1 s1 => ?_⟩
    refine ⟨_, rfl, u, other, rfl, (kL kRow).mono (fh.trans s1) hu, ok2, fun H2 s2 => ?_⟩
    have X := ext_of_same fh (s1.trans s2)
    have l1 := ok1.1
    have l2 := ok2.1
    refine ⟨_, rfl, _, rfl, F, v, u, one, other, rfl, X.fh, hv, hu, rows_valid ok1.2, rows_valid ok2.2, by omega, by omega, fun F3 H3 a xs out X3 na fa ha hout t => ?_⟩
    refine ⟨Nat.zero_le _, fun p np => ?_⟩
    have X4 := X3.frz na fa ha
    have s4 : Same (upd F3 a (.lst xs)) (upd H3 p (.lst [])) := X4.fh.trans (same_upd np)
    refine ⟨dL dRow out, dL dRow [], (enc_L enc_row).dp s4 (kL_new fa hout), (enc_L enc_row).dp (k := kL kRow) (Same.refl _) ⟨p, [], rfl, upd_same, .nil⟩, shaped_rows _, shaped_rows _, ?_⟩
    rw [eqv_rows]
    refine q _ F3 _ (X.trans (X3.tmp np)) ?_
    rw [decide_eq_true_eq]
    constructor
    · intro e p hp
      exact Classical.byContradiction fun z => by
        have := (t.mem p).mpr ⟨hp, z⟩
        rw [e] at this
        exact mem_nil this
    · intro h
      cases out with
      | nil => rfl
      | cons r rest =>
        have m := t.can.first List.mem_cons_self
        have := (t.mem _).mp m
        exact absurd (h _ this.1) this.2
end
end Rw
namespace Rw
open PySem L2
theorem total_le {n : Nat} : ∀ {sets : List (List Row)}, (∀ rs ∈ sets, rs.length ≤ n) → total sets ≤ n * sets.length
  | [], _ => Nat.zero_le _
  | rs :: sets, h => by
    have h1 := h rs List.mem_cons_self
    have h2 := total_le (sets := sets) fun x hx => h x (List.mem_cons_of_mem _ hx)
    show rs.length + total sets ≤ n * (sets.length + 1)
    rw [Nat.mul_add]; omega
section
variable {P : Program} {w : World} {K : PySem.W.Frag} {mg : Str → Option Value} {base : Heap}
def spWholeIn : Sp := fun vs H Q _ => ∃ (F : Hp) (v : V) (rs : List Row) (h : Int), vs = [v, .int h] ∧ Same F H ∧ (kL kRow).is F v rs ∧ Valid rs ∧ (∀ r ∈ rs, 1 ≤ r.2.1) ∧ rs.length ≤ 100000 ∧ ∀ (z : Int) (F' H' : Hp), Ext M0 F H F' H' → Whole rs h z → Q (.int z) H'
end
end Rw
namespace Rw
open PySem L2
/-! ### the law's dice -/
def dice (s : Addr) (i m r : Int) : HO := .lst [.ref s, .int i, .int m, .int r]
structure Good (i m r : Int) : Prop where
  i0 : 0 ≤ i
  m0 : 0 ≤ m
  m1 : m < 2147483647
  r0 : 0 ≤ r
def spDice (K : PySem.W.Frag) : Sp := fun vs H Q _ => ∃ (s : Addr) (ns : List Int), vs = [.ref s] ∧ SqL K H s (ns.map V.int) ∧ ∀ (d : Addr) (m : Int), H d = none → Good 0 m 0 → Q (.ref d) (upd H d (dice s 0 m 0))
/-- the dice at d over the script at s -/
structure DiceAt (K : PySem.W.Frag) (F H : Hp) (d s : Addr) (ns : List Int) : Prop where
  fh : Same F H
  fd : F d = none
  sc : SqL K F s (ns.map V.int)
  ex : ∃ i m r : Int, H d = some (dice s i m r) ∧ Good i m r
/-- what a draw may do -/
def RetN (K : PySem.W.Frag) (F H : Hp) (d s : Addr) (ns : List Int) (many : Int) (Q : VK) : Prop := ∀ (z : Int) (H' : Hp), 0 ≤ z → z < many → Ext (· = d) F H F H' → DiceAt K F H' d s ns → Q (.int z) H'
def spNext (K : PySem.W.Frag) : Sp := fun vs H Q _ => ∃ (F : Hp) (d s : Addr) (ns : List Int) (many : Int), vs = [.ref d, .int many] ∧ DiceAt K F H d s ns ∧ 1 ≤ many ∧ many < 2 ^ 64 ∧ RetN K F H d s ns many Q
structure TxL (mg : Str → Option Value) : Prop where
  int : mg "int" = none
  len : mg "len" = none
  range : mg "range" = none
  min : mg "min" = none
theorem atI_int {ns : List Int} {i : Int} (h0 : 0 ≤ i) (h1 : i < ns.length) : ∃ c, atI (ns.map V.int) i = some (.int c) := by
  obtain ⟨j, rfl⟩ : ∃ j : Nat, i = (j : Int) := ⟨i.toNat, by omega⟩
  have hl : j < ns.length := by omega
  exact ⟨ns[j], atI_nat (by rw [List.getElem?_map, List.getElem?_eq_getElem hl]; rfl)⟩
theorem DiceAt.put {K : PySem.W.Frag} {F H : Hp} {d s : Addr} {ns : List Int} (D : DiceAt K F H d s ns) {i m r : Int} (g : Good i m r) : Ext (· = d) F H F (upd H d (dice s i m r)) ∧ DiceAt K F (upd H d (dice s i m r)) d s ns :=
  ⟨(Ext.refl D.fh).put (.inr rfl) D.fd, ⟨same_put D.fh D.fd, D.fd, D.sc, ⟨i, m, r, upd_same, g⟩⟩⟩
section
variable {P : Program} {w : World} {K : PySem.W.Frag} {mg : Str → Option Value} {base : Heap}
theorem ok_law_dice {f : Addr} {fd : FuncData} (F0 : Fun K "_law_dice" "_law_dice" s_law_dice f fd) (T : TxL mg) : FnOk P w K mg base CX0 1 f fd ["_law_script"] (spDice K) := by
  refine F0.ok sc_law_dice (fun vs H Q E h => ?_) (fun cdv A outer s H vs Q E hr h => ?_)
  · obtain ⟨s, ns, rfl, _⟩ := h
    rfl
  · obtain ⟨s, ns, rfl, hs, q⟩ := h
    refine ⟨_, pss_cons (ps_set (i := 1) sc_law_dice.nd rfl (.inl rfl) pe_int)
      (pss_cons (ps_for PassesOwn.never rfl (pi_list (pv 0)) (pg_name (i := 2) sc_law_dice.nd rfl (.inl rfl))
        (pss_one (ps_set (i := 1) sc_law_dice.nd rfl (.inl rfl) (pe_op op_mod (pe_op op_add (pe_op op_add (pe_op op_mul (pv 1) pe_int) (pe_op op_mul (pe_op op_mod (pv 2) pe_int) pe_int)) pe_int) pe_int))))
      (pss_one (ps_ret (pe_lst (pa_cons (pv 0) (pa_cons pe_int (pa_cons (pe_op op_mul (pv 1) (pe_callTy call_int1 (by rfl) T.int (by decide +kernel) (pa_cons (pe_cmpR op_gt (pe_callB call_len (by rfl) T.len PySem.boot_len (pa_cons (pv 0) pa_nil)) pe_int (nomark _)) pa_nil))) (pa_cons pe_int pa_nil)))))))), ?_⟩
    refine ⟨_, rfl, s, rfl, ⟨_, hs⟩, for_list (K := K) (a := s) (xs := ns.map V.int) (fun i σ H' => ∃ (m : Int) (y : Option V), σ = [some (.ref s), some (.int m), y] ∧ 0 ≤ m ∧ m < 2147483647 ∧ H' = H) ⟨0, none, rfl, by decide, by decide, rfl⟩ (fun i σ H' _ ⟨_, _, _, _, _, e⟩ => e ▸ hs) ?_ ?_⟩
    · rintro i x σ H' hi ⟨m, y, rfl, h0, h1, rfl⟩
      obtain ⟨c, hc, rfl⟩ : ∃ c, ns[i]? = some c ∧ x = .int c := by
        rw [List.getElem?_map] at hi
        cases e : ns[i]? with
        | none => rw [e] at hi; cases hi
        | some c => rw [e] at hi; exact ⟨c, rfl, (Option.some.inj hi).symm⟩
      have p1 : (0 : Int) < 2147483647 := by decide
      refine ⟨_, rfl, _, _, rfl, rfl, .inl ⟨by omega, by omega⟩, _, rfl, _, _, rfl, rfl, p1, _, _, rfl, rfl, .inr ⟨by decide, by decide⟩, _, _, rfl, rfl, _, _, rfl, rfl, _, _, rfl, rfl, p1, ?_⟩
      exact ⟨_, _, rfl, Int.emod_nonneg _ (by decide), Int.emod_lt_of_pos _ p1, rfl⟩
    · rintro σ H' ⟨m, y, rfl, h0, h1, rfl⟩
      refine ⟨_, rfl, _, rfl, _, rfl, _, _, rfl, .inl ⟨_, hs, rfl⟩, _, _, rfl, rfl, .inr ⟨_, rfl, _, _, rfl, rfl, .inl ⟨by omega, by omega⟩, ?_⟩⟩
      refine ⟨by show 4 ≤ sizeLine; decide, fun d nd => ?_⟩
      refine q d _ nd ⟨Int.le_refl _, ?_, ?_, Int.le_refl _⟩
      · split <;> omega
      · split <;> omega
theorem ok_law_next {f : Addr} {fd : FuncData} (F0 : Fun K "_law_next" "_law_next" s_law_next f fd) (T : TxL mg) : FnOk P w K mg base CX0 1 f fd ["_law_dice_here", "_law_many"] (spNext K) := by
  refine F0.ok sc_law_next (fun vs H Q E h => ?_) (fun cdv A outer s H vs Q E hr h => ?_)
  · obtain ⟨F, d, s, ns, many, rfl, _⟩ := h
    rfl
  · obtain ⟨F, d, s, ns, many, rfl, D, m1, m2, q⟩ := h
    obtain ⟨i, m, r, hd, g⟩ := D.ex
    have hdv : many.natAbs < 2 ^ 64 := by omega
    refine ⟨_, pss_cons (ps_if (pt_cmpR op_gt (pe_ix ix_list (pv 0) pe_int (fun _ _ => rfl)) pe_int (nomark _))
        (pss_cons (ps_set (i := 2) sc_law_next.nd rfl (.inl rfl) (pe_op op_mod (pe_ix ix_list (pv 0) pe_int (fun _ _ => rfl)) (pv 1)))
        (pss_cons (ps_asg (pe_op op_fdivW (pe_ix ix_list (pv 0) pe_int (fun _ _ => rfl)) (pv 1)) (pg_sub (pv 0) pe_int set_list))
        (pss_one (ps_ret (pv 2))))) pss_nil)
      (pss_cons (ps_asg (pe_op op_add (pe_ix ix_list (pv 0) pe_int (fun _ _ => rfl)) pe_int) (pg_sub (pv 0) pe_int set_list))
      (pss_cons (ps_if (pt_cmpR op_le (pe_ix ix_list (pv 0) pe_int (fun _ _ => rfl)) (pe_callB call_len (by rfl) T.len PySem.boot_len (pa_cons (pe_ix ix_list (pv 0) pe_int (fun _ _ => rfl)) pa_nil)) (nomark _))
        (pss_cons (ps_set (i := 3) sc_law_next.nd rfl (.inl rfl) (pe_ix ix_list (pe_ix ix_list (pv 0) pe_int (fun _ _ => rfl)) (pe_op op_sub (pe_ix ix_list (pv 0) pe_int (fun _ _ => rfl)) pe_int) (fun _ _ => rfl)))
        (pss_cons (ps_asg (pe_ifExp (pt_cmpR op_ge (pv 3) (pe_op op_pow pe_int pe_int) (nomark _)) (pe_op op_fdivW (pv 3) (pv 1)) pe_int) (pg_sub (pv 0) pe_int set_list))
        (pss_one (ps_ret (pe_op op_mod (pv 3) (pv 1)))))) pss_nil)
      (pss_cons (ps_asg (pe_op op_mod (pe_op op_mul (pe_ix ix_list (pv 0) pe_int (fun _ _ => rfl)) pe_int) pe_int) (pg_sub (pv 0) pe_int set_list))
      (pss_one (ps_ret (pe_op op_mod (pe_op op_fdiv (pe_ix ix_list (pv 0) pe_int (fun _ _ => rfl)) pe_int) (pv 1))))))), ?_⟩
    have p1 : (0 : Int) < 2147483647 := by decide
    have pm : 0 < many := by omega
    refine ⟨_, rfl, d, _, 3, .int r, rfl, rfl, SqL.of hd, rfl, _, _, rfl, rfl, _, rfl, ite2 (fun c => ?_) (fun c => ?_)⟩
    · -- some digits are left
      refine ⟨_, rfl, d, _, 3, .int r, rfl, rfl, SqL.of hd, rfl, _, rfl, _, _, rfl, rfl, pm, ?_⟩
      refine ⟨_, rfl, d, _, 3, .int r, rfl, rfl, SqL.of hd, rfl, _, rfl, _, _, rfl, rfl, wide_div pm hdv (by decide) (by decide), ?_⟩
      refine ⟨_, rfl, d, _, 3, 3, rfl, rfl, hd, rfl, ?_⟩
      have g' : Good i m (r / many) := ⟨g.i0, g.m0, g.m1, Int.ediv_nonneg g.r0 (by omega)⟩
      exact ⟨_, rfl, q _ _ (Int.emod_nonneg _ (by omega)) (Int.emod_lt_of_pos _ pm) (D.put g').1 (D.put g').2⟩
    · refine ⟨_, rfl, d, _, 1, .int i, rfl, rfl, SqL.of hd, rfl, _, _, rfl, rfl, ?_⟩
      refine ⟨_, rfl, d, _, 1, 1, rfl, rfl, hd, rfl, ?_⟩
      have g1 : Good (i + 1) m r := ⟨by have := g.i0; omega, g.m0, g.m1, g.r0⟩
      have D1 := (D.put g1).2
      have X1 := (D.put g1).1
      have hs1 : SqL K (upd H d (dice s (i + 1) m r)) s (ns.map V.int) := D1.fh.seq D.sc
      have go2 : ∀ {i' m' r' z : Int}, Good i' m' r' → 0 ≤ z → z < many → Q (.int z) (upd (upd H d (dice s (i + 1) m r)) d (dice s i' m' r')) := fun g' h0 h1 =>
        q _ _ h0 h1 (X1.trans (D1.put g').1) (D1.put g').2
      refine ⟨_, rfl, d, _, 1, .int (i + 1), rfl, rfl, SqL.of upd_same, rfl, _, rfl, d, _, 0, .ref s, rfl, rfl, SqL.of upd_same, rfl, _, _, rfl, .inl ⟨_, hs1, rfl⟩, _, _, rfl, rfl, _, rfl, ite2 (fun c2 => ?_) (fun c2 => ?_)⟩
      · have c2 := of_decide_eq_true c2
        rw [List.length_map] at c2
        obtain ⟨cell, hc⟩ := atI_int (ns := ns) (i := i + 1 - 1) (by have := g.i0; omega) (by omega)
        refine ⟨_, rfl, d, _, 0, .ref s, rfl, rfl, SqL.of upd_same, rfl, _, rfl, d, _, 1, .int (i + 1), rfl, rfl, SqL.of upd_same, rfl, _, _, rfl, rfl, s, _, _, .int cell, rfl, rfl, hs1, hc, ?_⟩
        refine ⟨_, rfl, _, _, rfl, rfl, ⟨by decide, by decide, by decide⟩, _, _, rfl, rfl, _, rfl, ite2 (fun c3 => ?_) (fun c3 => ?_)⟩
        · have c3 := of_decide_eq_true c3
          have cp : 0 ≤ cell := by
            have e : (10 : Int) ^ (18 : Int).toNat = 1000000000000000000 := by decide
            rw [e] at c3
            omega
          refine ⟨_, rfl, _, rfl, _, _, rfl, rfl, wide_div pm hdv (by decide) (by decide), _, rfl, d, _, 3, 3, rfl, rfl, upd_same, rfl, ?_⟩
          refine ⟨_, rfl, _, rfl, _, _, rfl, rfl, pm, ?_⟩
          exact go2 ⟨g1.i0, g1.m0, g1.m1, Int.ediv_nonneg cp (by omega)⟩ (Int.emod_nonneg _ (by omega)) (Int.emod_lt_of_pos _ pm)
        · refine ⟨_, rfl, d, _, 3, 3, rfl, rfl, upd_same, rfl, ?_⟩
          refine ⟨_, rfl, _, rfl, _, _, rfl, rfl, pm, ?_⟩
          exact go2 ⟨g1.i0, g1.m0, g1.m1, Int.le_refl _⟩ (Int.emod_nonneg _ (by omega)) (Int.emod_lt_of_pos _ pm)
      · have gm0 := g.m0
        have gm1 := g.m1
        refine ⟨_, rfl, d, _, 2, .int m, rfl, rfl, SqL.of upd_same, rfl, _, _, rfl, rfl, .inl ⟨by omega, by omega⟩, _, _, rfl, rfl, p1, _, rfl, d, _, 2, 2, rfl, rfl, upd_same, rfl, ?_⟩
        have g2 : Good (i + 1) (m * 48271 % 2147483647) r := ⟨g1.i0, Int.emod_nonneg _ (by decide), Int.emod_lt_of_pos _ p1, g1.r0⟩
        refine ⟨_, rfl, d, _, 2, .int (m * 48271 % 2147483647), rfl, rfl, SqL.of upd_same, rfl, _, _, rfl, rfl, ⟨by decide, by decide⟩, _, rfl, _, _, rfl, rfl, pm, ?_⟩
        exact go2 g2 (Int.emod_nonneg _ (by omega)) (Int.emod_lt_of_pos _ pm)
end
end Rw
namespace Rw
open PySem L2
/-- a drawn row -/
def Drawn (houses far : Int) (r : Row) : Prop := 0 ≤ r.1 ∧ r.1 < houses ∧ 1 ≤ r.2.1 ∧ r.2.1 ≤ r.2.2 ∧ r.2.2 ≤ far
def spRows (K : PySem.W.Frag) : Sp := fun vs H Q _ => ∃ (F : Hp) (d s : Addr) (ns : List Int) (houses far most : Int), vs = [.ref d, .int houses, .int far, .int most] ∧ DiceAt K F H d s ns ∧ 1 ≤ houses ∧ houses ≤ 8 ∧ 1 ≤ far ∧ far ≤ LIM ∧ 0 ≤ most ∧ most ≤ 1000 ∧
  ∀ (F' H' : Hp) (a : Addr) (xs : List V) (rows : List Row), Ext (· = d) F H F' H' → DiceAt K F' H' d s ns → H a = none → F' a = none → H' a = some (.lst xs) → Paired (kRow.is F') xs rows → (rows.length : Int) ≤ most → (∀ r ∈ rows, Drawn houses far r) → Q (.ref a) H'
theorem DiceAt.step {K : PySem.W.Frag} {F H F' H' : Hp} {d s : Addr} {ns : List Int} (D : DiceAt K F H d s ns) (X : Ext M0 F H F' H') : DiceAt K F' H' d s ns := by
  obtain ⟨i, m, r, hd, g⟩ := D.ex
  exact ⟨X.fh, by rw [X.new d (by rw [hd]; simp)]; exact D.fd, X.ff.seq D.sc, ⟨i, m, r, X.same _ _ hd, g⟩⟩
theorem DiceAt.ne {K : PySem.W.Frag} {F H : Hp} {d s p : Addr} {ns : List Int} (D : DiceAt K F H d s ns) (h : H p = none) : d ≠ p := by
  obtain ⟨i, m, r, hd, g⟩ := D.ex
  exact ne_of_none hd h
theorem DiceAt.lay {K : PySem.W.Frag} {F H : Hp} {d s p : Addr} {ns : List Int} {o : HO} (D : DiceAt K F H d s ns) (h : H p = none) : DiceAt K (upd F p o) (upd H p o) d s ns :=
  D.step ((Ext.refl D.fh).lay h)
theorem DiceAt.tmp {K : PySem.W.Frag} {F H : Hp} {d s p : Addr} {ns : List Int} {o : HO} (D : DiceAt K F H d s ns) (h : H p = none) : DiceAt K F (upd H p o) d s ns :=
  D.step ((Ext.refl D.fh).tmp h)
theorem DiceAt.set {K : PySem.W.Frag} {F H : Hp} {d s p : Addr} {ns : List Int} {o : HO} (D : DiceAt K F H d s ns) (h : d ≠ p) (f : F p = none) : DiceAt K F (upd H p o) d s ns := by
  obtain ⟨i, m, r, hd, g⟩ := D.ex
  exact ⟨same_put D.fh f, D.fd, D.sc, ⟨i, m, r, by rw [upd_ne h]; exact hd, g⟩⟩
section
variable {P : Program} {w : World} {K : PySem.W.Frag} {mg : Str → Option Value} {base : Heap}
end
end Rw
namespace Rw
open PySem L2
/-! ### alike: the law's own comparing, sort by sort -/
def sc0 (v u : V) : Prop := (∃ i, v = .int i ∧ u = .int i) ∨ (∃ b, v = .bl b ∧ u = .bl b) ∨ (∃ z, v = .str z ∧ u = .str z) ∨ (v = .non ∧ u = .non)
def Twin (H : Hp) : Nat → V → V → Prop
  | 0, _, _ => False
  | n + 1, v, u => sc0 v u ∨ ∃ a b xs ys, v = .ref a ∧ u = .ref b ∧ ((H a = some (.tup xs) ∧ H b = some (.tup ys)) ∨ (H a = some (.lst xs) ∧ H b = some (.lst ys))) ∧ ys.length ≤ 100000 ∧ xs.length = ys.length ∧ ∀ (i : Nat) (x y : V), xs[i]? = some x → ys[i]? = some y → Twin H n x y
theorem Twin.mono {H H' : Hp} (s : Same H H') : ∀ {n : Nat} {v u : V}, Twin H n v u → Twin H' n v u
  | 0, _, _, h => h
  | n + 1, v, u, .inl h => .inl h
  | n + 1, v, u, .inr ⟨a, b, xs, ys, ev, eu, h, l, e, p⟩ => .inr ⟨a, b, xs, ys, ev, eu, h.imp (fun ⟨x, y⟩ => ⟨s _ _ x, s _ _ y⟩) (fun ⟨x, y⟩ => ⟨s _ _ x, s _ _ y⟩), l, e, fun i x y hx hy => (p i x y hx hy).mono s⟩
def spLike (n : Nat) : Sp := fun vs H Q _ => ∃ (v u : V), vs = [v, u] ∧ Twin H n v u ∧ Q (.bl true) H
structure TxK (mg : Str → Option Value) : Prop where
  isinst : mg "isinstance" = none
  int : mg "int" = none
  bool : mg "bool" = none
  str : mg "str" = none
  tuple : mg "tuple" = none
  list : mg "list" = none
  len : mg "len" = none
  range : mg "range" = none
theorem bt_str : bootBuiltins "str" = some (.type "str") := by decide +kernel
theorem bt_list : bootBuiltins "list" = some (.type "list") := by decide +kernel
theorem isi_use {K : PySem.W.Frag} {H : Hp} {x : V} {t n : String} {r : Bool} {Q : VK} (ty : TyX K H x (.type t)) (k : kitB t n = some r) (q : Q (.bl r) H) : rIsi K [x, .ty n] H Q :=
  ⟨_, .ty n, _, _, _, rfl, .ty _, ty, kit_ty k, q⟩
section
variable {P : Program} {w : World} {K : PySem.W.Frag} {mg : Str → Option Value} {base : Heap}
end
end Rw
namespace Rw
open PySem L2
/-! ### rows moved along -/
def mv1 (by' : Int) (r : Row) : Row := (r.1, r.2.1 + by', r.2.2 + by')
def moved (by' : Int) (rs : List Row) : List Row := rs.map (mv1 by')
def spMoved : Sp := fun vs H Q _ => ∃ (F : Hp) (v : V) (rs : List Row) (b : Int), vs = [v, .int b] ∧ Same F H ∧ (kL kRow).is F v rs ∧ rs.length ≤ 100000 ∧ RetL M0 F H kRow (· = moved b rs) Q
section
variable {P : Program} {w : World} {K : PySem.W.Frag} {mg : Str → Option Value} {base : Heap}
end
end Rw
namespace Rw
open PySem L2
/-! ### the names of rows, one by one -/
structure DKy (kvs : List (List Key × V)) (ps : List Pt) : Prop where
  keys : kvs.map (·.1) = ps.map kk
  nd : ps.Nodup
theorem DKy.nil : DKy [] [] := ⟨rfl, .nil⟩
theorem DKy.len {kvs : List (List Key × V)} {ps : List Pt} (d : DKy kvs ps) : kvs.length = ps.length := by
  have h := congrArg List.length d.keys
  rw [List.length_map, List.length_map] at h
  exact h
theorem DKy.put {kvs : List (List Key × V)} {ps : List Pt} (d : DKy kvs ps) (q : Pt) (v : V) : ∃ ps', DKy (putK kvs (kk q) v) ps' ∧ (∀ p, p ∈ ps' ↔ p ∈ ps ∨ p = q) ∧ ps'.length ≤ ps.length + 1 := by
  by_cases m : q ∈ ps
  · refine ⟨ps, ⟨?_, d.nd⟩, fun p => ⟨.inl, fun h => h.elim id fun e => e ▸ m⟩, Nat.le_succ _⟩
    have a : (kvs.any fun kv => decide (kv.1 = kk q)) = true := by
      have h1 : kk q ∈ kvs.map (·.1) := by rw [d.keys]; exact List.mem_map.mpr ⟨q, m, rfl⟩
      obtain ⟨kv, hkv, e⟩ := List.mem_map.mp h1
      exact List.any_eq_true.mpr ⟨kv, hkv, decide_eq_true e⟩
    unfold putK
    rw [if_pos a, List.map_map, ← d.keys]
    refine List.map_congr_left fun kv _ => ?_
    by_cases e : kv.1 = kk q
    · simp only [Function.comp, if_pos e]
    · simp only [Function.comp, if_neg e]
  · refine ⟨ps ++ [q], ⟨?_, ?_⟩, fun p => by simp, by simp⟩
    · have a : ¬ (kvs.any fun kv => decide (kv.1 = kk q)) = true := fun h => by
        obtain ⟨kv, hkv, e⟩ := List.any_eq_true.mp h
        have h1 : kv.1 ∈ ps.map kk := by rw [← d.keys]; exact List.mem_map.mpr ⟨kv, hkv, rfl⟩
        rw [of_decide_eq_true e] at h1
        obtain ⟨p, hp, e2⟩ := List.mem_map.mp h1
        rw [kk_inj e2] at hp
        exact m hp
      unfold putK
      rw [if_neg a, List.map_append, List.map_append, d.keys]
      rfl
    · exact List.nodup_append.mpr ⟨d.nd, by simp, fun a ha b hb e => by rw [List.mem_singleton.mp hb] at e; exact m (e ▸ ha)⟩
/-- a frame that has all tuples -/
def Full (F H : Hp) : Prop := ∀ t xs, H t = some (.tup xs) → F t = some (.tup xs)
def absb (F H : Hp) : Hp := fun b => match H b with
  | some (.tup xs) => some (.tup xs)
  | _ => F b
theorem absb_tup {F H : Hp} {b : Addr} {xs : List V} (h : H b = some (.tup xs)) : absb F H b = some (.tup xs) := by unfold absb; rw [h]
theorem absb_ne {F H : Hp} {b : Addr} (h : ∀ xs, H b ≠ some (.tup xs)) : absb F H b = F b := by
  unfold absb
  split
  · rename_i xs e; exact absurd e (h xs)
  · rfl
theorem absb_or {F H : Hp} (b : Addr) : (∃ xs, H b = some (.tup xs) ∧ absb F H b = some (.tup xs)) ∨ ((∀ xs, H b ≠ some (.tup xs)) ∧ absb F H b = F b) := by
  by_cases h : ∃ xs, H b = some (.tup xs)
  · obtain ⟨xs, h⟩ := h
    exact .inl ⟨xs, h, absb_tup h⟩
  · have h' : ∀ xs, H b ≠ some (.tup xs) := fun xs e => h ⟨xs, e⟩
    exact .inr ⟨h', absb_ne h'⟩
theorem absb_full {F H : Hp} : Full (absb F H) H := fun _ _ h => absb_tup h
theorem absb_same {F H : Hp} (s : Same F H) : Same (absb F H) H := fun b o e => by
  rcases absb_or (F := F) (H := H) b with ⟨xs, h, e'⟩ | ⟨_, e'⟩
  · rw [e'] at e; rw [h]; exact e
  · rw [e'] at e; exact s _ _ e
theorem absb_sub {F H : Hp} (s : Same F H) : Same F (absb F H) := fun b o e => by
  rcases absb_or (F := F) (H := H) b with ⟨xs, h, e'⟩ | ⟨_, e'⟩
  · rw [e', ← h]; exact s _ _ e
  · rw [e']; exact e
/-- the old frame where there was something, the new heap but for one place elsewhere -/
def lift (F H G : Hp) : Hp := fun b => match H b with
  | some _ => F b
  | none => G b
theorem lift_old {F H G : Hp} {b : Addr} (h : H b ≠ none) : lift F H G b = F b := by
  unfold lift
  split
  · rfl
  · rename_i e; exact absurd e h
theorem lift_new {F H G : Hp} {b : Addr} (h : H b = none) : lift F H G b = G b := by unfold lift; rw [h]
theorem lift_ext {F H F1 H' G : Hp} (s0 : Same F H) (X : Ext M0 F H F1 H') (s : Same G H') : Ext M0 F H (lift F H G) H' := by
  refine ⟨fun b o e => ?_, fun b o e => ?_, X.hh, X.tr, fun b e => lift_old e⟩
  · rw [lift_old (by rw [s0 _ _ e]; simp)]; exact e
  · by_cases h : H b = none
    · rw [lift_new h] at e; exact s _ _ e
    · rw [lift_old h] at e; exact X.fh _ _ (X.ff _ _ e)
theorem lift_pt {F H F1 H' G : Hp} (X : Ext M0 F H F1 H') (fu : Full F H) (s : Same G H') {v : V} {p : Pt} (h : kPt.is G v p) : kPt.is (lift F H G) v p := by
  obtain ⟨t, e, ht⟩ := h
  refine ⟨t, e, ?_⟩
  cases q : H t with
  | none => rw [lift_new q]; exact ht
  | some o =>
    rw [lift_old (by rw [q]; simp)]
    have h1 := X.same _ _ q
    rw [s _ _ ht] at h1
    rw [← Option.some.inj h1] at q
    exact fu _ _ q
structure NamesOf (rs : List Row) (qs : List Pt) : Prop where
  sort : qs.Pairwise lt2
  mem : ∀ p, p ∈ qs ↔ mem rs p
  len : qs.length ≤ 400 * rs.length
def Small (rs : List Row) : Prop := rs.length ≤ 250 ∧ ∀ r ∈ rs, 1 ≤ r.2.1 ∧ r.2.1 ≤ r.2.2 ∧ r.2.2 ≤ 400
def spNames : Sp := fun vs H Q _ => ∃ (F : Hp) (v : V) (rs : List Row), vs = [v] ∧ Same F H ∧ Full F H ∧ (kL kRow).is F v rs ∧ Small rs ∧ RetL M0 F H kPt (NamesOf rs) Q
structure TxN (mg : Str → Option Value) : Prop where
  range : mg "range" = none
  sorted : mg "sorted" = none
theorem mem_take {rs : List Row} {i : Nat} {r : Row} (h : rs[i]? = some r) (p : Pt) : mem (rs.take (i + 1)) p ↔ mem (rs.take i) p ∨ inRow r p := by
  have eT : rs.take (i + 1) = rs.take i ++ [r] := by rw [List.take_add_one, h]; rfl
  rw [eT, mem_append]
  constructor
  · rintro (z | ⟨s, hs, z⟩)
    · exact .inl z
    · rw [List.mem_singleton.mp hs] at z; exact .inr z
  · rintro (z | z)
    · exact .inl z
    · exact .inr ⟨r, List.mem_singleton.mpr rfl, z⟩
section
variable {P : Program} {w : World} {K : PySem.W.Frag} {mg : Str → Option Value} {base : Heap}
end
end Rw
namespace Rw
open PySem L2
/-! ### names told as rows -/
structure ToldOf (ps : List Pt) (out : List Row) : Prop where
  can : Canon out
  mem : ∀ p, mem out p ↔ p ∈ ps
  len : out.length ≤ ps.length
theorem ToldOf.nil : ToldOf [] [] := ⟨.nil, fun p => ⟨fun h => absurd h mem_nil, fun h => absurd h (by simp)⟩, Nat.le_refl _⟩
theorem ToldOf.behind {ps : List Pt} {out : List Row} {k : Pt} (t : ToldOf ps out) (h : ∀ p ∈ ps, lt2 p k) {r : Row} (hr : r ∈ out) : r.1 < k.1 ∨ (r.1 = k.1 ∧ r.2.2 < k.2) := by
  have m := h _ ((t.mem (r.1, r.2.2)).mp (t.can.last hr))
  unfold lt2 at m
  simp only at m
  omega
theorem ToldOf.grow {ps : List Pt} {init : List Row} {r : Row} {k : Pt} (t : ToldOf ps (init ++ [r])) (h : ∀ p ∈ ps, lt2 p k) (e1 : r.1 = k.1) (e2 : r.2.2 + 1 = k.2) : ToldOf (ps ++ [k]) (init ++ [(k.1, r.2.1, k.2)]) := by
  have hr : r ∈ init ++ [r] := by simp
  have o := t.can.ok r hr
  have pw := List.pairwise_append.mp t.can.ord
  have ci : Canon init := ⟨fun s hs => t.can.ok s (List.mem_append_left _ hs), pw.1⟩
  refine ⟨ci.snoc (by simp only; omega) fun s hs => ?_, fun p => ?_, by have := t.len; simp at this ⊢; omega⟩
  · have b := pw.2.2 s hs r (by simp)
    unfold before at b ⊢
    simp only at b ⊢
    omega
  · have m := t.mem p
    rw [mem_append] at m ⊢
    rw [List.mem_append, List.mem_singleton, ← m]
    have one : Rw.mem [(k.1, r.2.1, k.2)] p ↔ Rw.mem [r] p ∨ p = k := by
      unfold Rw.mem inRow
      simp only [List.mem_singleton, exists_eq_left]
      constructor
      · rintro ⟨a, b, c⟩
        by_cases z : p.2 = k.2
        · exact .inr (Prod.ext a.symm z)
        · exact .inl ⟨by omega, b, by omega⟩
      · rintro (⟨a, b, c⟩ | rfl)
        · exact ⟨by omega, b, by omega⟩
        · exact ⟨rfl, by omega, Int.le_refl _⟩
    rw [one, or_assoc]
theorem ToldOf.more {ps : List Pt} {out : List Row} {k : Pt} (t : ToldOf ps out) (h : ∀ p ∈ ps, lt2 p k) (hn : ∀ init r, out = init ++ [r] → ¬ (r.1 = k.1 ∧ r.2.2 + 1 = k.2)) : ToldOf (ps ++ [k]) (out ++ [(k.1, k.2, k.2)]) := by
  refine ⟨t.can.snoc (Int.le_refl _) fun s hs => ?_, fun p => ?_, by have := t.len; simp; omega⟩
  · have b := t.behind h hs
    unfold before
    simp only
    by_cases e : s.1 = k.1 ∧ s.2.2 + 1 = k.2
    · exfalso
      rcases List.eq_nil_or_concat out with z | ⟨init, r, z⟩
      · rw [z] at hs; simp at hs
      · rw [List.concat_eq_append] at z
        have nr := hn init r z
        rw [z] at hs
        rcases List.mem_append.mp hs with hs | hs
        · have c := t.can.ord
          rw [z] at c
          have q := (List.pairwise_append.mp c).2.2 s hs r (by simp)
          have br := t.behind h (r := r) (by rw [z]; simp)
          have o := t.can.ok r (by rw [z]; simp)
          unfold before at q
          omega
        · rw [List.mem_singleton.mp hs] at e
          exact nr e
    · omega
  · rw [mem_append, List.mem_append, List.mem_singleton, t.mem p]
    refine or_congr Iff.rfl ?_
    unfold Rw.mem inRow
    simp only [List.mem_singleton, exists_eq_left]
    constructor
    · rintro ⟨a, b, c⟩
      exact Prod.ext a.symm (by omega)
    · rintro rfl
      exact ⟨rfl, Int.le_refl _, Int.le_refl _⟩
theorem ixN_last (n : Nat) : ixN (n + 1) (-1) = some n := by
  unfold ixN
  rw [if_neg (by decide), if_pos (by omega)]
  congr 1
  omega
def spTold : Sp := fun vs H Q _ => ∃ (F : Hp) (v : V) (ps : List Pt), vs = [v] ∧ Same F H ∧ (kL kPt).is F v ps ∧ ps.Pairwise lt2 ∧ ps.length ≤ 1000000 ∧ RetL M0 F H kRow (ToldOf ps) Q
theorem pr_concat {α : Type} {R : V → α → Prop} {vs : List V} {xs : List α} {x : α} (h : Paired R vs (xs ++ [x])) : ∃ us u, vs = us ++ [u] ∧ Paired R us xs ∧ R u x := by
  have hl := pr_len h
  rw [List.length_append, List.length_singleton] at hl
  obtain ⟨u, hu, ru⟩ := pr_get' (i := xs.length) (x := x) h (by simp)
  refine ⟨vs.take xs.length, u, ?_, ?_, ru⟩
  · have e : vs.take (xs.length + 1) = vs.take xs.length ++ [u] := by rw [List.take_add_one, hu]; rfl
    rw [← e, ← hl, List.take_length]
  · have := pr_take xs.length h
    rw [List.take_left'] at this
    · exact this
    · rfl
theorem set_last {α : Type} (xs : List α) (x y : α) : (xs ++ [x]).set xs.length y = xs ++ [y] := by
  rw [List.set_append_right _ _ (Nat.le_refl _), Nat.sub_self]
  rfl
section
variable {P : Program} {w : World} {K : PySem.W.Frag} {mg : Str → Option Value} {base : Heap}
end
end Rw
namespace Rw
open PySem PySem.Spec PyProof.Rows L2
/-! ### D.__init__(self, ..) of an own class over ValueError without one -/
/-- what the class named must say -/
structure BaseI (K : PySem.W.Frag) (D : Addr) (mc : Value) : Prop where
  rd : PySem.W.readsIn K D mc = true
  ga : PySem.W.specialIn K (.ref D) "__getattribute__" = some (some (.builtin "type.__getattribute__"))
  fi : PySem.W.findCls K (.ref D) mc "__init__" = some (.val (.builtin "ValueError.__init__"))
section
variable {X : Cx} {e : Expr} {es : List Expr} {ta : TA} {x : Str} {D : Addr} {mc : Value} {p1 p2 pos : Pos}
theorem pe_baseI {pl : Sem Bool} (hg : Gl X x) (hm : X.mg x = some (.ref D)) (B : BaseI X.K D mc) (ha : PA X (e :: es) ta)
    (hc : eval (.Call (.Attribute (.Name x p1) "__init__" p2) (e :: es) [] pos) X.env = (do
      let b ← eval (.Name x p1) X.env
      standAt p2.atName
      let (f, one) ← holding [b] (getMethod b "__init__" pl)
      callWith pos f one (backTo pos (starEach (e :: es) X.env)) (backToKw pos (keywordEach [] X.env))) := by rfl)
    (he : starEach (e :: es) X.env = (false, eval e X.env) :: starEach es X.env := by rfl) (hpl : (backTo pos (starEach es X.env)).any (·.1) = false := by rfl) (hdb : (x == ("__debug__" : Str)) = false := by decide) :
    PE X (.Call (.Attribute (.Name x p1) "__init__" p2) (e :: es) [] pos) (tVeI X.K ta) := by
  constructor
  intro pins s σ H Q I h
  refine PySem.W.methodCall_KW (ld_glob I hg hm ?_ hdb) hc
  refine PySem.W.method_cls I.kIn B.ga (PySem.W.cls_value I.kIn B.rd B.fi (by decide +kernel) ?_)
  show wpAny _ _ (callWith pos (Value.builtin "ValueError.__init__") [] (backTo pos (starEach (e :: es) X.env)) []) _ _ _
  refine PyProof.Rows.callWith_method1 (thn (ha.run pos pins _ σ H _ (I.tok _) h) ?_) he hpl
  rintro us s1 ⟨vs, H1, I1, r1, a, C, ws, ev, hl, T, ea, q⟩
  subst ev
  cases r1 with
  | cons ra rw' =>
    rename_i u0 ur
    obtain rfl : u0 = Value.ref a := ra
    refine oinit_ok T I1 ea ?_ fun s' J => ⟨.non, H1, J, rfl, q⟩
    have := Paired.length rw'
    rw [sizeLine_eq]
    omega
end
/-! ### isinstance(e, c) of a caught exception of an own class, with or without fields -/
def exB (K : PySem.W.Frag) (D : Addr) : Bool := decide (PySem.W.findIn K (.ref D) "__getattribute__" = some (some (.builtin "BaseException.__getattribute__"))) && (decide (PySem.W.findIn K (.ref D) "__getattr__" = some none) &&
  (decide (PySem.W.subIn K (.ref D) (.type "BaseException") = some true) && (PySem.W.hasDictIn K D && (decide (PySem.W.findIn K (.ref D) "__class__" = some (some (.builtin "object.__class__"))) &&
  (decide (PySem.W.specialIn K (.builtin "object.__class__") "__get__" = some (some (.builtin "getset_descriptor.__get__"))) && (decide (PySem.W.takesIn K (.builtin "object.__class__") = some true) &&
  (decide (PySem.W.mroIn K D (.type "object") = some true) && (PySem.W.clsIn K D).isSome)))))))
/-- isinstance(e, c): e stands at a, its class is D, its dict d -/
def rIsX (K : PySem.W.Frag) (a : Addr) (cls : Value) (d : Option Addr) : List V → Hp → VK → Prop := fun xs H Q => ∃ (D : Addr) (c : V) (cv : Value) (b : Bool), cls = .ref D ∧ exB K D = true ∧ xs = [.ref a, c] ∧ (∀ u, RelV c u → u = cv) ∧
  PySem.W.kitOne K (.ref D) cv = some b ∧ (∀ dd, d = some dd → ∃ fs, H dd = some (.xd fs)) ∧ Q (.bl b) H
theorem call_isX {X : Cx} {a : Addr} {cls : Value} {d : Option Addr} {oe : Obj} {pn : List (Addr × Obj)} (hz : Zc cls d oe) (hf : ∃ vs, oe.data = .fields vs) : CallR (X.suite a ((a, oe) :: pn)) (.builtin "isinstance") (rIsX X.K a cls d) := by
  intro pins s σ H xs us Q I r h
  obtain ⟨D, c, cv, b, rfl, hD, rfl, hcv, e, hd, q⟩ := h
  unfold exB at hD
  simp only [Bool.and_eq_true, decide_eq_true_eq] at hD
  obtain ⟨g1, g2, g3, g4, g5, g6, g7, g8, g9⟩ := hD
  cases r with
  | cons rx rr =>
    cases rr with
    | cons rt rr =>
      cases rr
      cases rx
      have ec := hcv _ rt
      subst ec
      have hget := (I.pin (a, oe) (List.mem_append.mpr (.inl List.mem_cons_self))).1
      obtain ⟨vs, hv⟩ := hf
      obtain ⟨oc, od, oda, osl⟩ := oe
      obtain ⟨h1, h2⟩ := hz
      dsimp only at h1 h2 hv
      subst h1 h2 hv
      have J : ∃ oo, PySem.W.InstAt s.heap a ⟨.ref D, od, .fields vs, osl⟩ D oo := by
        cases od with
        | none => exact ⟨none, hget, rfl, rfl, trivial⟩
        | some dd =>
          obtain ⟨fs, hdd⟩ := hd dd rfl
          have hx : ObjOk X.prog X.w H s.heap dd (.xd fs) := I.hok dd _ hdd
          obtain ⟨mA, ⟨ob, es, ep, ho, hr⟩, _⟩ := hx
          exact ⟨some ob, hget, rfl, rfl, ho⟩
      obtain ⟨oo, J⟩ := J
      exact PySem.W.kia_one (PySem.W.kitx_exc g9 g1 g2 g3 g5 g6 g7 g8) I.kIn J e (fun z => nomatch z) fun tk => ⟨.bl b, H, I.kept (t' := tk) fun _ _ z => z, rfl, q⟩
/-! ### xs.count(y) of data -/
def rCountD (K : PySem.W.Frag) : V → List V → Hp → VK → Prop := fun x xs H Q => ∃ (a : Addr) (y : V) (d : PyData) (ds : List PyData), x = V.ref a ∧ xs = [y] ∧ Dp K H (V.ref a) (.list ds) ∧ Dp K H y d ∧
  SeqAt.shaped (.list ds) = true ∧ SeqAt.shaped d = true ∧ Q (.int (ds.countP (fun z => PyData.eqv z d) : Nat)) H
theorem mt_countD {X : Cx} (hu : X.A.units + 65 < cLine) : MtR X "list.count" (rCountD X.K) := by
  intro pins s σ H x xs v us Q I rx rxs h
  obtain ⟨a, y, d, ds, rfl, rfl, hl, hy, sl, sd, q⟩ := h
  cases rx
  cases rxs with
  | cons ry rt =>
    rename_i uy ut
    cases rt
    obtain ⟨bs, r1⟩ := Dp.reads I d y uy hy ry
    have lay : PyData.canLayAll0 ds = true := SeqAt.canLay_of_shaped sl
    cases hl with
    | lst hs ha =>
      obtain ⟨its, rv, ⟨⟨cls, dd, data, sls⟩, n, ho, hc, hdn, hdt⟩, hlen⟩ := I.list hs
      simp only at hc hdt
      subst hc hdt
      obtain ⟨as, h4⟩ := Dp.readsAll I ds _ its ha rv
      have em : its.map (SeqAt.readOf s.heap) = ds := SeqAt.readsAll_map ds its as lay h4
      refine call_meets PySem.F.slot_list_count ⟨_, ho, rfl⟩ PySem.F.entry_list_count (PySem.F.args_list_count_2 _ _)
        (SeqAt.list_countAt a its.toArray n dd sls uy (fun u => PyData.eqv (SeqAt.readOf s.heap u) d)) ⟨ho, SeqAt.items_eqAt (vs := its.toArray) (show ReadsAll s.heap its.toArray.toList ds as from h4) r1 lay (SeqAt.canLay_of_shaped sd) (room_in_shaped sd hu), ?_⟩
      have ec : its.toArray.toList.countP (fun u => PyData.eqv (SeqAt.readOf s.heap u) d) = ds.countP (fun z => PyData.eqv z d) := by
        rw [← em, List.countP_map]
        rfl
      rw [ec]
      exact ⟨.int (ds.countP (fun z => PyData.eqv z d) : Nat), H, I.tok _, ⟨_, rfl⟩, q⟩
end Rw
set_option maxHeartbeats 2000000
namespace Rw
open PySem PySem.Spec PyProof.Rows L2
/-! ### a lambda as a value: no parameter, or one with a written int as its default -/
inductive Df where
  | no
  | one (b : Str) (z : Int)
structure Lam where
  ps : Arguments
  body : Expr
  sc : Scope
  df : Df
/-- the lambda's object: its code object at c, its defaults dV -/
def FnO (X : Cx) (l : Lam) (f c : Addr) (dV : Value) : HO := .ext fun h => ∃ (pm doc ctv : Value), h.get? f = some (PySem.W.kdv_obj "<lambda>" (X.env.qual ++ "<lambda>") l.ps (.expr l.body) l.sc (cloFrom X.env.cells l.sc.names []) dV doc pm c ctv)
/-- its defaults -/
def DfAt (H : Hp) : Df → Value → Prop
  | .no, dV => dV = .none
  | .one _ z, dV => ∃ T, dV = .ref T ∧ H T = some (.tup [.int z])
/-- at f stands the lambda l, made in X -/
def LamAt (X : Cx) (l : Lam) (H : Hp) (f : Addr) : Prop := ∃ (c : Addr) (dV : Value), H f = some (FnO X l f c dV) ∧ H c = some (LamX.CodeO c (X.env.qual ++ "<lambda>")) ∧ DfAt H l.df dV
/-- what the making of a lambda does: the table at P grows, else things are new -/
structure Grow (P : Addr) (H H' : Hp) : Prop where
  keep : ∀ b o, H b = some o → b ≠ P → H' b = some o
  tr : ∀ b, H b ≠ none → H' b ≠ none
theorem Grow.refl {P : Addr} {H : Hp} : Grow P H H := ⟨fun _ _ h _ => h, fun _ h => h⟩
theorem Grow.trans {P : Addr} {H H1 H2 : Hp} (a : Grow P H H1) (b : Grow P H1 H2) : Grow P H H2 := ⟨fun c o h n => b.keep c o (a.keep c o h n) n, fun c h => b.tr c (a.tr c h)⟩
theorem Grow.new {P p : Addr} {H : Hp} {o : HO} (h : H p = none) : Grow P H (upd H p o) := ⟨fun b u e _ => by rw [upd_ne (ne_of_none e h)]; exact e, fun b e => by
  by_cases hb : b = p
  · rw [hb, upd_same]; simp
  · rw [upd_ne hb]; exact e⟩
theorem Grow.ext {P : Addr} {F H H' : Hp} (s : Same F H) (f : F P = none) (g : Grow P H H') : Ext (fun b => b = P) F H F H' :=
  ⟨Same.refl F, fun b o e => g.keep b o (s b o e) (ne_of_none e f), fun b o e m => g.keep b o e m, g.tr, fun _ _ => rfl⟩
section
variable {X : Cx} {pins : List (Addr × Obj)} {σ : L2.St} {H : Hp} {s : Shared}
theorem fnO_ok {l : Lam} {f c : Addr} {dV : Value} {h : Heap} (e : ∃ (pm doc ctv : Value), h.get? f = some (PySem.W.kdv_obj "<lambda>" (X.env.qual ++ "<lambda>") l.ps (.expr l.body) l.sc (cloFrom X.env.cells l.sc.names []) dV doc pm c ctv)) : ObjOk X.prog X.w H h f (FnO X l f c dV) := by
  obtain ⟨pm, doc, ctv, e⟩ := e
  exact ⟨⟨pm, doc, ctv, e⟩, ⟨_, e⟩, fun h1 h2 ⟨a, b, c, z⟩ k => ⟨a, b, c, k _ z⟩⟩
/-- the tail of the making: the defaults are known -/
theorem lam_tail {l : Lam} {c P : Addr} {dV : Value} {pos : Pos} {E : Value → Shared → Prop} {Q : Value → Shared → Prop} (I : Inv X pins σ H s) (TB : LamX.TabB X.base X.mg c P) (hcode : X.env.code = .ref c) (hT : LamX.TabS H P (X.env.qual ++ "<lambda>"))
    (hfree : ∀ y ∈ l.sc.names, y.2 = .free → ∃ c, X.env.cells.lookup y.1 = some c)
    (q : ∀ (f c' : Addr) (H1 : Hp) (s' : Shared), Inv X pins σ H1 s' → Grow P H H1 → LamX.TabS H1 P (X.env.qual ++ "<lambda>") → H f = none → H1 f = some (FnO X l f c' dV) → H1 c' = some (LamX.CodeO c' (X.env.qual ++ "<lambda>")) → Q (.ref f) s') :
    wpAny (model X.prog X.w) X.A (makeTail "<lambda>" (X.env.qual ++ "<lambda>") l.ps (.expr l.body) l.sc X.env dV .none none pos pos.line) Q E s := by
  obtain ⟨ps, hP, ht, ha⟩ := hT
  have bP : s.heap.BuiltinsAt X.mg P := TB.bm.keeps I.bk
  have hP' : s.heap.get? P = some { cls := .none, data := .fields ps } := I.hok P _ hP
  cases hc : codeAmong pos ps.toList with
  | none =>
    refine PySem.W.kdv_makeTail (mg := X.mg) (c := c) (P := P) (ps := ps) (closure_ok hfree) I.ok.glob (I.mod.glob.keeps I.bk) hcode (TB.code.keeps I.bk) hP' ht hc TB.gP bP ?_
    intro c' ctv doc h' tk hx hge hlt hrec htb
    obtain ⟨c2, oc, vs, t, e2, hoc, hd, hv⟩ := hrec
    cases e2
    have hsz : s.heap.objs.size ≤ h'.objs.size := Nat.le_trans hge (Nat.le_of_lt hlt)
    have nC : H c' = none := I.hok.fresh hge
    have nPc : P ≠ c' := ne_of_none hP nC
    have I1 := LamX.inv_table (t' := tk) (q := X.env.qual ++ "<lambda>") (more := #[rawInt pos.line, rawInt pos.col, .ref c']) (h' := h') I hP hx htb hge ⟨oc, vs, t, hoc, hd, hv⟩
    have g1 : Grow P H (upd (upd H P (.tbl (ps ++ #[rawInt pos.line, rawInt pos.col, .ref c']))) c' (LamX.CodeO c' (X.env.qual ++ "<lambda>"))) := by
      refine ⟨fun b o e n => by rw [upd_ne (ne_of_none e nC), upd_ne n]; exact e, fun b e => ?_⟩
      by_cases hb : b = c'
      · rw [hb, upd_same]; simp
      · rw [upd_ne hb]
        by_cases hb2 : b = P
        · rw [hb2, upd_same]; simp
        · rw [upd_ne hb2]; exact e
    have I2 := I1.laid (h' := h'.push (PySem.W.kdv_obj "<lambda>" (X.env.qual ++ "<lambda>") l.ps (.expr l.body) l.sc (cloFrom X.env.cells l.sc.names []) dV doc ((X.mg "__name__").getD .none) c' ctv)) (a := h'.objs.size) (o := FnO X l h'.objs.size c' dV) (t' := tk)
      (fun b u e => Heap.get?_push_of_some _ e) (Nat.le_refl _) (fnO_ok ⟨_, _, _, Heap.get?_push_size _ rfl⟩)
    have nf := I1.hok.fresh (Nat.le_refl h'.objs.size)
    have hcf : c' ≠ h'.objs.size := Nat.ne_of_lt hlt
    have hPf : P ≠ h'.objs.size := Nat.ne_of_lt (Nat.lt_of_lt_of_le (Heap.lt_size hP') hsz)
    refine q h'.objs.size c' _ _ I2 (g1.trans (Grow.new nf)) ⟨ps ++ #[rawInt pos.line, rawInt pos.col, .ref c'], ?_, ?_, fun p' cv hcv => ?_⟩ (I.hok.fresh hsz) upd_same ?_
    · rw [upd_ne hPf, upd_ne nPc, upd_same]
    · have eL : (ps ++ #[rawInt pos.line, rawInt pos.col, .ref c']).toList = ps.toList ++ [rawInt pos.line, rawInt pos.col, .ref c'] := by simp
      rw [eL]
      exact PySem.TriplesOk_snoc _ _ _ _ ht
    · have eL : (ps ++ #[rawInt pos.line, rawInt pos.col, .ref c']).toList = ps.toList ++ [rawInt pos.line, rawInt pos.col, .ref c'] := by simp
      rw [eL] at hcv
      rcases LamX.among_app _ ht hcv with z | z
      · obtain ⟨c0, e1, e2⟩ := ha p' cv z
        have n0 : c0 ≠ P := fun e => by
          rw [e, hP] at e2
          exact LamX.codeO_ne ps (Option.some.inj e2).symm
        exact ⟨c0, e1, (g1.trans (Grow.new nf)).keep _ _ e2 n0⟩
      · exact ⟨c', z, by rw [upd_ne hcf, upd_same]⟩
    · rw [upd_ne hcf, upd_same]
  | some cv =>
    obtain ⟨c', e, hco⟩ := ha pos cv hc
    subst e
    refine PySem.W.kdv_makeTailHit (mg := X.mg) (c := c) (P := P) (ps := ps) (closure_ok hfree) I.ok.glob (I.mod.glob.keeps I.bk) hcode (TB.code.keeps I.bk) hP' ht hc bP ?_
    intro ctv doc h' tk hx hsz
    have J : Inv X pins σ H { s with heap := h', toks := tk } := I.kept hx
    have nf := J.hok.fresh (Nat.le_refl h'.objs.size)
    have I2 := J.laid (h' := h'.push (PySem.W.kdv_obj "<lambda>" (X.env.qual ++ "<lambda>") l.ps (.expr l.body) l.sc (cloFrom X.env.cells l.sc.names []) dV doc ((X.mg "__name__").getD .none) c' ctv)) (a := h'.objs.size) (o := FnO X l h'.objs.size c' dV) (t' := tk)
      (fun b u e => Heap.get?_push_of_some _ e) (Nat.le_refl _) (fnO_ok ⟨_, _, _, Heap.get?_push_size _ rfl⟩)
    have tab : LamX.TabS (upd H h'.objs.size (FnO X l h'.objs.size c' dV)) P (X.env.qual ++ "<lambda>") := LamX.TabS.ext ⟨ps, hP, ht, ha⟩ (same_upd nf)
    exact q h'.objs.size c' _ _ I2 (Grow.new nf) tab nf upd_same (same_upd nf _ _ hco)
end
end Rw
namespace Rw
open PySem PySem.Spec PyProof.Rows L2
/-- the parameters say what the lambda's defaults are -/
def DfIs (l : Lam) : Prop := match l.df with
  | .no => l.ps.defaults = [] ∧ l.ps.kw_defaults = []
  | .one _ z => (∃ j p, l.ps.defaults = [.Constant (.int z) j p]) ∧ l.ps.kw_defaults = []
def tLamV (X : Cx) (P : Addr) (l : Lam) : TE := fun _ H Q => LamX.TabS H P (X.env.qual ++ "<lambda>") ∧ ∀ (f : Addr) (H1 : Hp), Grow P H H1 → LamX.TabS H1 P (X.env.qual ++ "<lambda>") → H f = none → LamAt X l H1 f → Q (.ref f) H1
theorem pe_lamV {X : Cx} {l : Lam} {c P : Addr} {ps : Arguments} {body : Expr} {sc : Scope} {pos : Pos} (e1 : l.ps = ps) (e2 : l.body = body) (e3 : l.sc = sc) (TB : LamX.TabB X.base X.mg c P) (hcode : X.env.code = .ref c)
    (hfree : ∀ y ∈ l.sc.names, y.2 = .free → X.env.scope.names.lookup y.1 = some .cell ∨ X.env.scope.names.lookup y.1 = some .free) (hdf : DfIs l) : PE X (.Lambda ps body sc pos) (tLamV X P l) := by
  subst e1 e2 e3
  constructor
  intro pins s σ H Q I h
  obtain ⟨hT, h⟩ := h
  have hfr : ∀ y ∈ l.sc.names, y.2 = .free → ∃ c, X.env.cells.lookup y.1 = some c := fun y hy e => (hfree y hy e).elim (fun k => I.ok.has _ (.inl k)) fun k => I.ok.has _ (.inr k)
  unfold DfIs at hdf
  cases hd : l.df with
  | no =>
    rw [hd] at hdf
    obtain ⟨d1, d2⟩ := hdf
    refine PySem.W.kla_eval ?_ ?_
    · rw [defaultsOf_eq, d1, d2]; rfl
    · rw [makeFunction_eq]
      simp only [List.zip_nil_right, List.filterMap_nil, List.isEmpty_nil, if_true, pure_bind]
      refine lam_tail I TB hcode hT hfr fun f c' H1 s' I1 g t hf e1 e2 => ⟨.ref f, H1, I1, rfl, h f H1 g t hf ⟨c', .none, e1, e2, ?_⟩⟩
      rw [hd]
      exact rfl
  | one b z =>
    rw [hd] at hdf
    obtain ⟨⟨j, p, d1⟩, d2⟩ := hdf
    refine PySem.W.kdv_lam ?_ d2 ?_
    · rw [d1]; rfl
    · rw [d1]
      refine PySem.W.kdv_all1 (thn ((pe_int (X := X) (i := z)).run pins s σ H (fun v H1 => v = .int z ∧ H1 = H) I ⟨rfl, rfl⟩) fun v0 s1 hv => ?_)
      obtain ⟨w1, H0, I1, r1, rfl, rfl⟩ := hv
      refine PySem.W.kdv_all0 ?_
      rw [makeFunction_eq]
      simp only [List.zip_nil_right, List.filterMap_nil, List.isEmpty_nil, if_true, pure_bind, List.isEmpty_cons, Bool.false_eq_true, if_false]
      refine wpAny_bind (wpAny_newTextTuple ?_)
      have hn : H0 s1.heap.objs.size = none := I1.hok.fresh (Nat.le_refl _)
      have I2 := I1.laid (h' := s1.heap.push { cls := .type "tuple", data := .seq [v0].toArray }) (a := s1.heap.objs.size) (o := .tup [.int z]) (t' := s1.toks) (fun b u e => Heap.get?_push_of_some _ e) (Nat.le_refl _)
        ⟨by show 1 ≤ sizeLine; rw [sizeLine_eq]; omega, [v0], .cons r1 .nil, ⟨_, Heap.get?_push_size _ rfl, rfl, _, rfl⟩⟩
      refine lam_tail I2 TB hcode (hT.ext (same_upd hn)) hfr fun f c' H1 s' I3 g t hf e1 e2 => ⟨.ref f, H1, I3, rfl, h f H1 ((Grow.new hn).trans g) t ?_ ⟨c', _, e1, e2, ?_⟩⟩
      · exact (same_upd hn).free hf
      · rw [hd]
        refine ⟨_, rfl, g.keep _ _ upd_same fun z => ?_⟩
        obtain ⟨ps, hp, _⟩ := hT
        rw [z, hp] at hn
        cases hn
end Rw
namespace Rw
open PySem PySem.Spec PyProof.Rows L2
/-- how the arguments of a call without any bind -/
def DfB (l : Lam) : Prop := match l.df with
  | .no => ∀ (q : Str) (cl : List (Str × Addr)) (doc pm cv ctv : Value), bindArgs (PySem.W.kdv_fn "<lambda>" q l.ps (.expr l.body) l.sc cl .none doc pm cv ctv) ⟨[], []⟩ = pure []
  | .one b _ => ∀ (q : Str) (cl : List (Str × Addr)) (T : Addr) (doc pm cv ctv : Value), ∃ k : Option (Array Value) → Sem (List (Str × Value)),
      bindArgs (PySem.W.kdv_fn "<lambda>" q l.ps (.expr l.body) l.sc cl (.ref T) doc pm cv ctv) ⟨[], []⟩ = seqItems? (.ref T) >>= k ∧ ∀ v, k (some #[v]) = pure [(b, v)]
def lamOkB (N : List Str) (sc : Scope) (l : Lam) : Bool := decide (l.sc.kind = .function) && (!l.sc.isCoroutine && (!l.sc.isGenerator && ((l.sc.names.all fun y => !decide (y.2 = .cell) && ((!decide (y.2 = .local) || !N.contains y.1) && (!decide (y.2 = .free) || (decide (sc.names.lookup y.1 = some .cell) || decide (sc.names.lookup y.1 = some .free))))) &&
  (match l.df with | .no => true | .one b _ => decide (l.sc.names.lookup b = some .local)))))
structure LamOk (N : List Str) (sc : Scope) (l : Lam) : Prop where
  kind : l.sc.kind = .function
  co : l.sc.isCoroutine = false
  gen : l.sc.isGenerator = false
  cell : ∀ y ∈ l.sc.names, y.2 ≠ .cell
  loc : ∀ y ∈ l.sc.names, y.2 = .local → y.1 ∉ N
  free : ∀ y ∈ l.sc.names, y.2 = .free → sc.names.lookup y.1 = some .cell ∨ sc.names.lookup y.1 = some .free
  par : match l.df with | .no => True | .one b _ => l.sc.names.lookup b = some .local
theorem lamOk_by {N : List Str} {sc : Scope} {l : Lam} (h : lamOkB N sc l = true) : LamOk N sc l := by
  unfold lamOkB at h
  simp only [Bool.and_eq_true, decide_eq_true_eq, List.all_eq_true, Bool.or_eq_true, Bool.not_eq_true', decide_eq_false_iff_not] at h
  obtain ⟨h1, h2, h3, h4, h5⟩ := h
  refine ⟨h1, h2, h3, fun y hy => (h4 y hy).1, fun y hy e z => ?_, fun y hy e => ?_, ?_⟩
  · rcases (h4 y hy).2.1 with q | q
    · exact q e
    · have := List.contains_iff_mem.mpr z
      rw [q] at this
      cases this
  · rcases (h4 y hy).2.2 with q | q
    · exact absurd e q
    · exact q
  · revert h5
    cases l.df with
    | no => exact fun _ => trivial
    | one b z => exact fun q => of_decide_eq_true q
/-- the lambda's frame -/
abbrev lEnv (X : Cx) (l : Lam) (L f c : Addr) : Env := PySem.W.envX (X.env.qual ++ "<lambda>") l.sc L f (.ref c) (cloFrom X.env.cells l.sc.names [])
/-- where the lambda's body stands, entered at s from the frames outer -/
def lCx (X : Cx) (A : Around) (outer : List Env) (s : Shared) (H : Hp) (E : XK) (l : Lam) (f c : Addr) : Cx where
  prog := X.prog
  w := X.w
  K := X.K
  mg := X.mg
  base := X.base
  A := A.deeper (lEnv X l s.heap.objs.size f c)
  N := X.N
  s_0 := s
  H_0 := H
  env := lEnv X l s.heap.objs.size f c
  outer := outer
  stack := lEnv X l s.heap.objs.size f c :: outer
  ex := []
  fn := fun _ => false
  calm := true
  pn := []
  xe := fun e t => wpAny (model X.prog X.w) (A.deeper (lEnv X l s.heap.objs.size f c)) (leaving (lEnv X l s.heap.objs.size f c) e) (fun _ u => L2.CX X.prog X.w outer H s E e u) (fun e' u => L2.CX X.prog X.w outer H s E e' u) t
section
variable {X : Cx} {pins : List (Addr × Obj)} {σ : L2.St} {H HZ : Hp} {s s1 : Shared}
theorem lam_in {A : Around} {outer : List Env} {E : XK} {l : Lam} {f c' : Addr} {h₁ : Heap} {tk : Nat} {bn : List (Str × Value)} (I : Inv X pins σ H s) (L : LamOk X.N X.env.scope l) (e0 : Env0 X.prog X.w X.K X.mg X.base A outer s1 HZ) (hd : A.handled = none)
    (un : Un (frs X.stack) [] H HZ s.heap s1.heap) (hns : h₁.Ns s1.heap.objs.size fun y => bn.reverse.lookup y) (kp : ∀ b o, s1.heap.get? b = some o → h₁.get? b = some o) :
    Inv (lCx X A outer s1 HZ E l f c') [] σ HZ { s1 with heap := h₁, toks := tk } := by
  have has : ∀ y ∈ l.sc.names, y.2 = .free → ∃ c, X.env.cells.lookup y.1 = some c := fun y hy e => (L.free y hy e).elim (fun k => I.ok.has _ (.inl k)) fun k => I.ok.has _ (.inr k)
  have cm : ∀ {y c}, (cloFrom X.env.cells l.sc.names []).lookup y = some c → X.env.cells.lookup y = some c := by
    intro y c e
    rcases cloFrom_mem (PySem.mem_of_lookup e) with hm | ⟨h1, h2⟩
    · cases hm
    · obtain ⟨c1, hc⟩ := has _ h1 rfl
      have hc' : X.env.cells.lookup y = some c1 := hc
      have e2 : c = c1 := by
        rw [h2, hc'] <;> rfl
      rw [e2]
      exact hc'
  have look : ∀ {y}, l.sc.names.lookup y = some .free → ∃ c, (cloFrom X.env.cells l.sc.names []).lookup y = some c := fun {y} hl => mem_lookup (cloFrom_has (cells := X.env.cells) (acc := []) (PySem.mem_of_lookup hl))
  have cellK : ∀ {c : Addr} {v : Option Value}, H c = none → s.heap.IsCell c v → h₁.IsCell c v := by
    rintro c v n ⟨o, ho, hd⟩
    obtain ⟨sl, q⟩ := un.any ho n (by simp)
    exact ⟨_, kp _ _ q, hd⟩
  have noA : ∀ b : Addr, b ∉ (lCx X A outer s1 HZ E l f c').ex := fun b z => absurd (show b ∈ ([] : List Addr) from z) (by simp)
  have ok : (lCx X A outer s1 HZ E l f c').Ok := by
    refine ⟨e0.mod, L.kind, rfl, rfl, Nat.le_refl _, fun y z c e1 e2 => I.ok.inj y z c (cm e1) (cm e2), ?_, fun y c z _ => ?_, fun _ => hd, Around.frames_deeper e0.frames, .inr ⟨rfl, rfl⟩, fun b z => absurd z (noA b), e0.bs, e0.bsz, fun b _ _ => noA b, fun b z => absurd z (noA b), e0.funs, e0.frf⟩
    · intro y hy
      rcases (show l.sc.names.lookup y = some .cell ∨ l.sc.names.lookup y = some .free from hy) with hy | hy
      · exact absurd rfl (L.cell _ (PySem.mem_of_lookup hy))
      · exact look hy
    · have z : false = true := z
      cases z
  refine ⟨ok, rfl, e0.bare, Un.kept kp, ⟨_, hns, fun i y v e1 e2 e3 => ?_⟩, fun y c e => ?_, e0.hok.fresh (Nat.le_refl _), fun y c e => ?_, fun q hq => absurd (show q ∈ ([] : List (Addr × Obj)) ++ [] from hq) (by simp), e0.hok.kept kp, I.len⟩
  · have e1' : X.N[i]? = some y := e1
    rcases (show Vis l.sc y from e3) with k | k | k
    · exact absurd (List.mem_of_getElem? e1') (L.loc _ (PySem.mem_of_lookup k) rfl)
    · exact absurd rfl (L.cell _ (PySem.mem_of_lookup k))
    · obtain ⟨m, hn, hl⟩ := I.loc
      have fr := L.free _ (PySem.mem_of_lookup k) rfl
      obtain ⟨w', r, q⟩ := hl i y v e1 e2 (fr.elim (fun k => .inr (.inl k)) fun k => .inr (.inr k))
      obtain ⟨c2, h2⟩ := look k
      refine ⟨w', r, .inr ⟨.inr k, c2, h2, ?_⟩⟩
      have c1 := cm h2
      rcases q with ⟨k', _⟩ | ⟨_, c3, e', z⟩
      · have k' : X.env.scope.names.lookup y = some .local := k'
        rcases fr with k2 | k2 <;> rw [show X.env.scope.names.lookup y = _ from k2] at k' <;> cases k'
      · rw [c1] at e'
        cases e'
        exact cellK (I.freeC y _ c1) z
  · obtain ⟨w', z⟩ := I.cell y c (cm e)
    exact ⟨w', cellK (I.freeC y c (cm e)) z⟩
  · obtain ⟨v, o, ho, hd⟩ := I.cell y c (cm e)
    exact un.free c o ho (I.freeC y c (cm e)) (by simp)
/-- x(), within a def that got the lambda and was entered at s -/
theorem pe_actV {CXg : CXT} {Eg : XK} {Ng : List Str} {qg : Str} {sg : Scope} {g : Addr} {cdg : Value} {k i : Nat} {a : Str} {pn : List (Addr × Obj)} {xe : Value → Shared → Prop} {W : WX} {E : XK} {p1 p2 : Pos} {LS : List Lam} {tb : Lam → TE}
    (I : Inv X pins σ H s) (tk : Takes ((cxOf CXg X.prog X.w X.K X.mg X.base Ng qg sg g cdg X.A X.stack s H Eg).tr pn xe) W) (hr : Room (k + 1) (X.A.deeper (envOfC qg sg s.heap.objs.size g cdg)))
    (L : ∀ l ∈ LS, LamOk X.N X.env.scope l ∧ DfB l ∧ ∀ (A : Around) (outer : List Env) (s : Shared) (H : Hp) (f c' : Addr), Room k (A.deeper (lEnv X l s.heap.objs.size f c')) → PE (lCx X A outer s H E l f c') l.body (tb l))
    (hN : Ng[i]? = some a) (hv : Vis sg a) (hd : (a == ("__debug__" : Str)) = false := by decide) (hcd : (a == ("__classdict__" : Str)) = false := by decide) :
    PE ((cxOf CXg X.prog X.w X.K X.mg X.base Ng qg sg g cdg X.A X.stack s H Eg).tr pn xe) (.Call (.Name a p1) [] [] p2)
      (fun σZ HZ Q => (∀ cls d H', E cls d H' → W cls d σZ H') ∧ ∃ l ∈ LS, ∃ f, σZ[i]? = some (some (.ref f)) ∧ LamAt X l HZ f ∧ tb l σ HZ Q) := by
  constructor
  intro pinsZ sZ σZ HZ Q IZ h
  obtain ⟨hW, l, hl, f, hs, ⟨c', dV, hfo, hc, hdv⟩, ht⟩ := h
  obtain ⟨Lo, Lb, hbody⟩ := L l hl
  refine wpAny_Call_Name_kw (thn ((pe_var (pos := p1) (i := i) hN hv hd hcd).run pinsZ sZ σZ HZ (fun v H1 => v = .ref f ∧ H1 = HZ) IZ ⟨.ref f, hs, rfl, rfl⟩) ?_)
  rintro u s1 ⟨v, H1, I1, r1, rfl, rfl⟩
  obtain rfl : u = Value.ref f := r1
  obtain ⟨⟨pm, doc, ctv, of1⟩, _, _⟩ := I1.hok f _ hfo
  refine PySem.W.callWith_F0 ⟨_, _, _, _, of1⟩ ?_
  have un : Un (frs X.stack) [] H H1 s.heap s1.heap := I1.base
  obtain ⟨⟨oc, vs, t, hoc, hdc, hvc⟩, _, _⟩ := I1.hok c' _ hc
  have hbind : ∃ bn, BindsTo s1 (PySem.W.kdv_fn "<lambda>" (X.env.qual ++ "<lambda>") l.ps (.expr l.body) l.sc (cloFrom X.env.cells l.sc.names []) dV doc pm (.ref c') ctv) ⟨[], []⟩ bn ∧ ∀ y ∈ bn, l.sc.names.lookup y.1 = some .local := by
    unfold DfB at Lb
    have par := Lo.par
    cases e : l.df with
    | no =>
      rw [e] at Lb hdv
      obtain rfl : dV = .none := hdv
      exact ⟨[], BindsTo.of_eq (Lb _ _ _ _ _ _), fun y hy => absurd hy (by simp)⟩
    | one b z =>
      rw [e] at Lb hdv par
      obtain ⟨T, rfl, hT⟩ := hdv
      obtain ⟨kk, k1, k2⟩ := Lb (X.env.qual ++ "<lambda>") (cloFrom X.env.cells l.sc.names []) T doc pm (.ref c') ctv
      obtain ⟨_, its, rv, ⟨⟨tc, td, tdata, tsl⟩, ho, htc, n, htd⟩⟩ := I1.hok T _ hT
      simp only at htc htd
      subst htc htd
      cases rv with
      | cons ra rest =>
        rename_i u0 us0
        cases rest
        exact ⟨[(b, u0)], BindsTo.of_defaults rfl ho rfl k1 (k2 u0), fun y hy => by rw [List.mem_singleton.mp hy]; exact par⟩
  obtain ⟨bn, hbn, hbl⟩ := hbind
  have rc : codeAny (model X.prog X.w) (X.A.deeper (envOfC qg sg s.heap.objs.size g cdg)) (.call (.ref f) ⟨[], []⟩) (CR (L2.CX X.prog X.w) (envOfC qg sg s.heap.objs.size g cdg :: X.stack) X.prog X.w H1 s1 Q E) s1 := by
    refine PySem.W.kla_callFunE hr.depth of1 rfl Lo.co Lo.gen rfl ⟨c', oc, vs, t, rfl, hoc, hdc, hvc⟩ (hbn _ _ _ _ ?_)
    refine wpAny_newFunctionEnv Lo.cell hbl (fun h₁ hns hsb => ⟨I1.nolimit.fresh _ hsb, ?_⟩) Lo.kind
    show codeAny _ _ (.expr l.body (lEnv X l s1.heap.objs.size f c')) _ _
    have kp : ∀ b o, s1.heap.get? b = some o → h₁.get? b = some o := fun b o e => hsb.extBut b o (Nat.ne_of_lt (Heap.lt_size e)) (Heap.get?_push_of_some _ e)
    have J := lam_in (A := X.A.deeper (envOfC qg sg s.heap.objs.size g cdg)) (outer := envOfC qg sg s.heap.objs.size g cdg :: X.stack) (E := E) (f := f) (c' := c') (tk := s1.toks + bn.length) I Lo I1.env0 hr.hd un hns kp
    refine PySem.W.kla_codeExpr (wpAny_mono ((hbody _ _ s1 H1 f c' (hr.deeper _)).run [] _ _ H1 Q J ht) ?_ fun e s' hq => hq)
    rintro v s' ⟨w', H', J', rv, q⟩
    exact ⟨w', H', J'.os, J'.bare, J'.base, J'.hok, rv, q⟩
  refine wpAny_call (codeAny_mono rc fun r s' hq => ?_)
  cases r with
  | error e => exact tk e s' (XE.of_call I1 (fun cls d H' h => hW cls d H' h) hq)
  | ok fl =>
    cases fl with
    | ret u => exact I1.after hq
    | next => exact False.elim hq
    | brk => exact False.elim hq
    | cont => exact False.elim hq
end
end Rw
set_option maxHeartbeats 2000000
namespace Rw
open PySem PySem.Spec PyProof.Rows L2
/-! ### the refusals' classes, by their names -/
def exN : List Str := ["BadStretches", "NoHouse", "BadCount", "BadDeed", "NoDeed", "BadText", "NotYet", "TooOld", "BadEvent"]
def exWs : List Str := ["stretches", "house", "count", "deed", "none", "text", "not yet", "old", "event"]
def exW (i : Nat) : Str := exWs.getD i ""
def exAddr (K : PySem.W.Frag) (x : Str) : Option Addr := match PySem.W.nsIn K mainGlobals x with
  | some (some (.ref C)) => some C
  | _ => none
def exD (K : PySem.W.Frag) : Addr := (exAddr K "DoneError").getD 0
def exC (K : PySem.W.Frag) (i : Nat) : Addr := (exAddr K (exN.getD i "")).getD 0
def exOneB (K : PySem.W.Frag) (C : Addr) : Bool := exB K C && (xfB K C && (decide (PySem.W.exmOne K (.ref C) (.ref (exD K)) = some true) && (decide (PySem.W.kitOne K (.ref C) (.type "ValueError") = some true) &&
  (decide (PySem.W.findIn K (.ref C) "at" = some none) && decide (PySem.W.findIn K (.ref C) "place" = some none)))))
def exAllB (K : PySem.W.Frag) : Bool := (exAddr K "DoneError").isSome && ((List.range 9).all fun i => (exAddr K (exN.getD i "")).isSome && (exOneB K (exC K i) &&
  (List.range 9).all fun j => decide (PySem.W.kitOne K (.ref (exC K i)) (.ref (exC K j)) = some (decide (i = j)))))
theorem exAddr_mg {K : PySem.W.Frag} {h : Heap} {mg : Str → Option Value} {x : Str} (X : K.In h) (G : h.Ns mainGlobals mg) (e : (exAddr K x).isSome = true) : mg x = some (.ref ((exAddr K x).getD 0)) := by
  unfold exAddr at e ⊢
  split at e
  · rename_i C q
    exact PySem.W.mg_of X G q
  · cases e
/-- what the head tells of the refusals -/
structure ToldC (K : PySem.W.Frag) (mg : Str → Option Value) : Prop where
  isinst : mg "isinstance" = none
  ve : mg "ValueError" = none
  gD : mg "DoneError" = some (.ref (exD K))
  all : exAllB K = true
  g : ∀ i, i < 9 → mg (exN.getD i "") = some (.ref (exC K i))
theorem toldC_mk {K : PySem.W.Frag} {h : Heap} {mg : Str → Option Value} (X : K.In h) (G : h.Ns mainGlobals mg) (a : exAllB K = true) (i : mg "isinstance" = none) (v : mg "ValueError" = none) : ToldC K mg := by
  have a' := a
  unfold exAllB at a'
  simp only [Bool.and_eq_true, List.all_eq_true, List.mem_range] at a'
  exact ⟨i, v, exAddr_mg X G a'.1, a, fun i hi => exAddr_mg X G (a'.2 i hi).1⟩
structure ExIs (K : PySem.W.Frag) (i : Nat) : Prop where
  b : exB K (exC K i) = true
  xf : XfC K (exC K i)
  m : PySem.W.exmOne K (.ref (exC K i)) (.ref (exD K)) = some true
  v : PySem.W.kitOne K (.ref (exC K i)) (.type "ValueError") = some true
  at_ : PySem.W.findIn K (.ref (exC K i)) "at" = some none
  pl : PySem.W.findIn K (.ref (exC K i)) "place" = some none
  k : ∀ j, j < 9 → PySem.W.kitOne K (.ref (exC K i)) (.ref (exC K j)) = some (decide (i = j))
theorem ToldC.is {K : PySem.W.Frag} {mg : Str → Option Value} (T : ToldC K mg) {i : Nat} (hi : i < 9) : ExIs K i := by
  have a' := T.all
  unfold exAllB exOneB at a'
  simp only [Bool.and_eq_true, List.all_eq_true, List.mem_range, decide_eq_true_eq] at a'
  obtain ⟨_, ⟨h1, h2, h3, h4, h5, h6⟩, h7⟩ := a'.2 i hi
  exact ⟨h1, xfB_ok h2, h3, h4, h5, h6, h7⟩
/-! ### told: what is wished of a refusal -/
def EW (K : PySem.W.Frag) (Q : VK) : XK := fun cls d H => ∃ i, i < 9 ∧ cls = .ref (exC K i) ∧ (∀ dd, d = some dd → ∃ fs, H dd = some (.xd fs)) ∧
  (if i = 0 ∨ i = 3 ∨ i = 8 then ∃ dd fs v, d = some dd ∧ H dd = some (.xd fs) ∧ fs.lookup ("at" : Str) = some v ∧ ∀ H' t, Same H H' → H t = none → H' t = some (.tup [.str (exW i), v]) → Q (.ref t) H'
   else if i = 5 then ∃ dd fs v, d = some dd ∧ H dd = some (.xd fs) ∧ fs.lookup ("place" : Str) = some v ∧ ∀ H' t, Same H H' → H t = none → H' t = some (.tup [.str (exW i), v]) → Q (.ref t) H'
   else ∀ H' t, Same H H' → H t = none → H' t = some (.tup [.str (exW i)]) → Q (.ref t) H')
def kindsD (i : Nat) : List PyData := (List.range 9).map fun j => .bool (decide (i = j))
theorem kinds_count : ∀ i : Nat, i < 9 → (kindsD i).countP (fun z => PyData.eqv z (.bool true)) = 1 := by
  intro i hi
  have h : ∀ i : Fin 9, (kindsD i.1).countP (fun z => PyData.eqv z (.bool true)) = 1 := by decide
  exact h ⟨i, hi⟩
theorem kinds_shaped : ∀ i : Nat, i < 9 → SeqAt.shaped (.list (kindsD i)) = true := by
  intro i hi
  have h : ∀ i : Fin 9, SeqAt.shaped (.list (kindsD i.1)) = true := by decide +kernel
  exact h ⟨i, hi⟩
theorem kinds_get {i m : Nat} (hm : m < 9) : (kindsD i)[m]? = some (.bool (decide (i = m))) := by
  unfold kindsD
  rw [List.getElem?_map, List.getElem?_range hm]
  rfl
theorem kinds_at : ∀ i : Nat, i < 9 → ∀ m, m < i → (kindsD i)[m]? = some (.bool false) := by
  intro i hi m hm
  rw [kinds_get (by omega), decide_eq_false (by omega)]
theorem kinds_hit : ∀ i : Nat, i < 9 → (kindsD i)[i]? = some (.bool true) := by
  intro i hi
  rw [kinds_get hi, decide_eq_true rfl]
theorem exW_at : ∀ i : Nat, i < 9 → (exWs.map V.str)[i]? = some (.str (exW i)) := by
  intro i hi
  have h : ∀ i : Fin 9, (exWs.map V.str)[i.1]? = some (.str (exW i.1)) := fun i => by
    match i with
    | ⟨0, _⟩ | ⟨1, _⟩ | ⟨2, _⟩ | ⟨3, _⟩ | ⟨4, _⟩ | ⟨5, _⟩ | ⟨6, _⟩ | ⟨7, _⟩ | ⟨8, _⟩ => rfl
  exact h ⟨i, hi⟩
theorem exW_in : ∀ i : Nat, i < 9 → inV (.str (exW i)) [.str "stretches", .str "deed", .str "event"] = decide (i = 0 ∨ i = 3 ∨ i = 8) := by
  intro i hi
  have h : ∀ i : Fin 9, inV (.str (exW i.1)) [.str "stretches", .str "deed", .str "event"] = decide (i.1 = 0 ∨ i.1 = 3 ∨ i.1 = 8) := by decide
  exact h ⟨i, hi⟩
theorem exW_text : ∀ i : Nat, i < 9 → decide ((V.str (exW i)) = V.str "text") = decide (i = 5) := by
  intro i hi
  have h : ∀ i : Fin 9, decide ((V.str (exW i.1)) = V.str "text") = decide (i.1 = 5) := by decide
  exact h ⟨i, hi⟩
end Rw
set_option maxHeartbeats 4000000
namespace Rw
open PySem PySem.Spec PyProof.Rows L2
theorem bt_ve : bootBuiltins "ValueError" = some (.type "ValueError") := by decide +kernel
theorem dp_bools {K : PySem.W.Frag} {H : Hp} : ∀ bs : List Bool, DpAll K H (bs.map V.bl) (bs.map PyData.bool)
  | [] => .nil
  | b :: bs => .cons (.bl b) (dp_bools bs)
theorem suite_ok {P : Program} {w : World} {K : PySem.W.Frag} {mg : Str → Option Value} {base : Heap} {g : Addr} {cdg : Value} {A : Around} {outer : List Env} {s : Shared} {H0 : Hp} {a : Addr} {oe : Obj} {cls : Value} {d : Option Addr} {pn : List (Addr × Obj)} {k : Nat}
    (T : ToldC K mg) (hr : Room k (A.deeper (envOfC "_law_told" (defScope s_law_told) s.heap.objs.size g cdg))) (hz : Zc cls d oe) (hf : ∃ vs, oe.data = .fields vs) :
    ∃ st b0 np p1 p2 p3 p4 bt, defBody s_law_told = [.Try [.Return (some (.Call (.Name "_law_work" p1) [] [] p2)) p3] [.ExceptHandler (some (.Name "DoneError" np)) (some "e") (b0 :: st) p4] [] [] bt] ∧
    PSs ((cxOf CX0 P w K mg base ["_law_work", "e", "_law_kinds", "_law_words", "_law_word"] "_law_told" (defScope s_law_told) g cdg A outer s H0 E0).nox.suite a ((a, oe) :: pn)) (b0 :: st)
      (fun D σ H => (∃ x0 y2 y3 y4, σ = [x0, some (.ref a), y2, y3, y4]) ∧ EW K D.rt cls d H) := by
  refine ⟨_, _, _, _, _, _, _, _, rfl, ⟨fun pins s' σ H D I h => ?_⟩⟩
  obtain ⟨⟨x0, y2, y3, y4, rfl⟩, i, hi, rfl, hd, hw⟩ := h
  have X := T.is hi
  have hu : ((cxOf CX0 P w K mg base ["_law_work", "e", "_law_kinds", "_law_words", "_law_word"] "_law_told" (defScope s_law_told) g cdg A outer s H0 E0).nox.suite a ((a, oe) :: pn)).A.units + 65 < cLine := by
    have := hr.un
    show (A.deeper (envOfC "_law_told" (defScope s_law_told) s.heap.objs.size g cdg)).units + 65 < _
    omega
  have nd : (["_law_work", "e", "_law_kinds", "_law_words", "_law_word"] : List Str).Nodup := sc_law_told.nd
  have g0 : mg "BadStretches" = some (.ref (exC K 0)) := T.g 0 (by decide)
  have g1 : mg "NoHouse" = some (.ref (exC K 1)) := T.g 1 (by decide)
  have g2 : mg "BadCount" = some (.ref (exC K 2)) := T.g 2 (by decide)
  have g3 : mg "BadDeed" = some (.ref (exC K 3)) := T.g 3 (by decide)
  have g4 : mg "NoDeed" = some (.ref (exC K 4)) := T.g 4 (by decide)
  have g5 : mg "BadText" = some (.ref (exC K 5)) := T.g 5 (by decide)
  have g6 : mg "NotYet" = some (.ref (exC K 6)) := T.g 6 (by decide)
  have g7 : mg "TooOld" = some (.ref (exC K 7)) := T.g 7 (by decide)
  have g8 : mg "BadEvent" = some (.ref (exC K 8)) := T.g 8 (by decide)
  have hdm : ∀ {H' : Hp}, Same H H' → ∀ dd, d = some dd → ∃ fs, H' dd = some (.xd fs) := fun sm dd e => (hd dd e).imp fun fs z => sm _ _ z
  refine (pss_cons (ps_set (i := 2) nd rfl (.inl rfl) (pe_lst (pa_cons (pe_callB (call_isX hz hf) (by rfl) T.isinst (by decide +kernel) (pa_cons (pv 1) (pa_cons (pe_glob (v := .ref (exC K 0)) (by rfl) g0 rfl) pa_nil)))
      (pa_cons (pe_callB (call_isX hz hf) (by rfl) T.isinst (by decide +kernel) (pa_cons (pv 1) (pa_cons (pe_glob (v := .ref (exC K 1)) (by rfl) g1 rfl) pa_nil)))
      (pa_cons (pe_callB (call_isX hz hf) (by rfl) T.isinst (by decide +kernel) (pa_cons (pv 1) (pa_cons (pe_glob (v := .ref (exC K 2)) (by rfl) g2 rfl) pa_nil)))
      (pa_cons (pe_callB (call_isX hz hf) (by rfl) T.isinst (by decide +kernel) (pa_cons (pv 1) (pa_cons (pe_glob (v := .ref (exC K 3)) (by rfl) g3 rfl) pa_nil))) pa_nil))))))
    (pss_cons (ps_set (i := 2) nd rfl (.inl rfl) (pe_op op_cat (pv 2) (pe_lst (pa_cons (pe_callB (call_isX hz hf) (by rfl) T.isinst (by decide +kernel) (pa_cons (pv 1) (pa_cons (pe_glob (v := .ref (exC K 4)) (by rfl) g4 rfl) pa_nil)))
      (pa_cons (pe_callB (call_isX hz hf) (by rfl) T.isinst (by decide +kernel) (pa_cons (pv 1) (pa_cons (pe_glob (v := .ref (exC K 5)) (by rfl) g5 rfl) pa_nil)))
      (pa_cons (pe_callB (call_isX hz hf) (by rfl) T.isinst (by decide +kernel) (pa_cons (pv 1) (pa_cons (pe_glob (v := .ref (exC K 6)) (by rfl) g6 rfl) pa_nil)))
      (pa_cons (pe_callB (call_isX hz hf) (by rfl) T.isinst (by decide +kernel) (pa_cons (pv 1) (pa_cons (pe_glob (v := .ref (exC K 7)) (by rfl) g7 rfl) pa_nil))) pa_nil)))))))
    (pss_cons (ps_expr (pe_bm PySem.F.plainAttrs_list PySem.F.slot_list_append PySem.F.type_list_append mt_append (pv 2) (pa_cons (pe_callB (call_isX hz hf) (by rfl) T.isinst (by decide +kernel) (pa_cons (pv 1) (pa_cons (pe_glob (v := .ref (exC K 8)) (by rfl) g8 rfl) pa_nil))) pa_nil)))
    (pss_cons (ps_set (i := 3) nd rfl (.inl rfl) (pe_lst (pa_cons pe_str (pa_cons pe_str (pa_cons pe_str (pa_cons pe_str (pa_cons pe_str (pa_cons pe_str (pa_cons pe_str (pa_cons pe_str (pa_cons pe_str pa_nil)))))))))))
    (pss_cons (ps_if (PW.pt (pw_or (pt_cmpR op_ne (pe_bm PySem.F.plainAttrs_list PySem.F.slot_list_count PySem.F.type_list_count (mt_countD hu) (pv 2) (pa_cons pe_bl pa_nil)) pe_int (nomark _))
        (pw_or1 (pt_not (pt_val (pe_callB (call_isX hz hf) (by rfl) T.isinst (by decide +kernel) (pa_cons (pv 1) (pa_cons (pe_bty (by rfl) T.ve bt_ve) pa_nil)))))))) (pss_one (ps_ret (pe_tup (pa_cons pe_str pa_nil)))) pss_nil)
    (pss_cons (ps_set (i := 4) nd rfl (.inl rfl) (pe_ix ix_list (pv 3) (pe_bm PySem.F.plainAttrs_list PySem.F.slot_list_index PySem.F.type_list_index (mt_indexD hu) (pv 2) (pa_cons pe_bl pa_nil)) (fun _ _ => rfl)))
    (pss_cons (ps_if (pt_cmpR op_in_seq (pv 4) (pe_tup (pa_cons pe_str (pa_cons pe_str (pa_cons pe_str pa_nil)))) (by rfl)) (pss_one (ps_ret (pe_tup (pa_cons (pv 4) (pa_cons (pe_xf X.xf X.at_ hz hf (pv 1)) pa_nil))))) pss_nil)
    (pss_one (ps_ret (pe_ifExp (pt_cmpR op_eq (pv 4) pe_str (nomark _)) (pe_tup (pa_cons (pv 4) (pa_cons (pe_xf X.xf X.pl hz hf (pv 1)) pa_nil))) (pe_tup (pa_cons (pv 4) pa_nil)))))))))))).run pins s' _ H D I ?_
  refine ⟨_, rfl, exC K i, .ref (exC K 0), .ref (exC K 0), _, rfl, X.b, rfl, fun u r => r, X.k 0 (by decide), hdm (Same.refl H), _, rfl, exC K i, .ref (exC K 1), .ref (exC K 1), _, rfl, X.b, rfl, fun u r => r, X.k 1 (by decide), hdm (Same.refl H), _, rfl, exC K i, .ref (exC K 2), .ref (exC K 2), _, rfl, X.b, rfl, fun u r => r, X.k 2 (by decide), hdm (Same.refl H), _, rfl, exC K i, .ref (exC K 3), .ref (exC K 3), _, rfl, X.b, rfl, fun u r => r, X.k 3 (by decide), hdm (Same.refl H), by show 4 ≤ sizeLine; decide, fun l nl => ?_⟩
  have s1 : Same H (upd H l (.lst [.bl (decide (i = 0)), .bl (decide (i = 1)), .bl (decide (i = 2)), .bl (decide (i = 3))])) := same_upd nl
  have h1 : upd H l (.lst [.bl (decide (i = 0)), .bl (decide (i = 1)), .bl (decide (i = 2)), .bl (decide (i = 3))]) l = some (.lst [.bl (decide (i = 0)), .bl (decide (i = 1)), .bl (decide (i = 2)), .bl (decide (i = 3))]) := upd_same
  revert s1 h1
  generalize upd H l (.lst [V.bl (decide (i = 0)), .bl (decide (i = 1)), .bl (decide (i = 2)), .bl (decide (i = 3))]) = H1
  intro s1 h1
  refine ⟨_, rfl, _, rfl, exC K i, .ref (exC K 4), .ref (exC K 4), _, rfl, X.b, rfl, fun u r => r, X.k 4 (by decide), hdm s1, _, rfl, exC K i, .ref (exC K 5), .ref (exC K 5), _, rfl, X.b, rfl, fun u r => r, X.k 5 (by decide), hdm s1, _, rfl, exC K i, .ref (exC K 6), .ref (exC K 6), _, rfl, X.b, rfl, fun u r => r, X.k 6 (by decide), hdm s1, _, rfl, exC K i, .ref (exC K 7), .ref (exC K 7), _, rfl, X.b, rfl, fun u r => r, X.k 7 (by decide), hdm s1, by show 4 ≤ sizeLine; decide, fun l2 nl2 => ?_⟩
  refine ⟨l, l2, _, _, rfl, rfl, same_upd nl2 _ _ h1, upd_same, by show 4 + 4 ≤ sizeLine; decide, fun l3 nl3 => ?_⟩
  have s3 : Same H (upd (upd H1 l2 (.lst [.bl (decide (i = 4)), .bl (decide (i = 5)), .bl (decide (i = 6)), .bl (decide (i = 7))])) l3 (.lst ([.bl (decide (i = 0)), .bl (decide (i = 1)), .bl (decide (i = 2)), .bl (decide (i = 3))] ++ [.bl (decide (i = 4)), .bl (decide (i = 5)), .bl (decide (i = 6)), .bl (decide (i = 7))]))) := (s1.trans (same_upd nl2)).trans (same_upd nl3)
  have n3 : H l3 = none := (s1.trans (same_upd nl2)).free nl3
  have h3 : upd (upd H1 l2 (.lst [.bl (decide (i = 4)), .bl (decide (i = 5)), .bl (decide (i = 6)), .bl (decide (i = 7))])) l3 (.lst ([.bl (decide (i = 0)), .bl (decide (i = 1)), .bl (decide (i = 2)), .bl (decide (i = 3))] ++ [.bl (decide (i = 4)), .bl (decide (i = 5)), .bl (decide (i = 6)), .bl (decide (i = 7))])) l3 = some (.lst ([.bl (decide (i = 0)), .bl (decide (i = 1)), .bl (decide (i = 2)), .bl (decide (i = 3))] ++ [.bl (decide (i = 4)), .bl (decide (i = 5)), .bl (decide (i = 6)), .bl (decide (i = 7))])) := upd_same
  revert s3 h3
  generalize upd (upd H1 l2 (.lst [V.bl (decide (i = 4)), .bl (decide (i = 5)), .bl (decide (i = 6)), .bl (decide (i = 7))])) l3 (.lst ([V.bl (decide (i = 0)), .bl (decide (i = 1)), .bl (decide (i = 2)), .bl (decide (i = 3))] ++ [V.bl (decide (i = 4)), .bl (decide (i = 5)), .bl (decide (i = 6)), .bl (decide (i = 7))])) = H3
  intro s3 h3
  refine ⟨_, rfl, .inl ⟨rfl, _, SqL.of h3⟩, _, rfl, exC K i, .ref (exC K 8), .ref (exC K 8), _, rfl, X.b, rfl, fun u r => r, X.k 8 (by decide), hdm s3, l3, _, _, rfl, rfl, h3, by show 8 < sizeLine; decide, ?_⟩
  have s4 : Same H (upd H3 l3 (.lst ([.bl (decide (i = 0)), .bl (decide (i = 1)), .bl (decide (i = 2)), .bl (decide (i = 3))] ++ [.bl (decide (i = 4)), .bl (decide (i = 5)), .bl (decide (i = 6)), .bl (decide (i = 7))] ++ [.bl (decide (i = 8))]))) := fun b o e => by
    rw [upd_ne (ne_of_none e n3)]
    exact s3 _ _ e
  have h4 : upd H3 l3 (.lst ([.bl (decide (i = 0)), .bl (decide (i = 1)), .bl (decide (i = 2)), .bl (decide (i = 3))] ++ [.bl (decide (i = 4)), .bl (decide (i = 5)), .bl (decide (i = 6)), .bl (decide (i = 7))] ++ [.bl (decide (i = 8))])) l3 = some (.lst (((List.range 9).map fun j => decide (i = j)).map V.bl)) := upd_same
  revert s4 h4
  generalize upd H3 l3 (.lst ([V.bl (decide (i = 0)), .bl (decide (i = 1)), .bl (decide (i = 2)), .bl (decide (i = 3))] ++ [V.bl (decide (i = 4)), .bl (decide (i = 5)), .bl (decide (i = 6)), .bl (decide (i = 7))] ++ [V.bl (decide (i = 8))])) = H4
  intro s4 h4
  refine ⟨by show 9 ≤ sizeLine; decide, fun lw nlw => ?_⟩
  have s5 : Same H (upd H4 lw (.lst [V.str "stretches", .str "house", .str "count", .str "deed", .str "none", .str "text", .str "not yet", .str "old", .str "event"])) := s4.trans (same_upd nlw)
  have h5 : upd H4 lw (.lst [V.str "stretches", .str "house", .str "count", .str "deed", .str "none", .str "text", .str "not yet", .str "old", .str "event"]) l3 = _ := same_upd nlw _ _ h4
  have hw5 : upd H4 lw (.lst [V.str "stretches", .str "house", .str "count", .str "deed", .str "none", .str "text", .str "not yet", .str "old", .str "event"]) lw = some (.lst (exWs.map V.str)) := upd_same
  revert s5 h5 hw5
  generalize upd H4 lw (.lst [V.str "stretches", .str "house", .str "count", .str "deed", .str "none", .str "text", .str "not yet", .str "old", .str "event"]) = H5
  intro s5 h5 hw5
  clear s1 h1 s3 h3 s4 h4 nl nl2 nl3 nlw n3
  have hL : Dp K H5 (V.ref l3) (.list (kindsD i)) := .lst (SqL.of h5) (by
    have := dp_bools (K := K) (H := H5) ((List.range 9).map fun j => decide (i = j))
    rw [List.map_map (l := List.range 9) (g := PyData.bool)] at this
    exact this)
  refine ⟨_, rfl, .inl ⟨rfl, _, SqL.of h5⟩, l3, .bl true, .bool true, kindsD i, rfl, rfl, hL, .bl true, kinds_shaped i hi, by decide +kernel, ?_⟩
  rw [kinds_count i hi]
  refine ⟨rfl, false, rfl, iteF ?_⟩
  refine ⟨_, rfl, exC K i, .ty "ValueError", .type "ValueError", _, rfl, X.b, rfl, fun u r => r, X.v, hdm s5, true, rfl, iteF ?_⟩
  refine ⟨_, rfl, _, rfl, .inl ⟨rfl, _, SqL.of h5⟩, l3, .bl true, .bool true, kindsD i, i, .bool true, rfl, rfl, hL, .bl true, kinds_shaped i hi, by decide +kernel, kinds_hit i hi, rfl, fun m z hm e => ?_, ?_⟩
  · rw [kinds_at i hi m hm] at e
    cases e
    rfl
  refine ⟨lw, _, _, _, rfl, rfl, SqL.of hw5, atI_nat (exW_at i hi), ?_⟩
  refine ⟨_, rfl, by show 3 ≤ sizeLine; decide, fun p np => ⟨p, _, rfl, .inr (SqT.of upd_same), rfl, rfl, ?_⟩⟩
  have s6 : Same H (upd H5 p (.tup [.str "stretches", .str "deed", .str "event"])) := s5.trans (same_upd np)
  revert s6
  generalize upd H5 p (.tup [V.str "stretches", .str "deed", .str "event"]) = H6
  intro s6
  rw [if_neg Bool.false_ne_true, exW_in i hi]
  by_cases c1 : i = 0 ∨ i = 3 ∨ i = 8
  · rw [if_pos c1] at hw
    obtain ⟨dd, fs, v, hdd, hfs, hl, q⟩ := hw
    refine ⟨true, by rw [decide_eq_true c1], iteT ?_⟩
    refine ⟨_, rfl, _, rfl, rfl, rfl, dd, fs, v, hdd, s6 _ _ hfs, hl, by show 2 ≤ sizeLine; decide, fun t nt => ?_⟩
    exact q _ t (s6.trans (same_upd nt)) (s6.free nt) upd_same
  · rw [if_neg c1] at hw
    refine ⟨false, by rw [decide_eq_false c1], iteF ?_⟩
    refine ⟨_, rfl, rfl, _, rfl, ?_⟩
    rw [exW_text i hi]
    by_cases c2 : i = 5
    · rw [if_pos c2] at hw
      obtain ⟨dd, fs, v, hdd, hfs, hl, q⟩ := hw
      rw [decide_eq_true c2]
      refine iteT ⟨_, rfl, _, rfl, rfl, rfl, dd, fs, v, hdd, s6 _ _ hfs, hl, by show 2 ≤ sizeLine; decide, fun t nt => ?_⟩
      exact q _ t (s6.trans (same_upd nt)) (s6.free nt) upd_same
    · rw [if_neg c2] at hw
      rw [decide_eq_false c2]
      refine iteF ⟨_, rfl, by show 1 ≤ sizeLine; decide, fun t nt => ?_⟩
      exact hw _ t (s6.trans (same_upd nt)) (s6.free nt) upd_same
end Rw
set_option maxHeartbeats 2000000
namespace Rw
open PySem PySem.Spec PyProof.Rows L2
/-- _law_told(e): e gives one of the lambdas LS, made in X -/
def tTold (X : Cx) (LS : List Lam) (tb : XK → Lam → TE) (te : TE) : TE := fun σ H Q => te σ H fun v H1 => ∃ l ∈ LS, ∃ f, v = .ref f ∧ LamAt X l H1 f ∧ tb (EW X.K Q) l σ H1 Q
theorem pe_told {X : Cx} {e : Expr} {te : TE} {LS : List Lam} {tb : XK → Lam → TE} {k : Nat} {g : Addr} {fd : FuncData} {p pos : Pos} (T : ToldC X.K X.mg) (F : Fun X.K "_law_told" "_law_told" s_law_told g fd) (hg : Gl X "_law_told") (hm : X.mg "_law_told" = some (.ref g))
    (hr : Room (k + 2) X.A) (he : PE X e te)
    (L : ∀ l ∈ LS, LamOk X.N X.env.scope l ∧ DfB l ∧ ∀ (E : XK) (A : Around) (outer : List Env) (s : Shared) (H : Hp) (f c' : Addr), Room k (A.deeper (lEnv X l s.heap.objs.size f c')) → PE (lCx X A outer s H E l f c') l.body (tb E l))
    (h1 : starEach [e] X.env = (false, eval e X.env) :: starEach [] X.env := by rfl) (h2 : (backTo pos (starEach [] X.env)).any (·.1) = false := by rfl) :
    PE X (.Call (.Name "_law_told" p) [e] [] pos) (tTold X LS tb te) := by
  constructor
  intro pins s σ H Q I h
  obtain ⟨oc, od, kV, doc, pm, an, cdv, ct, osl, rfl, lk, hcd⟩ := id F.ex
  have hb : Binds X.K (PySem.W.fnOf "_law_told" "_law_told" (defArgs s_law_told) (defBody s_law_told) (defScope s_law_told) .none kV doc pm an cdv ct) ["_law_work"] [] := F.binds fun _ _ _ _ _ _ us hl => match us, hl with | [_], _ => rfl
  refine wpAny_Call_Name_kw (ld_glob I hg hm ?_)
  refine PySem.W.callWith_K (h₀ := X.base) I.ok.mod.kin F.kp (thn ((pa_cons he pa_nil h1).run pos pins s σ H (fun vs H1 => ∃ v, vs = [v] ∧ ∃ l ∈ LS, ∃ f, v = .ref f ∧ LamAt X l H1 f ∧ tb (EW X.K Q) l σ H1 Q) I ?_) ?_) h1 h2
  · show te σ H fun v H1 => ∃ v', [v] = [v'] ∧ _
    have e0 : (fun (v : V) (H1 : Hp) => ∃ v', [v] = [v'] ∧ ∃ l ∈ LS, ∃ f, v' = .ref f ∧ LamAt X l H1 f ∧ tb (EW X.K Q) l σ H1 Q) = fun v H1 => ∃ l ∈ LS, ∃ f, v = .ref f ∧ LamAt X l H1 f ∧ tb (EW X.K Q) l σ H1 Q := by
      funext v H1
      exact propext ⟨fun ⟨v', e, z⟩ => by cases e; exact z, fun z => ⟨v, rfl, z⟩⟩
    rw [e0]
    exact h
  rintro us s1 ⟨vs, H1, I1, r, v, rfl, l, hl, f, rfl, hla, q⟩
  refine ⟨I1.kIn, ?_⟩
  have rc : codeAny (model X.prog X.w) X.A (.call (.ref g) ⟨us, []⟩) (CR CX0 X.stack X.prog X.w H1 s1 Q E0) s1 := by
    refine LamX.run_ofS (N := ["_law_work", "e", "_law_kinds", "_law_words", "_law_word"]) (ps := ["_law_work"]) (us := us) (vs := [.ref f]) lk hcd sc_law_told hr I1.env0 ?_ r rfl fun hr' => ?_
    · have := hb s1 us I1.kIn (by rw [List.append_nil, ← r.length]; rfl)
      rwa [List.append_nil] at this
    · refine ⟨_, (pss_one (ps_try_as (X := (cxOf CX0 X.prog X.w X.K X.mg X.base ["_law_work", "e", "_law_kinds", "_law_words", "_law_word"] "_law_told" (defScope s_law_told) g cdv X.A X.stack s1 H1 E0).nox) (i := 1) (x := "DoneError") (n := "e") (c := .ref (exD X.K))
        (tb := fun W D σ' H' => (∀ cls d H'', EW X.K Q cls d H'' → W cls d σ' H'') ∧ ∃ l ∈ LS, ∃ f, σ'[0]? = some (some (.ref f)) ∧ LamAt X l H' f ∧ tb (EW X.K Q) l σ H' D.rt)
        (ts := fun a cls d D σ' H' => (∃ x0 y2 y3 y4, σ' = [x0, some (.ref a), y2, y3, y4]) ∧ EW X.K D.rt cls d H')
        rfl rfl sc_law_told.nd rfl rfl ⟨rfl, by decide, .inl T.gD⟩ takes0 (fun W pn xe tk _ => ?body) (fun a oe cls d pn hz hf => ?suite))).nox, ?read⟩
      case body =>
        exact pss_one (ps_ret (pe_actV (CXg := CX0) (Eg := E0) (Ng := ["_law_work", "e", "_law_kinds", "_law_words", "_law_word"]) (qg := "_law_told") (sg := defScope s_law_told) (g := g) (cdg := cdv) (k := k) (i := 0) (a := "_law_work") (pn := pn) (xe := xe) (W := W) (E := EW X.K Q) (LS := LS) (tb := tb (EW X.K Q)) I1 tk hr'
          (fun l hl => ⟨(L l hl).1, (L l hl).2.1, (L l hl).2.2 _⟩) rfl (.inl rfl)))
      case suite =>
        obtain ⟨st', b0', np', p1', p2', p3', p4', bt', eb', hs⟩ := suite_ok (P := X.prog) (w := X.w) (base := X.base) (g := g) (cdg := cdv) (A := X.A) (outer := X.stack) (s := s1) (H0 := H1) (pn := pn) T hr' hz hf
        cases eb'
        exact hs
      case read =>
        refine ⟨fun cls d H'' ew => ?_, l, hl, f, rfl, hla, q⟩
        obtain ⟨i, hi, ec, z⟩ := id ew
        refine ⟨true, by rw [ec]; exact (T.is hi).m, fun _ a na => ⟨⟨_, _, _, _, rfl⟩, ?_⟩, fun z => by cases z⟩
        exact ew
  refine wpAny_call (codeAny_mono rc fun r s2 hq => ?_)
  cases r with
  | error e => exact (show False from hq).elim
  | ok fl =>
    cases fl with
    | ret u => exact I1.after hq
    | next => exact False.elim hq
    | brk => exact False.elim hq
    | cont => exact False.elim hq
end Rw
namespace Rw
open PySem PySem.Spec PyProof.Rows L2
/-! ### rows that may be none: triples of ints -/
instance (r : Row) : Decidable (RowOk r) := by unfold RowOk; infer_instance
def badAt (rs : List Row) : Option Nat := rs.findIdx? fun r => !decide (RowOk r)
theorem badAt_none {rs : List Row} : badAt rs = none ↔ ∀ r ∈ rs, RowOk r := by
  unfold badAt
  rw [List.findIdx?_eq_none_iff]
  constructor
  · intro h r hr
    have := h r hr
    simpa using this
  · intro h r hr
    simpa using h r hr
theorem badAt_some {rs : List Row} {i : Nat} {r : Row} (h1 : ∀ j s, j < i → rs[j]? = some s → RowOk s) (h2 : rs[i]? = some r) (h3 : ¬ RowOk r) : badAt rs = some i := by
  unfold badAt
  rw [List.findIdx?_eq_some_iff_getElem]
  obtain ⟨hi, e⟩ := List.getElem?_eq_some_iff.mp h2
  refine ⟨hi, by rw [e]; simpa using h3, fun j hj => ?_⟩
  have := h1 j _ hj (List.getElem?_eq_getElem (by omega))
  simpa using this
theorem badAt_lt {rs : List Row} {i : Nat} (h : badAt rs = some i) : i < rs.length := by
  unfold badAt at h
  rw [List.findIdx?_eq_some_iff_getElem] at h
  exact h.1
def wrongV (rs : List Row) : V := match badAt rs with
  | none => .non
  | some i => .int i
def spIsRowX : Sp := fun vs H Q _ => ∃ (v : V) (r : Row), vs = [v] ∧ kRow.is H v r ∧ Q (.bl (decide (RowOk r))) H
def spFirstWrongX : Sp := fun vs H Q _ => ∃ (v : V) (rs : List Row), vs = [v] ∧ (kL kRow).is H v rs ∧ rs.length ≤ 200 ∧ ∀ H', Same H H' → Q (wrongV rs) H'
/-- __init__ of the refusals that keep one number under f -/
def spExInit (K : PySem.W.Frag) (f : Str) : Sp := fun vs H Q _ => ∃ (a C : Addr) (z : Int), vs = [.ref a, .int z] ∧ z.natAbs.log2 < 1920 ∧ H a = some (exo a C none) ∧ OexC K C ∧ PySem.W.findIn K (.ref C) f = some none ∧
  ∀ dx, H dx = none → dx ≠ a → Q .non (upd (upd H dx (exd dx [(f, .int z)])) a (exo a C (some dx)))
/-- what is refused of rows -/
def BadAt (K : PySem.W.Frag) (H : Hp) (i : Nat) (E : XK) : Prop := ∀ (H' : Hp) (d : Addr), Same H H' → H d = none → H' d = some (.xd [("at", .int i)]) → E (.ref (exC K 0)) (some d) H'
def spCheckRowsX (K : PySem.W.Frag) : Sp := fun vs H Q E => ∃ (v : V) (rs : List Row), vs = [v] ∧ (kL kRow).is H v rs ∧ rs.length ≤ 200 ∧ (badAt rs = none → ∀ H', Same H H' → Q .non H') ∧ ∀ i, badAt rs = some i → BadAt K H i E
section
variable {P : Program} {w : World} {K : PySem.W.Frag} {mg : Str → Option Value} {base : Heap}
theorem ok_is_rowX {f : Addr} {fd : FuncData} (F : Fun K "is_row" "is_row" s_is_row f fd) (T : TxA mg) (CN : Cal P w K mg base 1 "is_number" ["value", "low", "high"] spIsNumber) (CH : Cal P w K mg base 2 "is_house" ["value"] spIsHouse) : FnOk P w K mg base CX0 3 f fd ["row"] spIsRowX := by
  obtain ⟨f1, fd1, G1, g1, kp1, b1⟩ := CN
  obtain ⟨f2, fd2, G2, g2, kp2, b2⟩ := CH
  obtain ⟨tl, hl⟩ := T.lim
  refine F.ok sc_is_row (fun vs H Q E h => ?_) (fun cdv A outer s H vs Q E hr h => ?_)
  · obtain ⟨v, r, rfl, _⟩ := h
    rfl
  · obtain ⟨v, r, rfl, ⟨t, rfl, ht⟩, q⟩ := h
    have hr1 : Room 1 _ := hr.mono (by decide)
    refine ⟨_, pss_cons (ps_if (PW.pt (pw_or (pt_not (pt_val (pe_callB call_isi (by rfl) T.isinst (by decide +kernel) (pa_cons (pv 0) (pa_cons (pe_bty (by rfl) T.tuple bt_tuple) pa_nil)))))
        (pw_or1 (pt_cmpR op_ne (pe_callB call_len (by rfl) T.len PySem.boot_len (pa_cons (pv 0) pa_nil)) pe_int (nomark _))))) (pss_one (ps_ret pe_bl)) pss_nil)
      (pss_cons (ps_asg (pv 0) (pg_tup (by rfl) (pgs_cons (pg_name (i := 1) sc_is_row.nd rfl (.inl rfl)) (pgs_cons (pg_name (i := 2) sc_is_row.nd rfl (.inl rfl)) (pgs_cons (pg_name (i := 3) sc_is_row.nd rfl (.inl rfl)) pgs_nil)))))
      (pss_one (ps_ret (pe_and (pe_call G2 hr (by rfl) g2 kp2 b2 .nil pass0 (pa_cons (pv 1) pa_nil))
        (pe_and (pe_call G1 hr1 (by rfl) g1 kp1 b1 .nil pass0 (pa_cons (pv 2) (pa_cons pe_int (pa_cons (pe_glob (v := .int LIM) (by rfl) hl ⟨_, rfl⟩) pa_nil))))
          (pe_one (pe_call G1 hr1 (by rfl) g1 kp1 b1 .nil pass0 (pa_cons (pv 3) (pa_cons (pv 2) (pa_cons (pe_glob (v := .int LIM) (by rfl) hl ⟨_, rfl⟩) pa_nil)))))))))), ?_⟩
    refine ⟨_, rfl, _, .ty "tuple", _, _, _, rfl, .ty _, tyx_tup ht, kit_tt, true, rfl, iteF ?_⟩
    refine ⟨_, rfl, _, 3, rfl, .inr ⟨_, SqT.of ht, rfl⟩, rfl, false, by decide, iteF ?_⟩
    refine ⟨_, rfl, _, _, rfl, SqT.of ht, rfl, _, _, rfl, _, _, rfl, _, _, rfl, rfl, ?_⟩
    refine ⟨_, rfl, r.1, rfl, _, rfl, ite2 (fun c1 => ?_) (fun c1 => ?_)⟩
    · have c1 := of_decide_eq_true c1
      refine ⟨_, rfl, r.2.1, 1, LIM, rfl, _, rfl, ite2 (fun c2 => ?_) (fun c2 => ?_)⟩
      · have c2 := of_decide_eq_true c2
        refine ⟨_, rfl, _, rfl, r.2.2, r.2.1, LIM, rfl, ?_⟩
        have e : decide (r.2.1 ≤ r.2.2 ∧ r.2.2 ≤ LIM) = decide (RowOk r) := decide_eq_decide.mpr ⟨fun z => ⟨c1.1, c1.2, c2.1, z.1, z.2⟩, fun z => ⟨z.2.2.2.1, z.2.2.2.2⟩⟩
        rw [e]
        exact q
      · have e : decide (RowOk r) = false := decide_eq_false fun z => c2 (decide_eq_true ⟨z.2.2.1, Int.le_trans z.2.2.2.1 z.2.2.2.2⟩)
        rw [e] at q
        exact q
    · have e : decide (RowOk r) = false := decide_eq_false fun z => c1 (decide_eq_true ⟨z.1, z.2.1⟩)
      rw [e] at q
      exact q
theorem ok_first_wrongX {f : Addr} {fd : FuncData} (F : Fun K "first_wrong" "first_wrong" s_first_wrong f fd) (T : TxA mg) (CR : Cal P w K mg base 3 "is_row" ["row"] spIsRowX) : FnOk P w K mg base CX0 4 f fd ["rows"] spFirstWrongX := by
  obtain ⟨f1, fd1, G1, g1, kp1, b1⟩ := CR
  obtain ⟨tm, hm⟩ := T.most
  refine F.ok sc_first_wrong (fun vs H Q E h => ?_) (fun cdv A outer s H vs Q E hr h => ?_)
  · obtain ⟨v, rs, rfl, _⟩ := h
    rfl
  · obtain ⟨v, rs, rfl, ⟨a, xs, rfl, ha, hp⟩, hl, q⟩ := h
    have el : xs.length = rs.length := pr_len hp
    have ec : cutV xs none (some 200) = xs := by
      unfold cutV
      rw [show HT.sIx xs.length 0 none = 0 from rfl, List.drop_zero, List.take_of_length_le]
      show xs.length ≤ (if (200 : Int) < 0 then ((200 : Int) + (xs.length : Int)).toNat else min (200 : Int).toNat xs.length) - 0
      rw [if_neg (by decide)]
      have : (200 : Int).toNat = 200 := rfl
      omega
    refine ⟨_, pss_cons (ps_for PassesOwn.never rfl (pi_enum (by rfl) T.enum (pa_cons (pe_slice sl_list (pv 0) po_none (po_some (pe_glob (v := .int 200) (by rfl) hm ⟨_, rfl⟩))) pa_nil))
          (pg_tup rfl (pgs_cons (pg_name (i := 1) sc_first_wrong.nd rfl (.inl rfl)) (pgs_cons (pg_name (i := 2) sc_first_wrong.nd rfl (.inl rfl)) pgs_nil)))
        (pss_one (ps_if (pt_not (pt_val (pe_call G1 hr (by rfl) g1 kp1 b1 .nil pass0 (pa_cons (pv 2) pa_nil)))) (pss_one (ps_ret (pv 1))) pss_nil)))
      (pss_one (ps_ret (pe_ifExp (pt_cmpR op_gt (pe_callB call_len (by rfl) T.len PySem.boot_len (pa_cons (pv 0) pa_nil)) (pe_glob (v := .int 200) (by rfl) hm ⟨_, rfl⟩) (nomark _))
        (pe_glob (v := .int 200) (by rfl) hm ⟨_, rfl⟩) pe_non))), ?_⟩
    refine ⟨_, rfl, 200, rfl, a, xs, rfl, SqL.of ha, fun p np => ?_⟩
    rw [ec]
    refine ⟨p, _, rfl, SqL.of upd_same, for_it (walk_enum (K := K) (a := p) (xs := xs)) (fun i σ H' => Same H H' ∧ SqL K H' p xs ∧ (∀ j r, j < i → rs[j]? = some r → RowOk r) ∧ ∃ x y, σ = [some (.ref a), x, y])
      ⟨same_upd np, SqL.of upd_same, fun j r hj _ => by omega, none, none, rfl⟩ (fun _ _ _ _ h => h.2.1) ?_ ?_⟩
    · rintro i x σ H1 H2 hi ⟨s1, l1, ok, x0, y0, rfl⟩ ⟨U, i', row, rfl, nU, rfl, ei, er⟩
      have s2 : Same H (upd H1 U (.tup [i', row])) := s1.trans (same_upd nU)
      obtain ⟨r, hr1, hr2⟩ := pr_get hp er
      refine ⟨U, _, rfl, SqT.of upd_same, rfl, i', [row], rfl, row, [], rfl, rfl, ?_⟩
      refine ⟨_, rfl, _, r, rfl, kRow.mono s2 hr2, _, rfl, ?_⟩
      by_cases c : RowOk r
      · rw [decide_eq_true c]
        refine iteF ⟨s2, (same_upd nU).seq l1, fun j s hj hs => ?_, _, _, rfl⟩
        by_cases e : j = i
        · subst e
          rw [hr1] at hs
          cases hs
          exact c
        · exact ok j s (by omega) hs
      · rw [decide_eq_false c]
        refine iteT ⟨_, rfl, ?_⟩
        have e := badAt_some ok hr1 c
        have qq := q _ s2
        unfold wrongV at qq
        rw [e] at qq
        cases ei
        exact qq
    · rintro σ H1 ⟨s1, l1, ok, x0, y0, rfl⟩
      have la : H1 a = some (.lst xs) := s1 _ _ ha
      refine ⟨_, rfl, _, xs.length, rfl, .inl ⟨_, SqL.of la, rfl⟩, _, _, rfl, rfl, _, rfl, ?_⟩
      rw [decide_eq_false (show ¬ (xs.length : Int) > 200 by omega)]
      have e : badAt rs = none := badAt_none.mpr fun r hr => by
        obtain ⟨j, hj⟩ := List.mem_iff_getElem?.mp hr
        exact ok j r (by have := (List.getElem?_eq_some_iff.mp hj).1; omega) hj
      have qq := q _ s1
      unfold wrongV at qq
      rw [e] at qq
      exact iteF qq
theorem ok_exInit {f : Addr} {fd : FuncData} {D : Addr} {mc : Value} (F : Fun K "__init__" "BadStretches.__init__" s_BadStretches___init__ f fd) (gD : mg "DoneError" = some (.ref D)) (B : BaseI K D mc) : FnOk P w K mg base CX0 1 f fd ["self", "at"] (spExInit K "at") := by
  refine F.ok sc_BadStretches___init__ (fun vs H Q E h => ?_) (fun cdv A outer s H vs Q E hr h => ?_)
  · obtain ⟨a, C, z, rfl, _⟩ := h
    rfl
  · obtain ⟨a, C, z, rfl, hz, ha, T, hno, q⟩ := h
    refine ⟨_, pss_cons (ps_expr (pe_baseI (by rfl) gD B (pa_cons (pv 0) (pa_cons (pe_joined (PJ.cons pe_str (PJ.cons (pe_fmt (pv 1)) PJ.nil))) pa_nil))))
      (pss_one (ps_ost (pv 0) (pv 1))), ?_⟩
    refine ⟨_, rfl, _, rfl, by rw [sizeLine_eq]; decide, _, rfl, .inr ⟨z, rfl, hz, _, rfl, ?_, a, C, _, rfl, by show 1 ≤ 1000; decide, T, ha, ?_⟩⟩
    · have h1 := PyProof.Rows.int_text_len_1921 hz
      rw [Str.length_append, Str.length_append]
      have h2 : (Str.empty : Str).length + (Str.ofString "no stretch at place ").length ≤ 100 := by decide +kernel
      rw [sizeLine_eq]
      omega
    · refine ⟨_, rfl, _, rfl, a, C, rfl, T, hno, .inl ⟨ha, fun dx hx ne => q dx hx ne⟩⟩
/-- the refusal that keeps a number may be made -/
def ExCal (P : Program) (w : World) (K : PySem.W.Frag) (mg : Str → Option Value) (base : Heap) (i : Nat) (f : Str) : Prop := ∃ (fI : Addr) (fd : FuncData), OexC K (exC K i) ∧ PySem.W.findIn K (.ref (exC K i)) "__init__" = some (some (.ref fI)) ∧
  PySem.W.typeIn K (.ref fI) = some (.type "function") ∧ FnOk P w K mg base CX0 1 fI fd ["self", f] (spExInit K f) ∧ Binds K fd ["self", f] [] ∧ PySem.W.findIn K (.ref (exC K i)) f = some none ∧ mg (exN.getD i "") = some (.ref (exC K i))
theorem same_del {H : Hp} {a dx : Addr} {o o2 u x : HO} (na : H a = none) (nd : H dx = none) (ne : dx ≠ a) : Same H (upd (del (upd (upd (upd H a o) dx u) a o2) a) dx x) := fun b y e => by
  rw [upd_ne (ne_of_none e nd), del_ne (ne_of_none e na), upd_ne (ne_of_none e na), upd_ne (ne_of_none e nd), upd_ne (ne_of_none e na)]
  exact e
theorem ok_check_rowsX {f : Addr} {fd : FuncData} (F : Fun K "check_rows" "check_rows" s_check_rows f fd) (XC : ExCal P w K mg base 0 "at") (CR : Cal P w K mg base 4 "first_wrong" ["rows"] spFirstWrongX) : FnOk P w K mg base (L2.CX P w) 5 f fd ["rows"] (spCheckRowsX K) := by
  obtain ⟨f1, fd1, G1, g1, kp1, b1⟩ := CR
  obtain ⟨fI, fdI, T, iC, tI, GI, bI, hno, gB⟩ := XC
  have gB' : mg "BadStretches" = some (.ref (exC K 0)) := gB
  refine F.okX sc_check_rows (fun vs H Q E h => ?_) (fun cdv A outer s H vs Q E hr h => ?_)
  · obtain ⟨v, rs, rfl, _⟩ := h
    rfl
  · obtain ⟨v, rs, rfl, hv, hl, q1, q2⟩ := h
    have hr2 : Room 2 _ := hr.mono (by decide)
    refine ⟨_, pss_cons (ps_set (i := 1) sc_check_rows.nd rfl (.inl rfl) (pe_call G1 hr (by rfl) g1 kp1 b1 .nil pass0 (pa_cons (pv 0) pa_nil)))
      (pss_one (ps_if (pt_cmpR op_notN (pv 1) pe_non (nomark _)) (pss_one (ps_raise rfl (takes_of rfl rfl rfl rfl) (pmk_oex T iC tI GI hr2 bI .nil pass0 (by rfl) gB' (pa_cons (pv 1) pa_nil)))) pss_nil)), ?_⟩
    refine ⟨_, rfl, v, rs, rfl, hv, hl, fun H1 s1 => ?_⟩
    unfold wrongV
    cases e : badAt rs with
    | none => exact ⟨_, rfl, rfl, _, rfl, iteF (q1 e _ s1)⟩
    | some i =>
      refine ⟨_, rfl, rfl, _, rfl, iteT ⟨_, rfl, by show 1 ≤ 1000; decide, fun a na => ⟨a, exC K 0, (i : Int), rfl, ?_, upd_same, T, hno, fun dx nx ne => ⟨rfl, dx, [("at", .int i)], ?_, ?_, ?_, ?_⟩⟩⟩⟩
      · have h1 := badAt_lt e
        have h2 := Nat.log2_le_self i
        show (Int.natAbs (i : Int)).log2 < 1920
        rw [Int.natAbs_natCast]
        omega
      · exact upd_same
      · rw [upd_ne ne, upd_same]
      · rw [upd_ne ne] at nx; exact nx
      · rw [upd_ne ne] at nx
        exact q2 i e _ _ (s1.trans (same_del na nx ne)) (s1.free nx) upd_same
end
end Rw
namespace Rw
open PySem PySem.Spec PyProof.Rows L2
theorem Ext.ofSame {F H H' : Hp} (s : Same F H) (t : Same H H') : Ext M0 F H F H' := ⟨Same.refl F, s.trans t, fun b o e _ => t b o e, fun b e => by
  cases q : H b with
  | none => exact absurd q e
  | some o => rw [t b o q]; simp, fun _ _ => rfl⟩
/-! ### a seat -/
def sflds (ra : Addr) (t : Int) : List (Str × V) := [("_rows", .ref ra), ("_term", .int t)]
structure SeatAt (K : PySem.W.Frag) (C : Addr) (F H : Hp) (p : Addr) (rs : List Row) (t : Int) : Prop where
  ob : ∃ dx ra, H p = some (.ins C dx (sflds ra t)) ∧ (kL kRow).is F (.ref ra) rs
  fp : F p = none
theorem SeatAt.step {K : PySem.W.Frag} {C : Addr} {F H F' H' : Hp} {p : Addr} {rs : List Row} {t : Int} {M : Addr → Prop} (A : SeatAt K C F H p rs t) (X : Ext M F H F' H') (h : ¬ M p) : SeatAt K C F' H' p rs t := by
  obtain ⟨dx, ra, ob, kr⟩ := A.ob
  exact ⟨⟨dx, ra, X.hh _ _ ob h, (kL kRow).mono X.ff kr⟩, by rw [X.new _ (by rw [ob]; simp)]; exact A.fp⟩
structure TxS (K : PySem.W.Frag) (mg : Str → Option Value) (C : Addr) : Prop where
  cl : Cls K C
  nR : NoAttr K C "_rows"
  nT : NoAttr K C "_term"
  list : mg "list" = none
  max : mg "max" = none
  first : ∃ t, mg "FIRST_TERM" = some (.int 1 t)
section
variable (ra : Addr) (t : Int)
theorem sl_rows : (sflds ra t).lookup ("_rows" : Str) = some (.ref ra) := by kernel_rfl
theorem sl_term : (sflds ra t).lookup ("_term" : Str) = some (.int t) := by kernel_rfl
theorem sl_holds : (sflds ra t).lookup ("holds" : Str) = none := by kernel_rfl
theorem sl_hold : (sflds ra t).lookup ("hold" : Str) = none := by kernel_rfl
theorem sl_keep : (sflds ra t).lookup ("keep" : Str) = none := by kernel_rfl
theorem sl_ask : (sflds ra t).lookup ("ask" : Str) = none := by kernel_rfl
theorem sl_last : (sflds ra t).lookup ("last_term" : Str) = none := by kernel_rfl
theorem sp_rows (rb : Addr) : putF "_rows" (.ref rb) (sflds ra t) = sflds rb t := by kernel_rfl
theorem sp_term (u : Int) : putF "_term" (.int u) (sflds ra t) = sflds ra u := by kernel_rfl
theorem sf_len : (sflds ra t).length < 1000 := by show 2 < 1000; decide
theorem sf_init : putF "_term" (.int t) (putF "_rows" (.ref ra) []) = sflds ra t := by kernel_rfl
end
def CalM (P : Program) (w : World) (K : PySem.W.Frag) (mg : Str → Option Value) (base : Heap) (C : Addr) (k : Nat) (x : Str) (ps : List Str) (sp : Sp) : Prop :=
  ∃ (f : Addr) (fd : FuncData), FnOk P w K mg base CX0 k f fd ps sp ∧ Meth K C x f ∧ Binds K fd ps []
/-- .. that may refuse -/
def CalMX (P : Program) (w : World) (K : PySem.W.Frag) (mg : Str → Option Value) (base : Heap) (C : Addr) (k : Nat) (x : Str) (ps : List Str) (sp : Sp) : Prop :=
  ∃ (f : Addr) (fd : FuncData), FnOk P w K mg base (L2.CX P w) k f fd ps sp ∧ Meth K C x f ∧ Binds K fd ps []
def CalX (P : Program) (w : World) (K : PySem.W.Frag) (mg : Str → Option Value) (base : Heap) (k : Nat) (x : Str) (ps : List Str) (sp : Sp) : Prop :=
  ∃ (f : Addr) (fd : FuncData), FnOk P w K mg base (L2.CX P w) k f fd ps sp ∧ mg x = some (.ref f) ∧ PySem.W.keepIn K (.ref f) = true ∧ Binds K fd ps []
/-- a refusal without a number may be made -/
def ExMk (K : PySem.W.Frag) (mg : Str → Option Value) (i : Nat) : Prop := PySem.W.excIn K (exC K i) [.type "ValueError", .type "Exception", .type "BaseException", .type "object"] "ValueError.__new__" = true ∧ mg (exN.getD i "") = some (.ref (exC K i)) ∧ PySem.W.keepIn K (.ref (exC K i)) = true ∧
  PySem.W.subIn K (.ref (exC K i)) (.type "BaseException") = some true ∧ PySem.W.typeIn K (.ref (exC K i)) = some (.type "type")
/-! promises -/
def spSInit (C : Addr) (K : PySem.W.Frag) : Sp := fun vs H Q _ => ∃ (F : Hp) (x dx : Addr), vs = [.ref x] ∧ Same F H ∧ H x = some (.ins C dx []) ∧ F x = none ∧ ∀ (F' H' : Hp), Ext (· = x) F H F' H' → SeatAt K C F' H' x [] 0 → Q .non H'
def spHolds (K : PySem.W.Frag) (C : Addr) : Sp := fun vs H Q _ => ∃ (F : Hp) (p : Addr) (rs : List Row) (t : Int), vs = [.ref p] ∧ Same F H ∧ SeatAt K C F H p rs t ∧ RetL M0 F H kRow (· = rs) Q
def spLastTerm (K : PySem.W.Frag) (C : Addr) : Sp := fun vs H Q _ => ∃ (F : Hp) (p : Addr) (rs : List Row) (t : Int), vs = [.ref p] ∧ SeatAt K C F H p rs t ∧ Q (.int t) H
/-- what a seat tells and holds behind it -/
def RetS (K : PySem.W.Frag) (C : Addr) (F H : Hp) (p : Addr) (t : Int) (φ : List Row → Prop) (Q : VK) : Prop := ∀ (F' H' : Hp) (a : Addr) (vs : List V) (out : List Row), Ext (· = p) F H F' H' → SeatAt K C F' H' p out t → φ out → H a = none → F' a = none → H' a = some (.lst vs) → Paired (kRow.is F') vs out → Q (.ref a) H'
def spHold (K : PySem.W.Frag) (C : Addr) : Sp := fun vs H Q E => ∃ (F : Hp) (p : Addr) (rs : List Row) (t : Int) (v : V) (more : List Row), vs = [.ref p, v] ∧ Same F H ∧ SeatAt K C F H p rs t ∧ (kL kRow).is F v more ∧ more.length ≤ 200 ∧ Valid rs ∧ rs.length ≤ 50000 ∧
  (badAt more = none → RetS K C F H p t (Fewest (rs ++ more)) Q) ∧ ∀ i, badAt more = some i → BadAt K H i E
def spAsk (K : PySem.W.Frag) (C : Addr) : Sp := fun vs H Q E => ∃ (F : Hp) (p : Addr) (rs : List Row) (t u : Int), vs = [.ref p, .int u] ∧ Same F H ∧ SeatAt K C F H p rs t ∧ (u ≤ t → E (.ref (exC K 7)) none H) ∧ (t < u → RetS K C F H p u (· = rs) Q)
def spKeep (K : PySem.W.Frag) (C : Addr) : Sp := fun vs H Q E => ∃ (F : Hp) (p : Addr) (rs : List Row) (t u : Int) (v : V) (more : List Row), vs = [.ref p, .int u, v] ∧ Same F H ∧ SeatAt K C F H p rs t ∧ (kL kRow).is F v more ∧ more.length ≤ 200 ∧ Valid rs ∧ rs.length ≤ 50000 ∧
  (u < max t 1 → E (.ref (exC K 7)) none H) ∧ (max t 1 ≤ u → (badAt more = none → RetS K C F H p u (Fewest (rs ++ more)) Q) ∧ ∀ i, badAt more = some i → BadAt K H i E)
section
variable {P : Program} {w : World} {K : PySem.W.Frag} {mg : Str → Option Value} {base : Heap} {C : Addr}
theorem ok_Seat___init__ {f : Addr} {fd : FuncData} (F0 : Fun K "__init__" "Seat.__init__" s_Seat___init__ f fd) (T : TxS K mg C) : FnOk P w K mg base CX0 1 f fd ["self"] (spSInit C K) := by
  refine F0.ok sc_Seat___init__ (fun vs H Q E h => ?_) (fun cdv A outer s H vs Q E hr h => ?_)
  · obtain ⟨F, x, dx, rfl, _⟩ := h
    rfl
  · obtain ⟨F, x, dx, rfl, fh, ob, fx, q⟩ := h
    refine ⟨_, pss_cons (ps_fld (pv 0) (pe_lst pa_nil) rfl) (pss_one (ps_fld (pv 0) pe_int rfl)), ?_⟩
    refine ⟨by show 0 ≤ sizeLine; decide, fun l nl => ?_⟩
    have nx : x ≠ l := ne_of_none ob nl
    have X1 := (Ext.refl (M := (· = x)) fh).lay (o := .lst []) nl
    refine ⟨_, rfl, x, C, dx, _, rfl, by rw [upd_ne nx]; exact ob, T.cl, T.nR, by show 0 < 1000; decide, ?_⟩
    refine ⟨_, rfl, x, C, dx, _, rfl, upd_same, T.cl, T.nT, by show 1 < 1000; decide, ?_⟩
    rw [upd_upd, sf_init]
    have fx1 : upd F l (.lst []) x = none := by rw [upd_ne nx]; exact fx
    exact q _ _ (X1.put (.inr rfl) fx1) ⟨⟨dx, l, upd_same, l, [], rfl, upd_same, .nil⟩, fx1⟩
theorem ok_Seat_holds {f : Addr} {fd : FuncData} (F0 : Fun K "holds" "Seat.holds" s_Seat_holds f fd) (T : TxS K mg C) : FnOk P w K mg base CX0 1 f fd ["self"] (spHolds K C) := by
  refine F0.ok sc_Seat_holds (fun vs H Q E h => ?_) (fun cdv A outer s H vs Q E hr h => ?_)
  · obtain ⟨F, p, rs, t, rfl, _⟩ := h
    rfl
  · obtain ⟨F, p, rs, t, rfl, fh, A, q⟩ := h
    obtain ⟨dx, ra, ob, ra', xs, e, ha, hp⟩ := A.ob
    cases e
    refine ⟨_, pss_one (ps_ret (pe_callTy call_list_of (by rfl) T.list (by decide +kernel) (pa_cons (pe_fld (pv 0) rfl) pa_nil))), ?_⟩
    refine ⟨_, rfl, p, C, dx, _, _, rfl, ob, T.cl, T.nR, sl_rows _ _, ra, xs, rfl, .inl (SqL.of (fh _ _ ha)), fun o no => ?_⟩
    exact q F _ o xs _ ((Ext.refl fh).tmp no) no (fh.free no) upd_same hp rfl
theorem ok_Seat_hold {f : Addr} {fd : FuncData} (F0 : Fun K "hold" "Seat.hold" s_Seat_hold f fd) (T : TxS K mg C) (CC : CalX P w K mg base 5 "check_rows" ["rows"] (spCheckRowsX K)) (CF : Cal P w K mg base 3 "fewest" ["rows"] spFewest) (CH : CalM P w K mg base C 1 "holds" ["self"] (spHolds K C)) :
    FnOk P w K mg base (L2.CX P w) 6 f fd ["self", "rows"] (spHold K C) := by
  obtain ⟨f1, fd1, G1, g1, kp1, b1⟩ := CC
  obtain ⟨f2, fd2, G2, g2, kp2, b2⟩ := CF
  obtain ⟨f3, fd3, G3, m3, b3⟩ := CH
  refine F0.okX sc_Seat_hold (fun vs H Q E h => ?_) (fun cdv A outer s H vs Q E hr h => ?_)
  · obtain ⟨F, p, rs, t, v, more, rfl, _⟩ := h
    rfl
  · obtain ⟨F, p, rs, t, v, more, rfl, fh, A, hv, hl, val, lrs, q1, q2⟩ := h
    have hr1 : Room 1 _ := hr.mono (by decide)
    have hr3 : Room 3 _ := hr.mono (by decide)
    refine ⟨_, pss_cons (ps_expr (pe_call G1 hr (by rfl) g1 kp1 b1 .nil (passes_call (E := E) (takes_of rfl rfl rfl rfl) fun _ _ _ _ h => h) (pa_cons (pv 1) pa_nil)))
      (pss_cons (ps_fld (pv 0) (pe_call G2 hr3 (by rfl) g2 kp2 b2 .nil pass0 (pa_cons (pe_op op_cat (pe_fld (pv 0) rfl) (pv 1)) pa_nil)) rfl)
      (pss_one (ps_ret (pe_meth0 (pv 0) T.cl m3 G3 hr1 b3 .nil pass0)))), ?_⟩
    refine ⟨_, rfl, v, more, rfl, (kL kRow).mono fh hv, hl, fun hb H1 s1 => ?_, fun i hi => q2 i hi⟩
    have X1 := Ext.ofSame fh s1
    have A1 := A.step X1 id
    obtain ⟨dx, ra, ob, ra', xs, e, ha, hp⟩ := A1.ob
    cases e
    obtain ⟨va, ys, e, hva, hvp⟩ := hv
    subst e
    have hval : Valid (rs ++ more) := fun r hr' => by
      rcases List.mem_append.mp hr' with z | z
      · exact val r z
      · exact (badAt_none.mp hb r z).2.2.2.1
    have l1 := pr_len hp
    have l2 := pr_len hvp
    refine ⟨_, rfl, p, C, dx, _, _, rfl, ob, T.cl, T.nR, sl_rows _ _, _, rfl, ra, va, xs, ys, rfl, rfl, X1.fh _ _ ha, X1.fh _ _ hva, by rw [sizeLine_eq]; omega, fun c nc => ?_⟩
    have X2 := X1.lay (o := .lst (xs ++ ys)) nc
    have kc : (kL kRow).is (upd F c (.lst (xs ++ ys))) (.ref c) (rs ++ more) := kL_new (X1.ffree nc) (pr_append hp hvp)
    refine ⟨_, .ref c, rs ++ more, rfl, X2.fh, kc, hval, by rw [List.length_append]; omega, fun F3 H3 a vs out X3 na fa ha3 hp3 fw => ?_⟩
    have X4 := (X2.trans X3).frz (X2.free na) fa ha3
    have A4 := A.step X4 id
    have ko : (kL kRow).is (upd F3 a (.lst vs)) (.ref a) out := kL_new fa hp3
    obtain ⟨dx4, ra4, ob4, kr4⟩ := A4.ob
    refine ⟨_, rfl, p, C, dx4, _, rfl, ob4, T.cl, T.nR, sf_len _ _, ?_⟩
    rw [sp_rows]
    have X5 := X4.up.put (M := (· = p)) (p := p) (o := .ins C dx4 (sflds a t)) (.inr rfl) A4.fp
    have A5 : SeatAt K C (upd F3 a (.lst vs)) (upd H3 p (.ins C dx4 (sflds a t))) p out t := ⟨⟨dx4, a, upd_same, ko⟩, A4.fp⟩
    refine ⟨_, rfl, p, dx4, _, rfl, upd_same, sl_holds _ _, _, p, out, t, rfl, X5.fh, A5, fun F6 H6 b vs6 out6 X6 nb fb hb6 hp6 e6 => ?_⟩
    subst e6
    exact q1 hb F6 H6 b vs6 out6 (X5.trans X6.up) (A5.step X6 id) fw (X5.free nb) fb hb6 hp6
theorem ok_Seat_ask {f : Addr} {fd : FuncData} (F0 : Fun K "ask" "Seat.ask" s_Seat_ask f fd) (T : TxS K mg C) (X7 : ExMk K mg 7) (CH : CalM P w K mg base C 1 "holds" ["self"] (spHolds K C)) : FnOk P w K mg base (L2.CX P w) 2 f fd ["self", "term"] (spAsk K C) := by
  obtain ⟨f3, fd3, G3, m3, b3⟩ := CH
  obtain ⟨x1, x2, x3, x4, x5⟩ := X7
  have x2' : mg "TooOld" = some (.ref (exC K 7)) := x2
  refine F0.okX sc_Seat_ask (fun vs H Q E h => ?_) (fun cdv A outer s H vs Q E hr h => ?_)
  · obtain ⟨F, p, rs, t, u, rfl, _⟩ := h
    rfl
  · obtain ⟨F, p, rs, t, u, rfl, fh, A, q1, q2⟩ := h
    refine ⟨_, pss_cons (ps_if (pt_cmpR op_le (pv 1) (pe_fld (pv 0) rfl) (nomark _)) (pss_one (ps_raise rfl (takes_of rfl rfl rfl rfl) (pmk_own PySem.F.excBase_ValueError x1 x2' x3 (raises_own x4 x5) (by rfl)))) pss_nil)
      (pss_cons (ps_fld (pv 0) (pv 1) rfl) (pss_one (ps_ret (pe_meth0 (pv 0) T.cl m3 G3 hr b3 .nil pass0)))), ?_⟩
    obtain ⟨dx, ra, ob, kr⟩ := A.ob
    refine ⟨_, rfl, _, rfl, p, C, dx, _, _, rfl, ob, T.cl, T.nT, sl_term _ _, _, _, rfl, rfl, _, rfl, ite2 (fun c => ?_) (fun c => ?_)⟩
    · exact q1 (of_decide_eq_true c)
    · have c' : ¬ u ≤ t := fun z => c (decide_eq_true z)
      refine ⟨_, rfl, _, rfl, p, C, dx, _, rfl, ob, T.cl, T.nT, sf_len _ _, ?_⟩
      rw [sp_term]
      have X5 := (Ext.refl (M := (· = p)) fh).put (p := p) (o := .ins C dx (sflds ra u)) (.inr rfl) A.fp
      have A5 : SeatAt K C F (upd H p (.ins C dx (sflds ra u))) p rs u := ⟨⟨dx, ra, upd_same, kr⟩, A.fp⟩
      refine ⟨_, rfl, p, dx, _, rfl, upd_same, sl_holds _ _, _, p, rs, u, rfl, X5.fh, A5, fun F6 H6 b vs6 out6 X6 nb fb hb6 hp6 e6 => ?_⟩
      subst e6
      exact q2 (by omega) F6 H6 b vs6 out6 (X5.trans X6.up) (A5.step X6 id) rfl (X5.free nb) fb hb6 hp6
theorem ok_Seat_keep {f : Addr} {fd : FuncData} (F0 : Fun K "keep" "Seat.keep" s_Seat_keep f fd) (T : TxS K mg C) (X7 : ExMk K mg 7) (CC : CalX P w K mg base 5 "check_rows" ["rows"] (spCheckRowsX K)) (CH : CalMX P w K mg base C 6 "hold" ["self", "rows"] (spHold K C)) :
    FnOk P w K mg base (L2.CX P w) 7 f fd ["self", "term", "rows"] (spKeep K C) := by
  obtain ⟨f1, fd1, G1, g1, kp1, b1⟩ := CC
  obtain ⟨f3, fd3, G3, m3, b3⟩ := CH
  obtain ⟨x1, x2, x3, x4, x5⟩ := X7
  have x2' : mg "TooOld" = some (.ref (exC K 7)) := x2
  obtain ⟨tk1, hk1⟩ := T.first
  refine F0.okX sc_Seat_keep (fun vs H Q E h => ?_) (fun cdv A outer s H vs Q E hr h => ?_)
  · obtain ⟨F, p, rs, t, u, v, more, rfl, _⟩ := h
    rfl
  · obtain ⟨F, p, rs, t, u, v, more, rfl, fh, A, hv, hl, val, lrs, q1, q2⟩ := h
    have hr5 : Room 5 _ := hr.mono (by decide)
    refine ⟨_, pss_cons (ps_if (pt_cmpR op_lt (pv 1) (pe_callB (call_max2 (by rfl)) (by rfl) T.max (by decide +kernel) (pa_cons (pe_fld (pv 0) rfl) (pa_cons (pe_glob (v := .int 1) (by rfl) hk1 ⟨_, rfl⟩) pa_nil))) (nomark _)) (pss_one (ps_raise rfl (takes_of rfl rfl rfl rfl) (pmk_own PySem.F.excBase_ValueError x1 x2' x3 (raises_own x4 x5) (by rfl)))) pss_nil)
      (pss_cons (ps_expr (pe_call G1 hr5 (by rfl) g1 kp1 b1 .nil (passes_call (E := E) (takes_of rfl rfl rfl rfl) fun _ _ _ _ h => h) (pa_cons (pv 2) pa_nil)))
      (pss_cons (ps_fld (pv 0) (pv 1) rfl) (pss_one (ps_ret (pe_meth (pv 0) T.cl m3 G3 hr b3 .nil (passes_call (E := E) (takes_of rfl rfl rfl rfl) fun _ _ _ _ h => h) (pa_cons (pv 2) pa_nil)))))), ?_⟩
    obtain ⟨dx, ra, ob, kr⟩ := A.ob
    refine ⟨_, rfl, _, rfl, p, C, dx, _, _, rfl, ob, T.cl, T.nT, sl_term _ _, _, _, rfl, ?_⟩
    have em : (if (1 : Int) > t then 1 else t) = max t 1 := by
      by_cases z : (1 : Int) > t
      · rw [if_pos z]; omega
      · rw [if_neg z]; omega
    rw [em]
    refine ⟨_, _, rfl, rfl, _, rfl, ite2 (fun c => ?_) (fun c => ?_)⟩
    · exact q1 (of_decide_eq_true c)
    · have c' : max t 1 ≤ u := Int.not_lt.mp fun z => c (decide_eq_true z)
      obtain ⟨q2, q3⟩ := q2 c'
      refine ⟨_, rfl, v, more, rfl, (kL kRow).mono fh hv, hl, fun hb H1 s1 => ?_, fun i hi => q3 i hi⟩
      have X1 := Ext.ofSame fh s1
      have A1 := A.step X1 id
      obtain ⟨dx1, ra1, ob1, kr1⟩ := A1.ob
      refine ⟨_, rfl, _, rfl, p, C, dx1, _, rfl, ob1, T.cl, T.nT, sf_len _ _, ?_⟩
      rw [sp_term]
      have X5 := X1.up.put (M := (· = p)) (p := p) (o := .ins C dx1 (sflds ra1 u)) (.inr rfl) A1.fp
      have A5 : SeatAt K C F (upd H1 p (.ins C dx1 (sflds ra1 u))) p rs u := ⟨⟨dx1, ra1, upd_same, kr1⟩, A1.fp⟩
      refine ⟨_, rfl, p, dx1, _, rfl, upd_same, sl_hold _ _, _, rfl, F, p, rs, u, v, more, rfl, X5.fh, A5, hv, hl, val, lrs, fun _ F6 H6 b vs6 out6 X6 A6 fw nb fb hb6 hp6 => ?_, fun i hi => by rw [hb] at hi; cases hi⟩
      exact q2 hb F6 H6 b vs6 out6 (X5.trans X6) A6 fw (X5.free nb) fb hb6 hp6
end
end Rw
namespace Rw
open PySem PySem.Spec PyProof.Rows L2
/-! ### frames that may take tuples in; M: what may change -/
structure XM (M : Addr → Prop) (F H F' H' : Hp) : Prop where
  ff : Same F F'
  fh : Same F' H'
  hh : ∀ b o, H b = some o → ¬ M b → H' b = some o
  tr : ∀ b, H b ≠ none → H' b ≠ none
  nw : ∀ b o, H b = some o → (∀ xs, o ≠ .tup xs) → F' b = F b
section
variable {M M' : Addr → Prop} {F H F' H' F'' H'' : Hp} {p : Addr} {o : HO}
theorem XM.of (X : Ext M F H F' H') : XM M F H F' H' := ⟨X.ff, X.fh, X.hh, X.tr, fun b o e _ => X.new b (by rw [e]; simp)⟩
theorem XM.refl (s : Same F H) : XM M F H F H := .of ((Ext.refl s).up)
theorem XM.mono (a : XM M F H F' H') (h : ∀ b, M b → M' b) : XM M' F H F' H' := ⟨a.ff, a.fh, fun c u e m => a.hh c u e fun z => m (h c z), a.tr, a.nw⟩
theorem XM.free (a : XM M F H F' H') (h : H' p = none) : H p = none := by
  cases q : H p with
  | none => rfl
  | some u => exact absurd h (a.tr p (by rw [q]; simp))
/-- going on: what the first may change is no frozen thing of the second -/
theorem XM.then (a : XM M F H F' H') (b : XM M' F' H' F'' H'') (fm : ∀ c u, H c = some u → M c → (∀ xs, u ≠ .tup xs) → ∃ u', H' c = some u' ∧ ∀ xs, u' ≠ .tup xs) : XM (fun c => M c ∨ M' c) F H F'' H'' := by
  refine ⟨a.ff.trans b.ff, b.fh, fun c u e m => b.hh c u (a.hh c u e fun z => m (.inl z)) fun z => m (.inr z), fun c h => b.tr c (a.tr c h), fun c u e t => ?_⟩
  by_cases mc : M c
  · obtain ⟨u', e', t'⟩ := fm c u e mc t
    exact (b.nw c u' e' t').trans (a.nw c u e t)
  · exact (b.nw c u (a.hh c u e mc) t).trans (a.nw c u e t)
theorem XM.step (a : XM M F H F' H') (b : Ext M0 F' H' F'' H'') : XM M F H F'' H'' :=
  ⟨a.ff.trans b.ff, b.fh, fun c u e m => b.hh c u (a.hh c u e m) id, fun c h => b.tr c (a.tr c h), fun c u e t => (b.new c (a.tr c (by rw [e]; simp))).trans (a.nw c u e t)⟩
theorem XM.go (a : XM M F H F' H') (b : Ext M F' H' F'' H'') : XM M F H F'' H'' :=
  ⟨a.ff.trans b.ff, b.fh, fun c u e m => b.hh c u (a.hh c u e m) m, fun c h => b.tr c (a.tr c h), fun c u e t => (b.new c (a.tr c (by rw [e]; simp))).trans (a.nw c u e t)⟩
theorem XM.lay (a : XM M F H F' H') (h : H' p = none) : XM M F H (upd F' p o) (upd H' p o) := a.step ((Ext.refl a.fh).lay h)
theorem XM.tmp (a : XM M F H F' H') (h : H' p = none) : XM M F H F' (upd H' p o) := a.step ((Ext.refl a.fh).tmp h)
theorem XM.put (a : XM M F H F' H') (h : H p = none ∨ M p) (f : F' p = none) : XM M F H F' (upd H' p o) := by
  refine ⟨a.ff, same_put a.fh f, fun b u e m => ?_, fun b e => ?_, a.nw⟩
  · have hb : b ≠ p := fun z => by
      subst z
      rcases h with h | h
      · rw [h] at e; cases e
      · exact m h
    rw [upd_ne hb]; exact a.hh b u e m
  · by_cases hb : b = p
    · subst hb; rw [upd_same]; simp
    · rw [upd_ne hb]; exact a.tr b e
theorem XM.absb (a : XM M F H F' H') (fm : ∀ c, M c → ∀ xs, H' c ≠ some (.tup xs)) : XM M F H (Rw.absb F' H') H' :=
  ⟨a.ff.trans (absb_sub a.fh), absb_same a.fh, a.hh, a.tr, fun b u e t => by
    by_cases mb : M b
    · rw [absb_ne (fm b mb)]
      exact a.nw b u e t
    · rw [absb_ne (fun xs z => by rw [a.hh b u e mb] at z; exact t xs (Option.some.inj z))]
      exact a.nw b u e t⟩
theorem XM.frz (a : XM M F H F' H') (h : H p = none) (f : F' p = none) (e : H' p = some o) : XM M F H (upd F' p o) H' := by
  refine ⟨a.ff.trans (same_upd f), fun b u z => ?_, a.hh, a.tr, fun b u z t => ?_⟩
  · by_cases hb : b = p
    · subst hb; rw [upd_same] at z; cases z; exact e
    · rw [upd_ne hb] at z; exact a.fh b u z
  · rw [upd_ne (ne_of_none z h)]; exact a.nw b u z t
end
theorem DiceAt.xm {K : PySem.W.Frag} {F H F' H' : Hp} {d s : Addr} {ns : List Int} {M : Addr → Prop} (D : DiceAt K F H d s ns) (X : XM M F H F' H') (h : ¬ M d) : DiceAt K F' H' d s ns := by
  obtain ⟨i, m, r, hd, g⟩ := D.ex
  exact ⟨X.fh, by rw [X.nw d _ hd fun xs z => by cases z]; exact D.fd, X.ff.seq D.sc, i, m, r, X.hh _ _ hd h, g⟩
theorem SeatAt.xm {K : PySem.W.Frag} {C : Addr} {F H F' H' : Hp} {p : Addr} {rs : List Row} {t : Int} {M : Addr → Prop} (A : SeatAt K C F H p rs t) (X : XM M F H F' H') (h : ¬ M p) : SeatAt K C F' H' p rs t := by
  obtain ⟨dx, ra, ob, kr⟩ := A.ob
  exact ⟨⟨dx, ra, X.hh _ _ ob h, (kL kRow).mono X.ff kr⟩, by rw [X.nw _ _ ob fun xs z => by cases z]; exact A.fp⟩
/-! ### the law's own seat -/
def ownV (t : Int) (r : Addr) : List (Key × V) := [(.inr "term", .int t), (.inr "rows", .ref r)]
theorem own_term (t : Int) (r : Addr) : valV (ownV t r) (Sum.inr "term" : Key) = some (.int t) := by rfl
theorem own_rows (t : Int) (r : Addr) : valV (ownV t r) (Sum.inr "rows" : Key) = some (.ref r) := by rfl
theorem own_put (t u : Int) (r : Addr) : putK (ownV t r) (Sum.inr "term" : Key) (.int u) = ownV u r := by rfl
structure OwnAt (F H : Hp) (w r : Addr) (t : Int) (ps : List Pt) : Prop where
  hw : H w = some (.dK (ownV t r))
  fw : F w = none
  hr : ∃ kvs, H r = some (.dT kvs) ∧ DKy kvs ps
  fr : F r = none
theorem OwnAt.xm {F H F' H' : Hp} {w r : Addr} {t : Int} {ps : List Pt} {M : Addr → Prop} (A : OwnAt F H w r t ps) (X : XM M F H F' H') (h1 : ¬ M w) (h2 : ¬ M r) : OwnAt F' H' w r t ps := by
  obtain ⟨kvs, hr, dk⟩ := A.hr
  exact ⟨X.hh _ _ A.hw h1, by rw [X.nw _ _ A.hw fun xs z => by cases z]; exact A.fw, ⟨kvs, X.hh _ _ hr h2, dk⟩, by rw [X.nw _ _ hr fun xs z => by cases z]; exact A.fr⟩
theorem OwnAt.ne {F H : Hp} {w r : Addr} {t : Int} {ps : List Pt} (A : OwnAt F H w r t ps) : w ≠ r := fun e => by
  obtain ⟨kvs, hr, dk⟩ := A.hr
  rw [← e, A.hw] at hr
  cases hr
/-- the rows of a set of names -/
structure RowsOf (ps : List Pt) (out : List Row) : Prop where
  can : Canon out
  mem : ∀ p, mem out p ↔ p ∈ ps
  len : out.length ≤ ps.length
theorem RowsOf.uniq {ps : List Pt} {a b : List Row} (x : RowsOf ps a) (y : RowsOf ps b) : a = b := Canon.uniq x.can y.can fun p => (x.mem p).trans (y.mem p).symm
/-- rows told, and the own seat behind it -/
def RetO (F H : Hp) (M : Addr → Prop) (w r : Addr) (u : Int) (φ : List Pt → Prop) (Q : VK) : Prop := ∀ (F' H' : Hp) (a : Addr) (vs : List V) (out : List Row) (ps : List Pt), XM M F H F' H' → OwnAt F' H' w r u ps → φ ps → RowsOf ps out → H a = none → F' a = none → H' a = some (.lst vs) → Paired (kRow.is F') vs out → Q (.ref a) H'
def spLSeat : Sp := fun vs H Q _ => ∃ (F : Hp), vs = [] ∧ Same F H ∧ ∀ (F' H' : Hp) (w r : Addr), Ext M0 F H F' H' → H w = none → H r = none → OwnAt F' H' w r 0 [] → Q (.ref w) H'
def spAsked : Sp := fun vs H Q _ => ∃ (F : Hp) (w r : Addr) (t u : Int) (ps : List Pt), vs = [.ref w, .int u] ∧ Same F H ∧ OwnAt F H w r t ps ∧ ps.length ≤ 100000 ∧ (u ≤ t → Q (.str "old") H) ∧ (t < u → RetO F H (· = w) w r u (· = ps) Q)
def spLKept : Sp := fun vs H Q _ => ∃ (F : Hp) (w r : Addr) (t u : Int) (ps : List Pt) (v : V) (more : List Row), vs = [.ref w, .int u, v] ∧ Same F H ∧ OwnAt F H w r t ps ∧ ps.length ≤ 50000 ∧ (kL kRow).is F v more ∧ Small more ∧ more.length ≤ 10 ∧ (u < max 1 t → Q (.str "old") H) ∧
  (max 1 t ≤ u → RetO F H (fun b => b = w ∨ b = r) w r u (fun qs => ∀ p, p ∈ qs ↔ p ∈ ps ∨ mem more p) Q)
theorem kPt_absb {F H : Hp} {v : V} {p : Pt} (h : kPt.is H v p) : kPt.is (absb F H) v p := by
  obtain ⟨t, e, ht⟩ := h
  exact ⟨t, e, absb_tup ht⟩
section
variable {P : Program} {w : World} {K : PySem.W.Frag} {mg : Str → Option Value} {base : Heap}
/-- told_rows(sorted(own["rows"])), the own seat at hand -/
theorem told_own {F F1 H H1 : Hp} {M : Addr → Prop} {w r : Addr} {u : Int} {ps : List Pt} {φ : List Pt → Prop} {Q : VK} (X : XM M F H F1 H1) (A : OwnAt F1 H1 w r u ps) (fm : ∀ c, M c → ∀ xs, H1 c ≠ some (.tup xs)) (lp : ps.length ≤ 100000) (hφ : φ ps) (q : RetO F H M w r u φ Q) :
    ∀ (ys : List V) (qs : List Pt) (p : Addr), Paired (kPt.is H1) ys qs → qs.Perm ps → qs.Pairwise lt2 → H1 p = none → spTold [.ref p] (upd H1 p (.lst ys)) Q E0 := by
  intro ys qs p hys hperm hsort np
  have X2 := X.absb fm
  have nf := X2.fh.free np
  have X3 := X2.lay (o := .lst ys) np
  have A3 : OwnAt (upd (absb F1 H1) p (.lst ys)) (upd H1 p (.lst ys)) w r u ps := by
    have Y : XM M0 F1 H1 (upd (absb F1 H1) p (.lst ys)) (upd H1 p (.lst ys)) := ((XM.refl X.fh).absb fun c z => z.elim).lay np
    exact A.xm Y id id
  have kq : (kL kPt).is (upd (absb F1 H1) p (.lst ys)) (.ref p) qs := kL_new nf (pr_mono (fun _ _ z => kPt_absb z) hys)
  refine ⟨_, .ref p, qs, rfl, X3.fh, kq, hsort, by rw [hperm.length_eq]; omega, fun F4 H4 a vs out X4 na fa ha hp4 tl => ?_⟩
  exact q F4 H4 a vs out ps (X3.step X4) (A3.xm (.of X4) id id) hφ ⟨tl.can, fun p => by rw [tl.mem p, hperm.mem_iff], by have := tl.len; rw [hperm.length_eq] at this; exact this⟩ (X3.free na) fa ha hp4
end
end Rw
namespace Rw
open PySem PySem.Spec PyProof.Rows L2
/-! ### _law_told(lambda: ..), in one -/
def tTold1 (X : Cx) (P : Addr) (tb : XK → TE) : TE := fun σ H Q => LamX.TabS H P (X.env.qual ++ "<lambda>") ∧ ∀ H1, Grow P H H1 → LamX.TabS H1 P (X.env.qual ++ "<lambda>") → tb (EW X.K Q) σ H1 Q
theorem pe_told1 {X : Cx} {tb : XK → TE} {k : Nat} {g c P : Addr} {fd : FuncData} {ps : Arguments} {body : Expr} {sc : Scope} {lpos p pos : Pos} (df : Df) (T : ToldC X.K X.mg) (F : Fun X.K "_law_told" "_law_told" s_law_told g fd) (hg : Gl X "_law_told") (hm : X.mg "_law_told" = some (.ref g))
    (hr : Room (k + 2) X.A) (TB : LamX.TabB X.base X.mg c P) (hcode : X.env.code = .ref c) (hok : lamOkB X.N X.env.scope ⟨ps, body, sc, df⟩ = true) (hdf : DfIs ⟨ps, body, sc, df⟩) (hb : DfB ⟨ps, body, sc, df⟩)
    (hbody : ∀ (E : XK) (A : Around) (outer : List Env) (s : Shared) (H : Hp) (f c' : Addr), Room k (A.deeper (lEnv X ⟨ps, body, sc, df⟩ s.heap.objs.size f c')) → PE (lCx X A outer s H E ⟨ps, body, sc, df⟩ f c') body (tb E))
    (h1 : starEach [.Lambda ps body sc lpos] X.env = (false, eval (.Lambda ps body sc lpos) X.env) :: starEach [] X.env := by rfl) (h2 : (backTo pos (starEach [] X.env)).any (·.1) = false := by rfl) :
    PE X (.Call (.Name "_law_told" p) [.Lambda ps body sc lpos] [] pos) (tTold1 X P tb) := by
  have L := lamOk_by hok
  have he := pe_lamV (X := X) (l := ⟨ps, body, sc, df⟩) (pos := lpos) rfl rfl rfl TB hcode L.free hdf
  have ht := pe_told (LS := [⟨ps, body, sc, df⟩]) (tb := fun E _ => tb E) (p := p) (pos := pos) T F hg hm hr he (fun l hl => by
    obtain rfl := List.mem_singleton.mp hl
    exact ⟨L, hb, hbody⟩) h1 h2
  refine ⟨fun pins s σ H Q I h => ht.run pins s σ H Q I ?_⟩
  obtain ⟨hT, h⟩ := h
  exact ⟨hT, fun f H1 gr tab nf la => ⟨_, List.mem_singleton.mpr rfl, f, rfl, la, h H1 gr tab⟩⟩
theorem EW.plain {K : PySem.W.Frag} {Q : VK} {H : Hp} (i : Nat) (hi : i < 9) (h1 : ¬ (i = 0 ∨ i = 3 ∨ i = 8)) (h2 : i ≠ 5) (q : ∀ H' t, Same H H' → H t = none → H' t = some (.tup [.str (exW i)]) → Q (.ref t) H') : EW K Q (.ref (exC K i)) none H := by
  refine ⟨i, hi, rfl, fun dd e => (nomatch e), ?_⟩
  rw [if_neg h1, if_neg h2]
  exact q
theorem EW.bad {K : PySem.W.Frag} {Q : VK} {H : Hp} {i : Nat} (q : ∀ H' t, Same H H' → H t = none → H' t = some (.tup [.str "stretches", .int i]) → Q (.ref t) H') : BadAt K H i (EW K Q) := by
  intro H' d sm nd hd
  refine ⟨0, by decide, rfl, fun dd e => by cases e; exact ⟨_, hd⟩, ?_⟩
  rw [if_pos (.inl rfl)]
  exact ⟨d, _, .int i, rfl, hd, rfl, fun H2 t s2 n2 e2 => q H2 t (sm.trans s2) (sm.free n2) e2⟩
/-! ### two seats and their own -/
structure Sd where
  p : Addr
  w : Addr
  r : Addr
  t : Int
  ps : List Pt
  rs : List Row
def Bx (q : Pt) : Prop := 0 ≤ q.1 ∧ q.1 ≤ 2 ∧ 1 ≤ q.2 ∧ q.2 ≤ 9
structure SideAt (K : PySem.W.Frag) (C : Addr) (F H : Hp) (x : Sd) : Prop where
  seat : SeatAt K C F H x.p x.rs x.t
  own : OwnAt F H x.w x.r x.t x.ps
  rows : RowsOf x.ps x.rs
  box : ∀ q ∈ x.ps, Bx q
  t0 : 0 ≤ x.t
def box27 : List Pt := (List.range 3).flatMap fun (h : Nat) => (List.range 9).map fun (n : Nat) => ((h : Int), (n : Int) + 1)
theorem box27_len : box27.length = 27 := by decide +kernel
theorem box27_mem {p : Pt} (b : Bx p) : p ∈ box27 := by
  obtain ⟨a, b, c, e⟩ := b
  refine List.mem_flatMap.mpr ⟨p.1.toNat, by simp; omega, List.mem_map.mpr ⟨(p.2 - 1).toNat, by simp; omega, Prod.ext ?_ ?_⟩⟩
  · show (p.1.toNat : Int) = p.1; omega
  · show ((p.2 - 1).toNat : Int) + 1 = p.2; omega
end Rw
namespace Rw
open PySem PySem.Spec PyProof.Rows L2
def qDeed : Str := ("_law_deed" : Str) ++ ".<locals>." ++ "<lambda>"
/-- the state within a deed: the seat's and the law's own may part -/
structure B21 (K : PySem.W.Frag) (C d s : Addr) (ns : List Int) (P : Addr) (F H : Hp) (p w r : Addr) (rs : List Row) (t u : Int) (ps : List Pt) (y : Sd) : Prop where
  dice : DiceAt K F H d s ns
  tab : LamX.TabS H P qDeed
  fP : F P = none
  seat : SeatAt K C F H p rs t
  own : OwnAt F H w r u ps
  sy : SideAt K C F H y
  np : p ≠ y.p
  nw : w ≠ y.w
  nr : r ≠ y.r
section
variable {K : PySem.W.Frag} {C d s : Addr} {ns : List Int} {P : Addr} {F H F' H' : Hp} {p w r : Addr} {rs : List Row} {t u : Int} {ps : List Pt} {y : Sd} {M : Addr → Prop}
theorem SideAt.xm {x : Sd} (S : SideAt K C F H x) (X : XM M F H F' H') (h1 : ¬ M x.p) (h2 : ¬ M x.w) (h3 : ¬ M x.r) : SideAt K C F' H' x := ⟨S.seat.xm X h1, S.own.xm X h2 h3, S.rows, S.box, S.t0⟩
theorem B21.same (B : B21 K C d s ns P F H p w r rs t u ps y) : Same F H := B.dice.fh
theorem TabS.xm {q : Str} (T : LamX.TabS H P q) (X : XM M F H F' H') (h : ¬ M P) (hc : ∀ c o, H c = some o → (∀ xs, o ≠ .tup xs) → M c → ∀ φ, o ≠ .ext φ) : LamX.TabS H' P q := by
  obtain ⟨pp, h1, h2, h3⟩ := T
  refine ⟨pp, X.hh _ _ h1 h, h2, fun pos cv hcv => ?_⟩
  obtain ⟨c, e1, e2⟩ := h3 pos cv hcv
  refine ⟨c, e1, X.hh _ _ e2 fun m => ?_⟩
  exact hc c _ e2 (fun xs z => by unfold LamX.CodeO at z; cases z) m _ rfl
/-- the places of a deed and what stands there -/
theorem B21.kinds (B : B21 K C d s ns P F H p w r rs t u ps y) : (∃ xs, H d = some (.lst xs)) ∧ (∃ pp, H P = some (.tbl pp)) ∧ (∃ dx fs, H p = some (.ins C dx fs)) ∧ (∃ kv, H w = some (.dK kv)) ∧ (∃ kv, H r = some (.dT kv)) ∧ (∃ dx fs, H y.p = some (.ins C dx fs)) ∧ (∃ kv, H y.w = some (.dK kv)) ∧ ∃ kv, H y.r = some (.dT kv) := by
  obtain ⟨i, m, r', hd, g⟩ := B.dice.ex
  obtain ⟨pp, hp, _⟩ := B.tab
  obtain ⟨dx, ra, ob, _⟩ := B.seat.ob
  obtain ⟨kv, hr, _⟩ := B.own.hr
  obtain ⟨dx2, ra2, ob2, _⟩ := B.sy.seat.ob
  obtain ⟨kv2, hr2, _⟩ := B.sy.own.hr
  exact ⟨⟨_, hd⟩, ⟨_, hp⟩, ⟨_, _, ob⟩, ⟨_, B.own.hw⟩, ⟨_, hr⟩, ⟨_, _, ob2⟩, ⟨_, B.sy.own.hw⟩, ⟨_, hr2⟩⟩
/-- a step that changes no more than the deed's own -/
theorem B21.go {rs' : List Row} {t' u' : Int} {ps' : List Pt} (B : B21 K C d s ns P F H p w r rs t u ps y) (X : XM M F H F' H') (hM : ∀ b, M b → H b = none ∨ b = d ∨ b = P ∨ b = p ∨ b = w ∨ b = r) (D : DiceAt K F' H' d s ns) (T : LamX.TabS H' P qDeed) (A : SeatAt K C F' H' p rs' t') (O : OwnAt F' H' w r u' ps') :
    B21 K C d s ns P F' H' p w r rs' t' u' ps' y := by
  obtain ⟨⟨_, kd⟩, ⟨_, kP⟩, ⟨_, _, kp⟩, ⟨_, kw⟩, ⟨_, kr⟩, ⟨_, _, k1⟩, ⟨_, k2⟩, ⟨_, k3⟩⟩ := B.kinds
  refine ⟨D, T, by rw [X.nw P _ kP fun xs z => by cases z]; exact B.fP, A, O, B.sy.xm X (fun m => ?_) (fun m => ?_) (fun m => ?_), B.np, B.nw, B.nr⟩
  · rcases hM _ m with e | e | e | e | e | e
    · rw [k1] at e; cases e
    · rw [e, kd] at k1; cases k1
    · rw [e, kP] at k1; cases k1
    · exact B.np e.symm
    · rw [e, kw] at k1; cases k1
    · rw [e, kr] at k1; cases k1
  · rcases hM _ m with e | e | e | e | e | e
    · rw [k2] at e; cases e
    · rw [e, kd] at k2; cases k2
    · rw [e, kP] at k2; cases k2
    · rw [e, kp] at k2; cases k2
    · exact B.nw e.symm
    · rw [e, kr] at k2; cases k2
  · rcases hM _ m with e | e | e | e | e | e
    · rw [k3] at e; cases e
    · rw [e, kd] at k3; cases k3
    · rw [e, kP] at k3; cases k3
    · rw [e, kp] at k3; cases k3
    · rw [e, kw] at k3; cases k3
    · exact B.nr e.symm
theorem B21.quiet (B : B21 K C d s ns P F H p w r rs t u ps y) (X : XM M0 F H F' H') : B21 K C d s ns P F' H' p w r rs t u ps y :=
  B.go X (fun b z => z.elim) (B.dice.xm X id) (TabS.xm B.tab X id fun _ _ _ _ m => m.elim) (B.seat.xm X id) (B.own.xm X id id)
theorem B21.dice' (B : B21 K C d s ns P F H p w r rs t u ps y) (X : Ext (· = d) F H F' H') (D : DiceAt K F' H' d s ns) : B21 K C d s ns P F' H' p w r rs t u ps y := by
  obtain ⟨⟨_, kd⟩, ⟨_, kP⟩, ⟨_, _, kp⟩, ⟨_, kw⟩, ⟨_, kr⟩, _⟩ := B.kinds
  refine B.go (.of X) (fun b e => .inr (.inl e)) D (TabS.xm B.tab (.of X) (fun e => ?_) fun c o hc _ e φ z => ?_) (B.seat.xm (.of X) fun e => ?_) (B.own.xm (.of X) (fun e => ?_) fun e => ?_)
  · rw [show P = d from e, kd] at kP; cases kP
  · rw [show c = d from e, kd] at hc
    cases hc
    cases z
  · rw [show p = d from e, kd] at kp; cases kp
  · rw [show w = d from e, kd] at kw; cases kw
  · rw [show r = d from e, kd] at kr; cases kr
theorem B21.grow {H1 : Hp} (B : B21 K C d s ns P F H p w r rs t u ps y) (g : Grow P H H1) (T : LamX.TabS H1 P qDeed) : B21 K C d s ns P F H1 p w r rs t u ps y := by
  obtain ⟨⟨_, kd⟩, ⟨_, kP⟩, ⟨_, _, kp⟩, ⟨_, kw⟩, ⟨_, kr⟩, _⟩ := B.kinds
  have X := XM.of (g.ext B.same B.fP)
  refine B.go X (fun b e => .inr (.inr (.inl e))) (B.dice.xm X fun e => ?_) T (B.seat.xm X fun e => ?_) (B.own.xm X (fun e => ?_) fun e => ?_)
  · rw [show d = P from e, kP] at kd; cases kd
  · rw [show p = P from e, kP] at kp; cases kp
  · rw [show w = P from e, kP] at kw; cases kw
  · rw [show r = P from e, kP] at kr; cases kr
theorem B21.seat' {rs' : List Row} {t' : Int} (B : B21 K C d s ns P F H p w r rs t u ps y) (X : Ext (· = p) F H F' H') (A : SeatAt K C F' H' p rs' t') : B21 K C d s ns P F' H' p w r rs' t' u ps y := by
  obtain ⟨⟨_, kd⟩, ⟨_, kP⟩, ⟨_, _, kp⟩, ⟨_, kw⟩, ⟨_, kr⟩, _⟩ := B.kinds
  refine B.go (.of X) (fun b e => .inr (.inr (.inr (.inl e)))) (B.dice.xm (.of X) fun e => ?_) (TabS.xm B.tab (.of X) (fun e => ?_) fun c o hc _ e φ z => ?_) A (B.own.xm (.of X) (fun e => ?_) fun e => ?_)
  · rw [show d = p from e, kp] at kd; cases kd
  · rw [show P = p from e, kp] at kP; cases kP
  · rw [show c = p from e, kp] at hc
    cases hc
    cases z
  · rw [show w = p from e, kp] at kw; cases kw
  · rw [show r = p from e, kp] at kr; cases kr
theorem B21.own' {w2 : Addr} {u' : Int} {ps' : List Pt} (B : B21 K C d s ns P F H p w r rs t u ps y) (X : XM (fun b => b = w2 ∨ b = r) F H F' H') (hw : w2 = w ∨ H w2 = none) (A : OwnAt F' H' w r u' ps') : B21 K C d s ns P F' H' p w r rs t u' ps' y := by
  obtain ⟨⟨_, kd⟩, ⟨_, kP⟩, ⟨_, _, kp⟩, ⟨_, kw⟩, ⟨_, kr⟩, _⟩ := B.kinds
  have nm : ∀ {c : Addr} {o : HO}, H c = some o → (∀ kv, o ≠ .dK kv) → (∀ kv, o ≠ .dT kv) → ¬ (c = w2 ∨ c = r) := by
    rintro c o hc n1 n2 (e | e)
    · rcases hw with z | z
      · rw [e, z, kw] at hc; exact n1 _ (Option.some.inj hc).symm
      · rw [e, z] at hc; cases hc
    · rw [e, kr] at hc; exact n2 _ (Option.some.inj hc).symm
  refine B.go X (fun b e => e.elim (fun e => hw.elim (fun z => .inr (.inr (.inr (.inr (.inl (e.trans z)))))) fun z => .inl (by rw [e]; exact z)) fun e => .inr (.inr (.inr (.inr (.inr e))))) (B.dice.xm X (nm kd (fun _ z => by cases z) fun _ z => by cases z)) (TabS.xm B.tab X (nm kP (fun _ z => by cases z) fun _ z => by cases z) fun c o hc _ m φ z => ?_) (B.seat.xm X (nm kp (fun _ z => by cases z) fun _ z => by cases z)) A
  subst z
  exact nm hc (fun _ z => by cases z) (fun _ z => by cases z) m
end
/-- two seats, each with its own -/
structure S21 (K : PySem.W.Frag) (C d s : Addr) (ns : List Int) (P : Addr) (F H : Hp) (x y : Sd) : Prop where
  dice : DiceAt K F H d s ns
  tab : LamX.TabS H P qDeed
  fP : F P = none
  sx : SideAt K C F H x
  sy : SideAt K C F H y
  np : x.p ≠ y.p
  nw : x.w ≠ y.w
  nr : x.r ≠ y.r
theorem S21.swap {K : PySem.W.Frag} {C d s : Addr} {ns : List Int} {P : Addr} {F H : Hp} {x y : Sd} (S : S21 K C d s ns P F H x y) : S21 K C d s ns P F H y x := ⟨S.dice, S.tab, S.fP, S.sy, S.sx, S.np.symm, S.nw.symm, S.nr.symm⟩
theorem S21.b {K : PySem.W.Frag} {C d s : Addr} {ns : List Int} {P : Addr} {F H : Hp} {x y : Sd} (S : S21 K C d s ns P F H x y) : B21 K C d s ns P F H x.p x.w x.r x.rs x.t x.t x.ps y := ⟨S.dice, S.tab, S.fP, S.sx.seat, S.sx.own, S.sy, S.np, S.nw, S.nr⟩
theorem B21.s {K : PySem.W.Frag} {C d s : Addr} {ns : List Int} {P : Addr} {F H : Hp} {p w r : Addr} {rs : List Row} {t : Int} {ps : List Pt} {y : Sd} (B : B21 K C d s ns P F H p w r rs t t ps y) (R : RowsOf ps rs) (bx : ∀ q ∈ ps, Bx q) (t0 : 0 ≤ t) : S21 K C d s ns P F H ⟨p, w, r, t, ps, rs⟩ y :=
  ⟨B.dice, B.tab, B.fP, ⟨B.seat, B.own, R, bx, t0⟩, B.sy, B.np, B.nw, B.nr⟩
theorem S21.quiet {K : PySem.W.Frag} {C d s : Addr} {ns : List Int} {P : Addr} {F H F' H' : Hp} {x y : Sd} (S : S21 K C d s ns P F H x y) (X : XM M0 F H F' H') : S21 K C d s ns P F' H' x y := by
  have B := S.b.quiet X
  exact ⟨B.dice, B.tab, B.fP, S.sx.xm X id id id, B.sy, B.np, B.nw, B.nr⟩
theorem SideAt.len {K : PySem.W.Frag} {C : Addr} {F H : Hp} {x : Sd} (S : SideAt K C F H x) : x.ps.length ≤ 27 ∧ x.rs.length ≤ 27 := by
  obtain ⟨kvs, hr, dk⟩ := S.own.hr
  have h1 : x.ps.length ≤ box27.length := nodup_sub x.ps box27 dk.nd fun q hq => box27_mem (S.box q hq)
  rw [box27_len] at h1
  exact ⟨h1, Nat.le_trans S.rows.len h1⟩
end Rw
namespace Rw
open PySem PySem.Spec PyProof.Rows L2
theorem seq_join {a b : TS} {D : Ends} {σ : L2.St} {H : Hp} (J : L2.St → Hp → Prop) (h2 : ∀ σ H, J σ H → b D σ H) (h1 : (∀ σ H, J σ H → b D σ H) → tSeq a b D σ H) : tSeq a b D σ H := h1 h2
theorem iteI {a b : Int} {A B : Prop} (h1 : a = b → A) (h2 : a ≠ b → B) : if decide (V.int a = V.int b) = true then A else B := by
  by_cases h : a = b
  · rw [h, decide_eq_true rfl]; exact iteT (h1 h)
  · rw [decide_eq_false fun z => h (V.int.inj z)]; exact iteF (h2 h)
theorem iteL {c : Prop} [Decidable c] {A B : Prop} (h1 : c → A) (h2 : ¬ c → B) : if decide c = true then A else B := by
  by_cases h : c
  · rw [decide_eq_true h]; exact iteT (h1 h)
  · rw [decide_eq_false h]; exact iteF (h2 h)
section
variable {K : PySem.W.Frag} {C d s : Addr} {ns : List Int} {P : Addr} {F H F' H' : Hp} {p w r b : Addr} {rs : List Row} {t u : Int} {ps : List Pt} {y : Sd} {vs : List V}
theorem SeatAt.fz (A : SeatAt K C F H p rs t) (f : F b = none) (hb : H b = some (.lst vs)) : SeatAt K C (upd F b (.lst vs)) H p rs t := by
  obtain ⟨dx, ra, ob, kr⟩ := A.ob
  exact ⟨⟨dx, ra, ob, (kL kRow).mono (same_upd f) kr⟩, by rw [upd_ne (fun e => by rw [e, hb] at ob; cases ob)]; exact A.fp⟩
theorem OwnAt.fz (A : OwnAt F H w r u ps) (f : F b = none) (hb : H b = some (.lst vs)) : OwnAt (upd F b (.lst vs)) H w r u ps := by
  obtain ⟨kvs, hr, dk⟩ := A.hr
  exact ⟨A.hw, by rw [upd_ne (fun e => by have := A.hw; rw [e, hb] at this; cases this)]; exact A.fw, ⟨kvs, hr, dk⟩, by rw [upd_ne (fun e => by rw [e, hb] at hr; cases hr)]; exact A.fr⟩
theorem DiceAt.fz (D : DiceAt K F H d s ns) (n : d ≠ b) (f : F b = none) (hb : H b = some (.lst vs)) : DiceAt K (upd F b (.lst vs)) H d s ns :=
  ⟨fun c x z => by
    by_cases hc : c = b
    · rw [hc, upd_same] at z; rw [hc, hb]; exact z
    · rw [upd_ne hc] at z; exact D.fh c x z, by rw [upd_ne n]; exact D.fd, (same_upd f).seq D.sc, D.ex⟩
theorem B21.fz (B : B21 K C d s ns P F H p w r rs t u ps y) (n : d ≠ b) (f : F b = none) (hb : H b = some (.lst vs)) : B21 K C d s ns P (upd F b (.lst vs)) H p w r rs t u ps y := by
  obtain ⟨pp, hp, _⟩ := B.tab
  exact ⟨B.dice.fz n f hb, B.tab, by rw [upd_ne (fun e => by rw [e, hb] at hp; cases hp)]; exact B.fP, B.seat.fz f hb, B.own.fz f hb, ⟨B.sy.seat.fz f hb, B.sy.own.fz f hb, B.sy.rows, B.sy.box, B.sy.t0⟩, B.np, B.nw, B.nr⟩
end
theorem drawn_ok {rows : List Row} (h : ∀ r ∈ rows, Drawn 3 9 r) : ∀ r ∈ rows, RowOk r := fun r hr => by
  obtain ⟨a, b, c, e, f⟩ := h r hr
  have eL : LIM = 1000000000000 := rfl
  exact ⟨a, by omega, c, e, by omega⟩
theorem drawn_small {rows : List Row} (h : ∀ r ∈ rows, Drawn 3 9 r) (l : (rows.length : Int) ≤ 3) : Small rows := ⟨by omega, fun r hr => by
  obtain ⟨a, b, c, e, f⟩ := h r hr
  exact ⟨c, e, by omega⟩⟩
theorem drawn_bx {rows : List Row} (h : ∀ r ∈ rows, Drawn 3 9 r) {q : Pt} (m : mem rows q) : Bx q := by
  obtain ⟨r, hr, i1, i2, i3⟩ := m
  obtain ⟨a, b, c, e, f⟩ := h r hr
  unfold Bx
  omega
def badRow : Row := (0, 2, 1)
theorem bad_at {rows : List Row} (h : ∀ r ∈ rows, Drawn 3 9 r) : badAt (rows ++ [badRow]) = some rows.length := by
  refine badAt_some (r := badRow) (fun j s hj hs => ?_) (by rw [List.getElem?_append_right (Nat.le_refl _), Nat.sub_self]; rfl) (by unfold badRow RowOk; simp only; omega)
  rw [List.getElem?_append_left hj] at hs
  exact drawn_ok h s (List.mem_of_getElem? hs)
theorem Twin.up {H : Hp} : ∀ {n : Nat} {v u : V}, Twin H n v u → Twin H (n + 1) v u
  | 0, _, _, h => h.elim
  | n + 1, v, u, .inl h => .inl h
  | n + 1, v, u, .inr ⟨a, b, xs, ys, ev, eu, h, l, e, p⟩ => .inr ⟨a, b, xs, ys, ev, eu, h, l, e, fun i x y hx hy => (p i x y hx hy).up⟩
theorem twin_int {H : Hp} {n : Nat} (i : Int) : Twin H (n + 1) (.int i) (.int i) := .inl (.inl ⟨i, rfl, rfl⟩)
theorem twin_str {H : Hp} {n : Nat} (z : Str) : Twin H (n + 1) (.str z) (.str z) := .inl (.inr (.inr (.inl ⟨z, rfl, rfl⟩)))
theorem twin_row {F H : Hp} {n : Nat} {v u : V} {r : Row} (s : Same F H) (a : kRow.is F v r) (b : kRow.is F u r) : Twin H (n + 2) v u := by
  obtain ⟨ta, rfl, ha⟩ := a
  obtain ⟨tb, rfl, hb⟩ := b
  refine .inr ⟨ta, tb, _, _, rfl, rfl, .inl ⟨s _ _ ha, s _ _ hb⟩, by show 3 ≤ 100000; decide, rfl, fun i x y hx hy => ?_⟩
  match i, hx, hy with
  | 0, hx, hy => cases hx; cases hy; exact twin_int _
  | 1, hx, hy => cases hx; cases hy; exact twin_int _
  | 2, hx, hy => cases hx; cases hy; exact twin_int _
  | i + 3, hx, hy => cases hx
theorem twin_rows {F H : Hp} {n : Nat} {a b : Addr} {vs us : List V} {out : List Row} (s : Same F H) (ha : H a = some (.lst vs)) (hb : H b = some (.lst us)) (pa : Paired (kRow.is F) vs out) (pb : Paired (kRow.is F) us out) (l : out.length ≤ 1000) : Twin H (n + 3) (.ref a) (.ref b) := by
  have e1 := pr_len pa
  have e2 := pr_len pb
  refine .inr ⟨a, b, vs, us, rfl, rfl, .inr ⟨ha, hb⟩, by omega, by omega, fun i x y hx hy => ?_⟩
  obtain ⟨r1, g1, k1⟩ := pr_get pa hx
  obtain ⟨r2, g2, k2⟩ := pr_get pb hy
  rw [g1] at g2
  cases g2
  exact twin_row s k1 k2
inductive Fit (d : Addr) (F H : Hp) : V → V → Prop where
  | old {a : Addr} (h : H a = some (.tup [.str "old"])) : Fit d F H (.str "old") (.ref a)
  | rows {a b : Addr} {vs us : List V} {out : List Row} (nd : d ≠ a) (ha : H a = some (.lst vs)) (fa : F a = none) (pa : Paired (kRow.is F) vs out) (hb : F b = some (.lst us)) (pb : Paired (kRow.is F) us out) (l : out.length ≤ 27) : Fit d F H (.ref b) (.ref a)
  | bad {a b : Addr} {z : Int} (ha : H a = some (.tup [.str "stretches", .int z])) (hb : H b = some (.tup [.str "stretches", .int z])) : Fit d F H (.ref b) (.ref a)
def J21 (K : PySem.W.Frag) (C d s : Addr) (ns : List Int) (Pd : Addr) (F0 : Hp) (x y : Sd) : L2.St → Hp → Prop := fun σ H' => ∃ F' x' due found k3 k6 k7 k8 k9, σ = [some (.ref d), some (.ref x.p), some (.ref x.w), k3, some due, some found, k6, k7, k8, k9] ∧
  S21 K C d s ns Pd F' H' x' y ∧ x'.p = x.p ∧ x'.w = x.w ∧ Same F0 F' ∧ Fit d F' H' due found
theorem eqv_list_str (xs : List PyData) (z : Str) : PyData.eqv (.list xs) (.str z) = false := by rw [PyData.eqv]
theorem eqv_tup_str (xs : List PyData) (z : Str) : PyData.eqv (.tuple xs) (.str z) = false := by rw [PyData.eqv]
theorem twin_tups {H : Hp} {n : Nat} {a b : Addr} {xs : List V} (ha : H a = some (.tup xs)) (hb : H b = some (.tup xs)) (l : xs.length ≤ 100000) (h : ∀ x ∈ xs, sc0 x x) : Twin H (n + 2) (.ref a) (.ref b) :=
  .inr ⟨a, b, xs, xs, rfl, rfl, .inl ⟨ha, hb⟩, l, rfl, fun i x y hx hy => by
    rw [hx] at hy
    cases hy
    exact .inl (h x (List.mem_of_getElem? hx))⟩
theorem shaped_held : SeqAt.shaped (.str "held") = true := by decide +kernel
theorem shaped_old : SeqAt.shaped (.str "old") = true := by decide +kernel
theorem max1 (t : Int) : (if t > (1 : Int) then t else 1) = max 1 t := by
  by_cases z : t > (1 : Int)
  · rw [if_pos z]; omega
  · rw [if_neg z]; omega
theorem S21.spoil {K : PySem.W.Frag} {C d s : Addr} {ns : List Int} {P : Addr} {F H : Hp} {x y : Sd} {a : Addr} {vs ys : List V} (S : S21 K C d s ns P F H x y) (n : d ≠ a) (f : F a = none) (ha : H a = some (.lst vs)) : S21 K C d s ns P F (upd H a (.lst ys)) x y := by
  have B := S.b
  obtain ⟨_, ⟨_, kP⟩, ⟨_, _, kp⟩, ⟨_, kw⟩, ⟨_, kr⟩, ⟨_, _, k1⟩, ⟨_, k2⟩, ⟨_, k3⟩⟩ := B.kinds
  have X := (XM.refl (M := (· = a)) B.same).put (p := a) (o := .lst ys) (.inr rfl) f
  have ne : ∀ {c : Addr} {o : HO}, H c = some o → (∀ xs, o ≠ .lst xs) → ¬ c = a := fun {c o} h z e => by
    rw [e, ha] at h
    exact z _ (Option.some.inj h).symm
  refine ⟨S.dice.xm X n, TabS.xm S.tab X (ne kP fun _ z => by cases z) (fun c o hc _ e φ z => ?_), S.fP, S.sx.xm X (ne kp fun _ z => by cases z) (ne kw fun _ z => by cases z) (ne kr fun _ z => by cases z), S.sy.xm X (ne k1 fun _ z => by cases z) (ne k2 fun _ z => by cases z) (ne k3 fun _ z => by cases z), S.np, S.nw, S.nr⟩
  rw [show c = a from e, ha] at hc
  cases hc
  cases z
theorem shaped_bad (z : Int) : SeqAt.shaped (.tuple [.str "stretches", .int z]) = true := by
  have h : PyData.strOk "stretches" = true := by decide +kernel
  simp [SeqAt.shaped, PyData.canLay0, PyData.canLayAll0, PyData.depth, PyData.depthAll, h]
end Rw
namespace Rw
open PySem PySem.Spec PySem.Calls PyProof.Rows L2
/-! ### list(d.values()), the keys of d ints and texts -/
def vwI (p d : Addr) : HO := .ext fun h => h.get? p = some { cls := .type "dict_values", data := .fields #[.ref d] }
theorem vwI_ok {P : Program} {w : World} {H : Hp} {h : Heap} {p d : Addr} (e : h.get? p = some { cls := .type "dict_values", data := .fields #[.ref d] }) : ObjOk P w H h p (vwI p d) := ⟨e, ⟨_, e⟩, fun _ _ a k => k _ a⟩
def rValuesK : V → List V → Hp → VK → Prop := fun x xs H Q => ∃ d kvs, x = .ref d ∧ xs = [] ∧ H d = some (.dK kvs) ∧ ∀ p, H p = none → Q (.ref p) (upd H p (vwI p d))
theorem pairs_vals {P : Program} {w : World} : ∀ {es : List DictEntry} {kvs : List (Key × Value)}, Pairs (mixKind P w) es kvs → es.map (·.val) = kvs.map (·.2)
  | _, _, .nil => rfl
  | _, _, .cons _ h r => by rw [List.map_cons, List.map_cons, h, pairs_vals r]
theorem kv_vals : ∀ {kvs : List (Key × V)} {vs : List (Key × Value)}, KV kvs vs → Vals (kvs.map (·.2)) (vs.map (·.2))
  | _, _, .nil => .nil
  | _, _, .cons h r => .cons h.2 (kv_vals r)
section
variable {X : Cx}
theorem mt_valuesK : MtR X "dict.values" rValuesK := by
  intro pins s σ H x xs v us Q I rx rs h
  obtain ⟨d, kvs, rfl, rfl, hd, q⟩ := h
  cases rx
  cases rs
  obtain ⟨z, sm, vs, kv, o, es, ep, ho, hx, hdt, hk, hp, hn⟩ := dk_of I.hok hd
  refine call_meetsIn PySem.F.slot_dict_values ⟨o, ho, hx.1⟩ PySem.F.entry_dict_values (PySem.F.args_dict_values_1 _) (PySem.meets_dict_values_raw d sm) ⟨⟨es, ep, o, ho, hx, hdt⟩, ?_⟩
  exact ⟨.ref s.heap.objs.size, _, I.laid (t' := s.toks) (fun b o q => Heap.get?_push_of_some _ q) (Nat.le_refl _) (vwI_ok (Heap.get?_push_size _ rfl)), rfl, q _ (I.hok.fresh (Nat.le_refl _))⟩
def rListValsK : List V → Hp → VK → Prop := fun xs H Q => ∃ (p d : Addr) (kvs : List (Key × V)), xs = [.ref p] ∧ H p = some (vwI p d) ∧ H d = some (.dK kvs) ∧ ∀ q, H q = none → Q (.ref q) (upd H q (.lst (kvs.map (·.2))))
theorem cr_listValsK (hc : X.calm = true) : CallR X (.type "list") rListValsK := by
  intro pins s σ H xs us Q I r h
  obtain ⟨p, d, kvs, rfl, hp, hd, q⟩ := h
  obtain rfl := Vals.ref1 r
  obtain ⟨z, sm, vs, kv, o, es, ep, ho, hx, hdt, hk, hpr, hn⟩ := dk_of I.hok hd
  have hv := (show ObjOk X.prog X.w H s.heap p (vwI p d) from I.hok p _ hp).1
  have l1 : es.toList.length = vs.length := hpr.length
  have l2 : kvs.length = vs.length := Paired.length kv
  have l3 : es.size = vs.length := by rw [← l1, Array.length_toList]
  refine PySem.W.kdl_call (PySem.KdlSrc.rawValues (prog := X.prog) (w := X.w) (r := p) (d := d) (es := es) (ep := ep)) (I.ok.hd hc) ⟨⟨_, hv, rfl, rfl⟩, o, ho, hx, hdt⟩ (by omega) fun h' tk acc c hk hS it => ?_
  have ev : acc.toList = vs.map (·.2) := by
    rw [← pairs_vals hpr]
    apply List.ext_getElem?
    intro j
    rw [List.getElem?_map]
    have hl : acc.toList.length = es.size := by rw [Array.length_toList]; exact it.1
    cases hj : acc.toList[j]? with
    | none =>
      have h1 := List.getElem?_eq_none_iff.mp hj
      rw [List.getElem?_eq_none (by rw [Array.length_toList]; omega)]
      rfl
    | some v =>
      obtain ⟨hi, hval⟩ := it.2 j v (by rw [← Array.getElem?_toList]; exact hj)
      rw [Array.getElem?_toList, Array.getElem?_eq_getElem hi, hval]
      rfl
  have rv := kv_vals kv
  rw [← ev] at rv
  have few : (kvs.map (·.2)).length ≤ sizeLine := by rw [List.length_map]; exact z
  exact ⟨.ref s.heap.objs.size, _, I.laid (t' := tk) hk (Nat.le_refl _) (show ObjOk X.prog X.w _ h' _ (.lst (kvs.map (·.2))) from ⟨few, acc.toList, c, rv, hS⟩), rfl, q _ (I.hok.fresh (Nat.le_refl _))⟩
end
end Rw
namespace Rw
open PySem PySem.Spec PyProof.Rows L2
/-! ### dicts by seats -/
structure Ent where
  s : Int
  rs : List Row
  ps : List Pt
def DK (R : V → Ent → Prop) : List (Key × V) → List Ent → Prop := Paired fun kv e => kv.1 = (.inl e.s : Key) ∧ R kv.2 e
def putE (es : List Ent) (e : Ent) : List Ent := if (es.any fun x => decide (x.s = e.s)) = true then es.map (fun x => if x.s = e.s then e else x) else es ++ [e]
def valE (es : List Ent) (s : Int) : Option Ent := es.find? fun x => decide (x.s = s)
theorem pd_mono {α β : Type} {R S : α → β → Prop} (h : ∀ a b, R a b → S a b) : ∀ {xs : List α} {ys : List β}, Paired R xs ys → Paired S xs ys
  | _, _, .nil => .nil
  | _, _, .cons r t => .cons (h _ _ r) (pd_mono h t)
theorem pd_len {α β : Type} {R : α → β → Prop} : ∀ {xs : List α} {ys : List β}, Paired R xs ys → xs.length = ys.length
  | _, _, .nil => rfl
  | _, _, .cons _ t => by rw [List.length_cons, List.length_cons, pd_len t]
theorem pd_snoc {α β : Type} {R : α → β → Prop} {x : α} {y : β} (h : R x y) : ∀ {xs : List α} {ys : List β}, Paired R xs ys → Paired R (xs ++ [x]) (ys ++ [y])
  | _, _, .nil => .cons h .nil
  | _, _, .cons r t => .cons r (pd_snoc h t)
section
variable {R R' : V → Ent → Prop} {kvs : List (Key × V)} {es : List Ent}
theorem DK.mono (h : ∀ v e, R v e → R' v e) (d : DK R kvs es) : DK R' kvs es := pd_mono (fun _ _ z => ⟨z.1, h _ _ z.2⟩) d
theorem DK.len (d : DK R kvs es) : kvs.length = es.length := pd_len d
theorem DK.any (d : DK R kvs es) (s : Int) : (kvs.any fun kv => decide (kv.1 = (.inl s : Key))) = es.any fun x => decide (x.s = s) := by
  induction d with
  | nil => rfl
  | cons r t ih =>
    rw [List.any_cons, List.any_cons, ih, r.1]
    congr 1
    exact decide_eq_decide.mpr ⟨fun z => Sum.inl.inj z, fun z => by rw [z]⟩
theorem DK.put (d : DK R kvs es) {v : V} {e : Ent} (r : R v e) : DK R (putK kvs (.inl e.s : Key) v) (putE es e) := by
  unfold putK putE
  rw [d.any e.s]
  by_cases c : (es.any fun x => decide (x.s = e.s)) = true
  · rw [if_pos c, if_pos c]
    clear c
    induction d with
    | nil => exact .nil
    | @cons kv x _ _ r1 t ih =>
      rw [List.map_cons, List.map_cons]
      refine .cons ?_ ih
      by_cases h : x.s = e.s
      · rw [if_pos (by rw [r1.1, h]), if_pos h]
        exact ⟨by rw [r1.1, h], r⟩
      · rw [if_neg (fun z => h (Sum.inl.inj (r1.1.symm.trans z))), if_neg h]
        exact r1
  · rw [if_neg c, if_neg c]
    exact pd_snoc ⟨rfl, r⟩ d
theorem DK.get (d : DK R kvs es) (s : Int) : (valV kvs (.inl s : Key) = none ∧ valE es s = none) ∨ ∃ v e, valV kvs (.inl s : Key) = some v ∧ valE es s = some e ∧ R v e := by
  unfold valV valE
  induction d with
  | nil => exact .inl ⟨rfl, rfl⟩
  | @cons kv x _ _ r1 t ih =>
    by_cases h : x.s = s
    · rw [List.find?_cons_of_pos (by rw [r1.1, h]; exact decide_eq_true rfl), List.find?_cons_of_pos (p := fun x : Ent => decide (x.s = s)) (decide_eq_true h)]
      exact .inr ⟨_, _, rfl, rfl, r1.2⟩
    · rw [List.find?_cons_of_neg (by rw [r1.1]; simpa using h), List.find?_cons_of_neg (p := fun x : Ent => decide (x.s = s)) (by simpa using h)]
      exact ih
theorem DK.vals {α : Type} {k : Kd α} {F : Hp} {g : Ent → α} (d : DK (fun v e => k.is F v (g e)) kvs es) : Paired (k.is F) (kvs.map (·.2)) (es.map g) := by
  induction d with
  | nil => exact .nil
  | cons r t ih => exact .cons r.2 ih
end
abbrev RowR (F : Hp) : V → Ent → Prop := fun v e => (kL kRow).is F v e.rs
abbrev PtR (F : Hp) : V → Ent → Prop := fun v e => (kL kPt).is F v e.ps
/-! ### a lead -/
def lflds (many : Int) (aa ta : Addr) (bg : Bool) : List (Str × V) := [("_many", .int many), ("_answers", .ref aa), ("_told", .ref ta), ("_begun", .bl bg)]
structure LeadAt (C : Addr) (F H : Hp) (p aa ta : Addr) (many : Int) (an kp : List Ent) (bg : Bool) : Prop where
  ob : ∃ dx, H p = some (.ins C dx (lflds many aa ta bg))
  fp : F p = none
  ha : ∃ kvs, H aa = some (.dK kvs) ∧ DK (RowR F) kvs an
  fa : F aa = none
  ht : ∃ kvs, H ta = some (.dK kvs) ∧ DK (RowR F) kvs kp
  ft : F ta = none
  ne : aa ≠ ta
section
variable {C : Addr} {F H F' H' : Hp} {p aa ta : Addr} {many : Int} {an kp : List Ent} {bg : Bool} {M : Addr → Prop}
theorem LeadAt.xm (A : LeadAt C F H p aa ta many an kp bg) (X : XM M F H F' H') (h1 : ¬ M p) (h2 : ¬ M aa) (h3 : ¬ M ta) : LeadAt C F' H' p aa ta many an kp bg := by
  obtain ⟨dx, ob⟩ := A.ob
  obtain ⟨k1, a1, d1⟩ := A.ha
  obtain ⟨k2, a2, d2⟩ := A.ht
  exact ⟨⟨dx, X.hh _ _ ob h1⟩, by rw [X.nw _ _ ob fun xs z => by cases z]; exact A.fp, ⟨k1, X.hh _ _ a1 h2, d1.mono fun _ _ z => (kL kRow).mono X.ff z⟩, by rw [X.nw _ _ a1 fun xs z => by cases z]; exact A.fa, ⟨k2, X.hh _ _ a2 h3, d2.mono fun _ _ z => (kL kRow).mono X.ff z⟩, by rw [X.nw _ _ a2 fun xs z => by cases z]; exact A.ft, A.ne⟩
theorem LeadAt.ext (A : LeadAt C F H p aa ta many an kp bg) (X : Ext M0 F H F' H') : LeadAt C F' H' p aa ta many an kp bg := A.xm (.of X) id id id
theorem LeadAt.npa (A : LeadAt C F H p aa ta many an kp bg) : p ≠ aa := fun e => by
  obtain ⟨dx, ob⟩ := A.ob
  obtain ⟨k1, a1, d1⟩ := A.ha
  rw [e, a1] at ob; cases ob
theorem LeadAt.npt (A : LeadAt C F H p aa ta many an kp bg) : p ≠ ta := fun e => by
  obtain ⟨dx, ob⟩ := A.ob
  obtain ⟨k1, a1, d1⟩ := A.ht
  rw [e, a1] at ob; cases ob
end
structure TxQ (K : PySem.W.Frag) (mg : Str → Option Value) (C : Addr) : Prop where
  cl : Cls K C
  nM : NoAttr K C "_many"
  nA : NoAttr K C "_answers"
  nT : NoAttr K C "_told"
  nB : NoAttr K C "_begun"
  list : mg "list" = none
  len : mg "len" = none
section
variable (many : Int) (aa ta : Addr) (bg : Bool)
theorem ll_many : (lflds many aa ta bg).lookup ("_many" : Str) = some (.int many) := by kernel_rfl
theorem ll_ans : (lflds many aa ta bg).lookup ("_answers" : Str) = some (.ref aa) := by kernel_rfl
theorem ll_told : (lflds many aa ta bg).lookup ("_told" : Str) = some (.ref ta) := by kernel_rfl
theorem ll_begun : (lflds many aa ta bg).lookup ("_begun" : Str) = some (.bl bg) := by kernel_rfl
theorem ll_most : (lflds many aa ta bg).lookup ("_most" : Str) = none := by kernel_rfl
theorem ll_cb : (lflds many aa ta bg).lookup ("_check_begun" : Str) = none := by kernel_rfl
theorem ll_must : (lflds many aa ta bg).lookup ("must" : Str) = none := by kernel_rfl
theorem ll_heard : (lflds many aa ta bg).lookup ("heard" : Str) = none := by kernel_rfl
theorem ll_begin : (lflds many aa ta bg).lookup ("begin" : Str) = none := by kernel_rfl
theorem ll_kept : (lflds many aa ta bg).lookup ("kept" : Str) = none := by kernel_rfl
theorem ll_shown : (lflds many aa ta bg).lookup ("shown" : Str) = none := by kernel_rfl
theorem ll_leads : (lflds many aa ta bg).lookup ("leads" : Str) = none := by kernel_rfl
theorem lp_begun (b : Bool) : putF "_begun" (.bl b) (lflds many aa ta bg) = lflds many aa ta b := by kernel_rfl
theorem lf_len : (lflds many aa ta bg).length < 1000 := by show 4 < 1000; decide
theorem lf_init : putF "_begun" (.bl bg) (putF "_told" (.ref ta) (putF "_answers" (.ref aa) (putF "_many" (.int many) []))) = lflds many aa ta bg := by kernel_rfl
end
/-- what is kept is fit to be put together -/
def EOk (es : List Ent) : Prop := es.length ≤ 10 ∧ ∀ e ∈ es, Valid e.rs ∧ e.rs.length ≤ 5000
theorem eok_total {es : List Ent} (h : EOk es) : total (es.map (·.rs)) ≤ 50000 := by
  have key : ∀ es : List Ent, (∀ e ∈ es, Valid e.rs ∧ e.rs.length ≤ 5000) → total (es.map (·.rs)) ≤ 5000 * es.length := by
    intro es
    induction es with
    | nil => intro _; exact Nat.le_refl _
    | cons e es ih =>
      intro h
      have h1 := (h e List.mem_cons_self).2
      have h2 := ih fun x hx => h x (List.mem_cons_of_mem _ hx)
      show e.rs.length + total (es.map (·.rs)) ≤ 5000 * (es.length + 1)
      omega
  have := key es h.2
  have := h.1
  omega
/-! promises -/
def spCheckMany : Sp := fun vs H Q _ => ∃ n : Int, vs = [.int n] ∧ 2 ≤ n ∧ n ≤ 6 ∧ Q .non H
def spCheckOneX (K : PySem.W.Frag) : Sp := fun vs H Q E => ∃ m n : Int, vs = [.int m, .int n] ∧ (0 ≤ m ∧ m < n → Q .non H) ∧ (¬ (0 ≤ m ∧ m < n) → E (.ref (exC K 1)) none H)
def spQInit (C : Addr) : Sp := fun vs H Q _ => ∃ (F : Hp) (x dx : Addr) (n : Int), vs = [.ref x, .int n] ∧ 2 ≤ n ∧ n ≤ 6 ∧ Same F H ∧ H x = some (.ins C dx []) ∧ F x = none ∧ ∀ (F' H' : Hp) (aa ta : Addr), Ext (· = x) F H F' H' → H aa = none → H ta = none → aa ≠ ta → LeadAt C F' H' x aa ta n [] [] false → Q .non H'
def spMost (C : Addr) : Sp := fun vs H Q _ => ∃ (F : Hp) (p aa ta : Addr) (many : Int) (an kp : List Ent) (bg : Bool), vs = [.ref p] ∧ LeadAt C F H p aa ta many an kp bg ∧ 0 ≤ many ∧ Q (.int (many / 2 + 1)) H
def spCheckBegun (K : PySem.W.Frag) (C : Addr) : Sp := fun vs H Q E => ∃ (F : Hp) (p aa ta : Addr) (many : Int) (an kp : List Ent) (bg : Bool), vs = [.ref p] ∧ LeadAt C F H p aa ta many an kp bg ∧ (bg = true → Q .non H) ∧ (bg = false → E (.ref (exC K 6)) none H)
def spLeads (C : Addr) : Sp := fun vs H Q _ => ∃ (F : Hp) (p aa ta : Addr) (many : Int) (an kp : List Ent) (bg : Bool), vs = [.ref p] ∧ LeadAt C F H p aa ta many an kp bg ∧ Q (.bl bg) H
/-- a refusal of the i-th kind at a heap that only grew -/
def Late (K : PySem.W.Frag) (H : Hp) (i : Nat) (E : XK) : Prop := ∀ H', Same H H' → E (.ref (exC K i)) none H'
def spHeard (K : PySem.W.Frag) (C : Addr) : Sp := fun vs H Q E => ∃ (F : Hp) (p aa ta : Addr) (many : Int) (an kp : List Ent) (bg : Bool) (s : Int) (v : V), vs = [.ref p, .int s, v] ∧ Same F H ∧ LeadAt C F H p aa ta many an kp bg ∧ an.length ≤ 1000 ∧
  (¬ (0 ≤ s ∧ s < many) → E (.ref (exC K 1)) none H) ∧ (0 ≤ s ∧ s < many → ∃ (more : List Row) (ps : List Pt), (kL kRow).is F v more ∧ more.length ≤ 200 ∧ (∀ i, badAt more = some i → BadAt K H i E) ∧
    (badAt more = none → (bg = true → ∀ H', Same H H' → Q .non H') ∧ (bg = false → ∀ (F' H' : Hp) (rs : List Row), Ext (· = aa) F H F' H' → Fewest more rs → LeadAt C F' H' p aa ta many (putE an ⟨s, rs, ps⟩) kp bg → Q .non H')))
def spMust (K : PySem.W.Frag) (C : Addr) : Sp := fun vs H Q E => ∃ (F : Hp) (p aa ta : Addr) (many : Int) (an kp : List Ent) (bg : Bool), vs = [.ref p] ∧ Same F H ∧ LeadAt C F H p aa ta many an kp bg ∧ 0 ≤ many ∧ EOk an ∧
  ((an.length : Int) < many / 2 + 1 → E (.ref (exC K 6)) none H) ∧ (many / 2 + 1 ≤ (an.length : Int) → RetL M0 F H kRow (Held (an.map (·.rs)) 1) Q)
def spBegin (K : PySem.W.Frag) (C : Addr) : Sp := fun vs H Q E => ∃ (F : Hp) (p aa ta : Addr) (many : Int) (an kp : List Ent) (bg : Bool) (v : V) (more : List Row), vs = [.ref p, v] ∧ Same F H ∧ LeadAt C F H p aa ta many an kp bg ∧ 0 ≤ many ∧ EOk an ∧ (kL kRow).is F v more ∧ more.length ≤ 200 ∧
  (∀ i, badAt more = some i → BadAt K H i E) ∧ (badAt more = none → ((an.length : Int) < many / 2 + 1 → Late K H 6 E) ∧ (many / 2 + 1 ≤ (an.length : Int) → ((∃ q, 1 ≤ cnt (an.map (·.rs)) q ∧ ¬ mem more q) → Late K H 6 E) ∧
    ((∀ q, 1 ≤ cnt (an.map (·.rs)) q → mem more q) → ∀ (F' H' : Hp), Ext (· = p) F H F' H' → LeadAt C F' H' p aa ta many an kp true → Q .non H')))
def spLKept2 (K : PySem.W.Frag) (C : Addr) : Sp := fun vs H Q E => ∃ (F : Hp) (p aa ta : Addr) (many : Int) (an kp : List Ent) (bg : Bool) (s : Int) (v : V), vs = [.ref p, .int s, v] ∧ Same F H ∧ LeadAt C F H p aa ta many an kp bg ∧ EOk kp ∧
  (¬ (0 ≤ s ∧ s < many) → E (.ref (exC K 1)) none H) ∧ (0 ≤ s ∧ s < many → ∃ (more : List Row) (ps : List Pt), (kL kRow).is F v more ∧ more.length ≤ 200 ∧ (∀ i, badAt more = some i → BadAt K H i E) ∧
    (badAt more = none → (bg = false → Late K H 6 E) ∧ (bg = true → ∀ (F' H' : Hp) (rs : List Row), Ext (· = ta) F H F' H' → Fewest (((valE kp s).map (·.rs)).getD [] ++ more) rs → LeadAt C F' H' p aa ta many an (putE kp ⟨s, rs, ps⟩) bg → Q .non H')))
def spShown (K : PySem.W.Frag) (C : Addr) : Sp := fun vs H Q E => ∃ (F : Hp) (p aa ta : Addr) (many : Int) (an kp : List Ent) (bg : Bool), vs = [.ref p] ∧ Same F H ∧ LeadAt C F H p aa ta many an kp bg ∧ 0 ≤ many ∧ EOk kp ∧
  (bg = false → E (.ref (exC K 6)) none H) ∧ (bg = true → RetL M0 F H kRow (Held (kp.map (·.rs)) (many / 2 + 1)) Q)
section
variable {P : Program} {w : World} {K : PySem.W.Frag} {mg : Str → Option Value} {base : Heap} {C : Addr}
theorem ok_check_many {f : Addr} {fd : FuncData} (F0 : Fun K "check_many" "check_many" s_check_many f fd) (least : ∃ t, mg "LEAST_HOUSES" = some (.int 2 t)) (most : ∃ t, mg "MOST_HOUSES" = some (.int 6 t)) (CN : Cal P w K mg base 1 "is_number" ["value", "low", "high"] spIsNumber) :
    FnOk P w K mg base CX0 2 f fd ["many"] spCheckMany := by
  obtain ⟨f1, fd1, G1, g1, kp1, b1⟩ := CN
  obtain ⟨tl, hl⟩ := least
  obtain ⟨tm, hm⟩ := most
  refine F0.ok sc_check_many (fun vs H Q E h => ?_) (fun cdv A outer s H vs Q E hr h => ?_)
  · obtain ⟨n, rfl, _⟩ := h
    rfl
  · obtain ⟨n, rfl, n2, n6, q⟩ := h
    refine ⟨_, pss_one (ps_if (pt_not (pt_val (pe_call G1 hr (by rfl) g1 kp1 b1 .nil pass0 (pa_cons (pv 0) (pa_cons (pe_glob (v := .int 2) (by rfl) hl ⟨_, rfl⟩) (pa_cons (pe_glob (v := .int 6) (by rfl) hm ⟨_, rfl⟩) pa_nil)))))) (pss_one ps_never) pss_nil), ?_⟩
    refine ⟨_, rfl, n, 2, 6, rfl, ?_⟩
    rw [decide_eq_true ⟨n2, n6⟩]
    exact ⟨true, rfl, iteF q⟩
theorem ok_check_oneX {f : Addr} {fd : FuncData} (F0 : Fun K "check_one_of" "check_one_of" s_check_one_of f fd) (X1 : ExMk K mg 1) (CN : Cal P w K mg base 1 "is_number" ["value", "low", "high"] spIsNumber) : FnOk P w K mg base (L2.CX P w) 2 f fd ["which", "many"] (spCheckOneX K) := by
  obtain ⟨f1, fd1, G1, g1, kp1, b1⟩ := CN
  obtain ⟨x1, x2, x3, x4, x5⟩ := X1
  have x2' : mg "NoHouse" = some (.ref (exC K 1)) := x2
  refine F0.okX sc_check_one_of (fun vs H Q E h => ?_) (fun cdv A outer s H vs Q E hr h => ?_)
  · obtain ⟨m, n, rfl, _⟩ := h
    rfl
  · obtain ⟨m, n, rfl, q1, q2⟩ := h
    refine ⟨_, pss_one (ps_if (pt_not (pt_val (pe_call G1 hr (by rfl) g1 kp1 b1 .nil pass0 (pa_cons (pv 0) (pa_cons pe_int (pa_cons (pe_op op_sub (pv 1) pe_int) pa_nil)))))) (pss_one (ps_raise rfl (takes_of rfl rfl rfl rfl) (pmk_own PySem.F.excBase_ValueError x1 x2' x3 (raises_own x4 x5) (by rfl)))) pss_nil), ?_⟩
    refine ⟨_, rfl, _, rfl, _, _, rfl, rfl, m, 0, n - 1, rfl, _, rfl, ?_⟩
    by_cases c : 0 ≤ m ∧ m < n
    · rw [decide_eq_true (⟨c.1, by omega⟩ : 0 ≤ m ∧ m ≤ n - 1)]
      exact iteF (q1 c)
    · rw [decide_eq_false (fun z => c ⟨z.1, by omega⟩ : ¬ (0 ≤ m ∧ m ≤ n - 1))]
      exact iteT (q2 c)
theorem ok_Lead__most {f : Addr} {fd : FuncData} (F0 : Fun K "_most" "Lead._most" s_Lead__most f fd) (T : TxQ K mg C) : FnOk P w K mg base CX0 1 f fd ["self"] (spMost C) := by
  refine F0.ok sc_Lead__most (fun vs H Q E h => ?_) (fun cdv A outer s H vs Q E hr h => ?_)
  · obtain ⟨F, p, aa, ta, many, an, kp, bg, rfl, _⟩ := h
    rfl
  · obtain ⟨F, p, aa, ta, many, an, kp, bg, rfl, A, m0, q⟩ := h
    obtain ⟨dx, ob⟩ := A.ob
    refine ⟨_, pss_one (ps_ret (pe_op op_add (pe_op op_fdiv (pe_fld (pv 0) rfl) pe_int) pe_int)), ?_⟩
    refine ⟨_, rfl, p, C, dx, _, _, rfl, ob, T.cl, T.nM, ll_many _ _ _ _, _, _, rfl, rfl, ⟨by decide, by decide⟩, _, _, rfl, rfl, ?_⟩
    exact q
theorem ok_Lead__check_begun {f : Addr} {fd : FuncData} (F0 : Fun K "_check_begun" "Lead._check_begun" s_Lead__check_begun f fd) (T : TxQ K mg C) (X6 : ExMk K mg 6) : FnOk P w K mg base (L2.CX P w) 1 f fd ["self"] (spCheckBegun K C) := by
  obtain ⟨x1, x2, x3, x4, x5⟩ := X6
  have x2' : mg "NotYet" = some (.ref (exC K 6)) := x2
  refine F0.okX sc_Lead__check_begun (fun vs H Q E h => ?_) (fun cdv A outer s H vs Q E hr h => ?_)
  · obtain ⟨F, p, aa, ta, many, an, kp, bg, rfl, _⟩ := h
    rfl
  · obtain ⟨F, p, aa, ta, many, an, kp, bg, rfl, A, q1, q2⟩ := h
    obtain ⟨dx, ob⟩ := A.ob
    refine ⟨_, pss_one (ps_if (pt_not (pt_val (pe_fld (pv 0) rfl))) (pss_one (ps_raise rfl (takes_of rfl rfl rfl rfl) (pmk_own PySem.F.excBase_ValueError x1 x2' x3 (raises_own x4 x5) (by rfl)))) pss_nil), ?_⟩
    refine ⟨_, rfl, p, C, dx, _, _, rfl, ob, T.cl, T.nB, ll_begun _ _ _ _, bg, rfl, ?_⟩
    cases bg with
    | true => exact iteF (q1 rfl)
    | false => exact iteT (q2 rfl)
theorem ok_Lead_leads {f : Addr} {fd : FuncData} (F0 : Fun K "leads" "Lead.leads" s_Lead_leads f fd) (T : TxQ K mg C) : FnOk P w K mg base CX0 1 f fd ["self"] (spLeads C) := by
  refine F0.ok sc_Lead_leads (fun vs H Q E h => ?_) (fun cdv A outer s H vs Q E hr h => ?_)
  · obtain ⟨F, p, aa, ta, many, an, kp, bg, rfl, _⟩ := h
    rfl
  · obtain ⟨F, p, aa, ta, many, an, kp, bg, rfl, A, q⟩ := h
    obtain ⟨dx, ob⟩ := A.ob
    exact ⟨_, pss_one (ps_ret (pe_fld (pv 0) rfl)), _, rfl, p, C, dx, _, _, rfl, ob, T.cl, T.nB, ll_begun _ _ _ _, q⟩
end
end Rw
set_option maxHeartbeats 1000000
namespace Rw
open PySem PySem.Spec PyProof.Rows L2
section
variable {C : Addr} {F H : Hp} {p aa ta : Addr} {many : Int} {an kp : List Ent} {bg : Bool}
/-- the answers are put -/
theorem LeadAt.putA (A : LeadAt C F H p aa ta many an kp bg) (ne : aa ≠ ta) {kvs : List (Key × V)} {an' : List Ent} (d : DK (RowR F) kvs an') : LeadAt C F (upd H aa (.dK kvs)) p aa ta many an' kp bg := by
  obtain ⟨dx, ob⟩ := A.ob
  obtain ⟨k2, a2, d2⟩ := A.ht
  exact ⟨⟨dx, by rw [upd_ne A.npa]; exact ob⟩, A.fp, ⟨kvs, upd_same, d⟩, A.fa, ⟨k2, by rw [upd_ne ne.symm]; exact a2, d2⟩, A.ft, A.ne⟩
theorem LeadAt.putT (A : LeadAt C F H p aa ta many an kp bg) (ne : aa ≠ ta) {kvs : List (Key × V)} {kp' : List Ent} (d : DK (RowR F) kvs kp') : LeadAt C F (upd H ta (.dK kvs)) p aa ta many an kp' bg := by
  obtain ⟨dx, ob⟩ := A.ob
  obtain ⟨k1, a1, d1⟩ := A.ha
  exact ⟨⟨dx, by rw [upd_ne A.npt]; exact ob⟩, A.fp, ⟨k1, by rw [upd_ne ne]; exact a1, d1⟩, A.fa, ⟨kvs, upd_same, d⟩, A.ft, A.ne⟩
theorem LeadAt.putB (A : LeadAt C F H p aa ta many an kp bg) {dx : Addr} (b : Bool) : LeadAt C F (upd H p (.ins C dx (lflds many aa ta b))) p aa ta many an kp b := by
  obtain ⟨k1, a1, d1⟩ := A.ha
  obtain ⟨k2, a2, d2⟩ := A.ht
  exact ⟨⟨dx, upd_same⟩, A.fp, ⟨k1, by rw [upd_ne A.npa.symm]; exact a1, d1⟩, A.fa, ⟨k2, by rw [upd_ne A.npt.symm]; exact a2, d2⟩, A.ft, A.ne⟩
theorem LeadAt.fz {b : Addr} {vs : List V} (A : LeadAt C F H p aa ta many an kp bg) (f : F b = none) (hb : H b = some (.lst vs)) : LeadAt C (upd F b (.lst vs)) H p aa ta many an kp bg := by
  obtain ⟨dx, ob⟩ := A.ob
  obtain ⟨k1, a1, d1⟩ := A.ha
  obtain ⟨k2, a2, d2⟩ := A.ht
  have ne : ∀ {c : Addr} {o : HO}, H c = some o → (∀ xs, o ≠ .lst xs) → c ≠ b := fun {c o} h z e => by
    rw [e, hb] at h
    exact z _ (Option.some.inj h).symm
  exact ⟨⟨dx, ob⟩, by rw [upd_ne (ne ob fun _ z => by cases z)]; exact A.fp, ⟨k1, a1, d1.mono fun _ _ z => (kL kRow).mono (same_upd f) z⟩, by rw [upd_ne (ne a1 fun _ z => by cases z)]; exact A.fa,
    ⟨k2, a2, d2.mono fun _ _ z => (kL kRow).mono (same_upd f) z⟩, by rw [upd_ne (ne a2 fun _ z => by cases z)]; exact A.ft, A.ne⟩
end
theorem badAt_valid {rows : List Row} (h : badAt rows = none) : Valid rows := fun r hr => (badAt_none.mp h r hr).2.2.2.1
section
variable {P : Program} {w : World} {K : PySem.W.Frag} {mg : Str → Option Value} {base : Heap} {C : Addr}
theorem ok_Lead___init__ {f : Addr} {fd : FuncData} (F0 : Fun K "__init__" "Lead.__init__" s_Lead___init__ f fd) (T : TxQ K mg C) (CM : Cal P w K mg base 2 "check_many" ["many"] spCheckMany) : FnOk P w K mg base CX0 3 f fd ["self", "many"] (spQInit C) := by
  obtain ⟨f1, fd1, G1, g1, kp1, b1⟩ := CM
  refine F0.ok sc_Lead___init__ (fun vs H Q E h => ?_) (fun cdv A outer s H vs Q E hr h => ?_)
  · obtain ⟨F, x, dx, n, rfl, _⟩ := h
    rfl
  · obtain ⟨F, x, dx, n, rfl, n2, n6, fh, ob, fx, q⟩ := h
    refine ⟨_, pss_cons (ps_expr (pe_call G1 hr (by rfl) g1 kp1 b1 .nil pass0 (pa_cons (pv 1) pa_nil)))
      (pss_cons (ps_fld (pv 0) (pv 1) rfl) (pss_cons (ps_fld (pv 0) pe_dnewK rfl) (pss_cons (ps_fld (pv 0) pe_dnewK rfl) (pss_one (ps_fld (pv 0) pe_bl rfl))))), ?_⟩
    refine ⟨_, rfl, n, rfl, n2, n6, ?_⟩
    refine ⟨_, rfl, _, rfl, x, C, dx, _, rfl, ob, T.cl, T.nM, by show 0 < 1000; decide, ?_⟩
    intro aa na
    have xa : x ≠ aa := ne_of_none upd_same na
    have na0 : H aa = none := by rw [upd_ne xa.symm] at na; exact na
    refine ⟨_, rfl, x, C, dx, _, rfl, by rw [upd_ne xa]; exact upd_same, T.cl, T.nA, by show 1 < 1000; decide, ?_⟩
    intro ta nt
    have xt : x ≠ ta := ne_of_none upd_same nt
    have at' : aa ≠ ta := ne_of_none (show upd (upd (upd H x (.ins C dx (putF "_many" (.int n) []))) aa (.dK [])) x _ aa = some (.dK []) by rw [upd_ne xa.symm]; exact upd_same) nt
    have nt0 : H ta = none := by rw [upd_ne xt.symm, upd_ne at'.symm, upd_ne xt.symm] at nt; exact nt
    refine ⟨_, rfl, x, C, dx, _, rfl, by rw [upd_ne xt]; exact upd_same, T.cl, T.nT, by show 2 < 1000; decide, ?_⟩
    refine ⟨_, rfl, x, C, dx, _, rfl, upd_same, T.cl, T.nB, by show 3 < 1000; decide, ?_⟩
    rw [upd_upd]
    have fa := fh.free na0
    have ft := fh.free nt0
    have X : Ext (· = x) F H F (upd (upd (upd (upd (upd H x (.ins C dx (putF "_many" (.int n) []))) aa (.dK [])) x (.ins C dx (putF "_answers" (.ref aa) (putF "_many" (.int n) [])))) ta (.dK [])) x (.ins C dx (putF "_begun" (.bl false) (putF "_told" (.ref ta) (putF "_answers" (.ref aa) (putF "_many" (.int n) [])))))) :=
      (((((Ext.refl (M := (· = x)) fh).put (.inr rfl) fx).put (.inl na0) fa).put (.inr rfl) fx).put (.inl nt0) ft).put (.inr rfl) fx
    refine q F _ aa ta X na0 nt0 at' ⟨⟨dx, by rw [upd_same, lf_init]⟩, fx, ⟨[], ?_, .nil⟩, fa, ⟨[], ?_, .nil⟩, ft, at'⟩
    · rw [upd_ne xa.symm, upd_ne at', upd_ne xa.symm]; exact upd_same
    · rw [upd_ne xt.symm]; exact upd_same
theorem ok_Lead_heard {f : Addr} {fd : FuncData} (F0 : Fun K "heard" "Lead.heard" s_Lead_heard f fd) (T : TxQ K mg C) (CO : CalX P w K mg base 2 "check_one_of" ["which", "many"] (spCheckOneX K)) (CC : CalX P w K mg base 5 "check_rows" ["rows"] (spCheckRowsX K)) (CF : Cal P w K mg base 3 "fewest" ["rows"] spFewest) :
    FnOk P w K mg base (L2.CX P w) 6 f fd ["self", "seat", "rows"] (spHeard K C) := by
  obtain ⟨f1, fd1, G1, g1, kp1, b1⟩ := CC
  obtain ⟨f2, fd2, G2, g2, kp2, b2⟩ := CF
  obtain ⟨f3, fd3, G3, g3, kp3, b3⟩ := CO
  refine F0.okX sc_Lead_heard (fun vs H Q E h => ?_) (fun cdv A outer s H vs Q E hr h => ?_)
  · obtain ⟨F, p, aa, ta, many, an, kp, bg, s, v, rfl, _⟩ := h
    rfl
  · obtain ⟨F, p, aa, ta, many, an, kp, bg, s, v, rfl, fh, A, lan, q1, q2⟩ := h
    have hr2 : Room 2 _ := hr.mono (by decide)
    have hr3 : Room 3 _ := hr.mono (by decide)
    have hu := hu_of hr
    obtain ⟨dx, ob⟩ := A.ob
    refine ⟨_, pss_cons (ps_expr (pe_call G3 hr2 (by rfl) g3 kp3 b3 .nil (passes_call (E := E) (takes_of rfl rfl rfl rfl) fun _ _ _ _ h => h) (pa_cons (pv 1) (pa_cons (pe_fld (pv 0) rfl) pa_nil))))
      (pss_cons (ps_expr (pe_call G1 hr (by rfl) g1 kp1 b1 .nil (passes_call (E := E) (takes_of rfl rfl rfl rfl) fun _ _ _ _ h => h) (pa_cons (pv 2) pa_nil)))
      (pss_one (ps_if (pt_not (pt_val (pe_fld (pv 0) rfl))) (pss_one (ps_dput hu (pe_fld (pv 0) rfl) (pv 1) (pe_call G2 hr3 (by rfl) g2 kp2 b2 .nil pass0 (pa_cons (pv 2) pa_nil)) rfl)) pss_nil))), ?_⟩
    refine ⟨_, rfl, _, rfl, p, C, dx, _, _, rfl, ob, T.cl, T.nM, ll_many _ _ _ _, s, many, rfl, fun hs => ?_, fun hs => q1 hs⟩
    obtain ⟨more, ps, hv, hl, q3, q4⟩ := q2 hs
    refine ⟨_, rfl, v, more, rfl, (kL kRow).mono fh hv, hl, fun hb H1 s1 => ?_, fun i hi => q3 i hi⟩
    obtain ⟨q5, q6⟩ := q4 hb
    have X1 := Ext.ofSame fh s1
    have A1 := A.ext X1
    obtain ⟨dx1, ob1⟩ := A1.ob
    refine ⟨_, rfl, p, C, dx1, _, _, rfl, ob1, T.cl, T.nB, ll_begun _ _ _ _, bg, rfl, ?_⟩
    cases hbg : bg with
    | true =>
      exact iteF (q5 hbg H1 s1)
    | false =>
      refine iteT ⟨_, rfl, F, v, more, rfl, X1.fh, hv, badAt_valid hb, by omega, fun F2 H2 a vs rs X2 na fa ha hp fw => ?_⟩
      have X3 := (X1.trans X2).frz ((X1.free na)) fa ha
      have A3 := A1.ext ((X2).frz na fa ha)
      have ko : (kL kRow).is (upd F2 a (.lst vs)) (.ref a) rs := kL_new fa hp
      obtain ⟨dx3, ob3⟩ := A3.ob
      obtain ⟨kvs, ha3, dk⟩ := A3.ha
      have ne := A.ne
      refine ⟨_, rfl, p, C, dx3, _, _, rfl, ob3, T.cl, T.nA, ll_ans _ _ _ _, _, rfl, aa, _, rfl, DPut.k (k := (Sum.inl s : Key)) ha3 (by rw [dk.len, sizeLine_eq]; omega), ?_⟩
      have dk' := dk.put (e := ⟨s, rs, ps⟩) ko
      have A4 := A3.putA ne dk'
      subst hbg
      exact q6 rfl _ _ rs (X3.up.put (.inr rfl) A3.fa) fw A4
/-- list(self.d.values()), frozen -/
theorem ok_Lead_must {f : Addr} {fd : FuncData} (F0 : Fun K "must" "Lead.must" s_Lead_must f fd) (T : TxQ K mg C) (X6 : ExMk K mg 6) (CM : CalM P w K mg base C 1 "_most" ["self"] (spMost C)) (CH : Cal P w K mg base 4 "held_by_many" ["sets", "least"] spHeld) : FnOk P w K mg base (L2.CX P w) 5 f fd ["self"] (spMust K C) := by
  obtain ⟨f1, fd1, G1, m1, b1⟩ := CM
  obtain ⟨f2, fd2, G2, g2, kp2, b2⟩ := CH
  obtain ⟨x1, x2, x3, x4, x5⟩ := X6
  have x2' : mg "NotYet" = some (.ref (exC K 6)) := x2
  refine F0.okX sc_Lead_must (fun vs H Q E h => ?_) (fun cdv A outer s H vs Q E hr h => ?_)
  · obtain ⟨F, p, aa, ta, many, an, kp, bg, rfl, _⟩ := h
    rfl
  · obtain ⟨F, p, aa, ta, many, an, kp, bg, rfl, fh, A, m0, eo, q1, q2⟩ := h
    have hr1 : Room 1 _ := hr.mono (by decide)
    obtain ⟨dx, ob⟩ := A.ob
    obtain ⟨kvs, hk, dk⟩ := A.ha
    refine ⟨_, pss_cons (ps_if (pt_cmpR op_lt (pe_callB call_lenD (by rfl) T.len PySem.boot_len (pa_cons (pe_fld (pv 0) rfl) pa_nil)) (pe_meth0 (pv 0) T.cl m1 G1 hr1 b1 .nil pass0) (nomark _)) (pss_one (ps_raise rfl (takes_of rfl rfl rfl rfl) (pmk_own PySem.F.excBase_ValueError x1 x2' x3 (raises_own x4 x5) (by rfl)))) pss_nil)
      (pss_one (ps_ret (pe_call G2 hr (by rfl) g2 kp2 b2 .nil pass0 (pa_cons (pe_callTy (cr_listValsK (by rfl)) (by rfl) T.list (by decide +kernel) (pa_cons (pe_bm0 PySem.F.plainAttrs_dict PySem.F.slot_dict_values PySem.F.type_dict_values mt_valuesK (pe_fld (pv 0) rfl)) pa_nil)) (pa_cons pe_int pa_nil))))), ?_⟩
    refine ⟨_, rfl, p, C, dx, _, _, rfl, ob, T.cl, T.nA, ll_ans _ _ _ _, aa, kvs, rfl, hk, _, rfl, p, dx, _, rfl, ob, ll_most _ _ _ _, F, p, aa, ta, many, an, kp, bg, rfl, A, m0, _, _, rfl, rfl, _, rfl, ?_⟩
    rw [dk.len]
    refine iteL (fun c => q1 c) (fun c => ?_)
    refine ⟨_, rfl, p, C, dx, _, _, rfl, ob, T.cl, T.nA, ll_ans _ _ _ _, .inr (.inr (.inl ⟨rfl, .inl ⟨_, hk⟩⟩)), aa, kvs, rfl, rfl, hk, fun vw nvw => ?_⟩
    have X1 := (Ext.refl (M := M0) fh).tmp (o := vwI vw aa) nvw
    have hk1 : upd H vw (vwI vw aa) aa = some (.dK kvs) := by rw [upd_ne (ne_of_none hk nvw)]; exact hk
    refine ⟨vw, aa, kvs, rfl, upd_same, hk1, fun l nl => ?_⟩
    have X2 := X1.tmp (o := .lst (kvs.map (·.2))) nl
    have fl := X1.ffree nl
    have X3 := X2.frz (X1.free nl) fl upd_same
    refine ⟨_, .ref l, an.map (·.rs), 1, rfl, X3.fh, kL_new fl dk.vals, fun rs hrs => ?_, Nat.le_trans (eok_total eo) (by decide), by decide, RetL.step X3 (q2 (by omega)) fun _ z => z⟩
    obtain ⟨e, he, rfl⟩ := List.mem_map.mp hrs
    exact (eo.2 e he).1
theorem ok_Lead_begin {f : Addr} {fd : FuncData} (F0 : Fun K "begin" "Lead.begin" s_Lead_begin f fd) (T : TxQ K mg C) (X6 : ExMk K mg 6) (CC : CalX P w K mg base 5 "check_rows" ["rows"] (spCheckRowsX K)) (CM : CalMX P w K mg base C 5 "must" ["self"] (spMust K C)) (CW : Cal P w K mg base 4 "without" ["one", "other"] spWithout) :
    FnOk P w K mg base (L2.CX P w) 6 f fd ["self", "rows"] (spBegin K C) := by
  obtain ⟨f1, fd1, G1, g1, kp1, b1⟩ := CC
  obtain ⟨f2, fd2, G2, g2, kp2, b2⟩ := CW
  obtain ⟨f3, fd3, G3, m3, b3⟩ := CM
  obtain ⟨x1, x2, x3, x4, x5⟩ := X6
  have x2' : mg "NotYet" = some (.ref (exC K 6)) := x2
  refine F0.okX sc_Lead_begin (fun vs H Q E h => ?_) (fun cdv A outer s H vs Q E hr h => ?_)
  · obtain ⟨F, p, aa, ta, many, an, kp, bg, v, more, rfl, _⟩ := h
    rfl
  · obtain ⟨F, p, aa, ta, many, an, kp, bg, v, more, rfl, fh, A, m0, eo, hv, hl, q1, q2⟩ := h
    have hr4 : Room 4 _ := hr.mono (by decide)
    refine ⟨_, pss_cons (ps_expr (pe_call G1 hr (by rfl) g1 kp1 b1 .nil (passes_call (E := E) (takes_of rfl rfl rfl rfl) fun _ _ _ _ h => h) (pa_cons (pv 1) pa_nil)))
      (pss_cons (ps_if (pt_truth (pe_call G2 hr4 (by rfl) g2 kp2 b2 .nil pass0 (pa_cons (pe_meth0 (pv 0) T.cl m3 G3 hr b3 .nil (passes_call (E := E) (takes_of rfl rfl rfl rfl) fun _ _ _ _ h => h)) (pa_cons (pv 1) pa_nil))) (by intro _; rfl))
        (pss_one (ps_raise rfl (takes_of rfl rfl rfl rfl) (pmk_own PySem.F.excBase_ValueError x1 x2' x3 (raises_own x4 x5) (by rfl)))) pss_nil)
      (pss_one (ps_fld (pv 0) pe_bl rfl))), ?_⟩
    refine ⟨_, rfl, v, more, rfl, (kL kRow).mono fh hv, hl, fun hb H1 s1 => ?_, fun i hi => q1 i hi⟩
    obtain ⟨q3, q4⟩ := q2 hb
    have X1 := Ext.ofSame fh s1
    have A1 := A.ext X1
    obtain ⟨dx, ob⟩ := A1.ob
    refine ⟨_, rfl, p, dx, _, rfl, ob, ll_must _ _ _ _, F, p, aa, ta, many, an, kp, bg, rfl, X1.fh, A1, m0, eo, fun c => q3 c H1 s1, fun c => ?_⟩
    obtain ⟨q5, q6⟩ := q4 c
    intro F2 H2 a vs out X2 na fa ha hp hd
    have X3 := (X1.trans X2).frz (X1.free na) fa ha
    have A3 := A1.ext (X2.frz na fa ha)
    have ko : (kL kRow).is (upd F2 a (.lst vs)) (.ref a) out := kL_new fa hp
    have lo : out.length ≤ 50000 := Nat.le_trans hd.len (eok_total eo)
    refine ⟨_, rfl, _, .ref a, v, out, more, rfl, X3.fh, ko, (kL kRow).mono X3.ff hv, hd.can.ok, badAt_valid hb, lo, by omega, fun F4 H4 b us gap X4 nb fb hb4 hpg wo => ?_⟩
    have X5 := X3.trans X4
    have A5 := A3.ext X4
    refine ⟨_, .inl ⟨us, SqL.of hb4, rfl⟩, ?_⟩
    have lg := pr_len hpg
    by_cases e : us = []
    · subst e
      refine iteF ?_
      obtain ⟨dx5, ob5⟩ := A5.ob
      refine ⟨_, rfl, p, C, dx5, _, rfl, ob5, T.cl, T.nB, lf_len _ _ _ _, ?_⟩
      rw [lp_begun]
      refine q6 (fun q hq => ?_) F4 _ (X5.up.put (.inr rfl) A5.fp) (A5.putB true)
      have g0 : gap = [] := List.length_eq_zero_iff.mp (by rw [← lg]; rfl)
      rcases Classical.em (mem more q) with z | z
      · exact z
      · have z' := (wo.mem q).mpr ⟨(hd.mem q).mpr hq, z⟩
        rw [g0] at z'
        exact absurd z' mem_nil
    · have e' : us.isEmpty = false := by
        cases us with
        | nil => exact absurd rfl e
        | cons _ _ => rfl
      rw [e']
      refine iteT ?_
      have g0 : gap ≠ [] := fun z => e (List.length_eq_zero_iff.mp (by rw [lg, z]; rfl))
      obtain ⟨r, hr'⟩ := List.exists_mem_of_ne_nil gap g0
      have hm := (wo.mem (r.1, r.2.1)).mp (wo.can.first hr')
      exact q5 ⟨_, (hd.mem _).mp hm.1, hm.2⟩ H4 (s1.trans (X2.same.trans X4.same))
theorem ok_Lead_kept {f : Addr} {fd : FuncData} (F0 : Fun K "kept" "Lead.kept" s_Lead_kept f fd) (T : TxQ K mg C) (CO : CalX P w K mg base 2 "check_one_of" ["which", "many"] (spCheckOneX K)) (CC : CalX P w K mg base 5 "check_rows" ["rows"] (spCheckRowsX K)) (CF : Cal P w K mg base 3 "fewest" ["rows"] spFewest)
    (CB : CalMX P w K mg base C 1 "_check_begun" ["self"] (spCheckBegun K C)) : FnOk P w K mg base (L2.CX P w) 6 f fd ["self", "seat", "rows"] (spLKept2 K C) := by
  obtain ⟨f1, fd1, G1, g1, kp1, b1⟩ := CC
  obtain ⟨f2, fd2, G2, g2, kp2, b2⟩ := CF
  obtain ⟨f3, fd3, G3, g3, kp3, b3⟩ := CO
  obtain ⟨f4, fd4, G4, m4, b4⟩ := CB
  refine F0.okX sc_Lead_kept (fun vs H Q E h => ?_) (fun cdv A outer s H vs Q E hr h => ?_)
  · obtain ⟨F, p, aa, ta, many, an, kp, bg, s, v, rfl, _⟩ := h
    rfl
  · obtain ⟨F, p, aa, ta, many, an, kp, bg, s, v, rfl, fh, A, eo, q1, q2⟩ := h
    have hr1 : Room 1 _ := hr.mono (by decide)
    have hr2 : Room 2 _ := hr.mono (by decide)
    have hr3 : Room 3 _ := hr.mono (by decide)
    have hu := hu_of hr
    obtain ⟨dx, ob⟩ := A.ob
    refine ⟨_, pss_cons (ps_expr (pe_call G3 hr2 (by rfl) g3 kp3 b3 .nil (passes_call (E := E) (takes_of rfl rfl rfl rfl) fun _ _ _ _ h => h) (pa_cons (pv 1) (pa_cons (pe_fld (pv 0) rfl) pa_nil))))
      (pss_cons (ps_expr (pe_call G1 hr (by rfl) g1 kp1 b1 .nil (passes_call (E := E) (takes_of rfl rfl rfl rfl) fun _ _ _ _ h => h) (pa_cons (pv 2) pa_nil)))
      (pss_cons (ps_expr (pe_meth0 (pv 0) T.cl m4 G4 hr1 b4 .nil (passes_call (E := E) (takes_of rfl rfl rfl rfl) fun _ _ _ _ h => h)))
      (pss_one (ps_dput hu (pe_fld (pv 0) rfl) (pv 1) (pe_call G2 hr3 (by rfl) g2 kp2 b2 .nil pass0 (pa_cons (pe_op op_cat (pe_dget2 hu (pe_fld (pv 0) rfl) (pv 1) (pe_lst pa_nil) ⟨rfl, rfl, rfl, rfl⟩) (pv 2)) pa_nil)) rfl)))), ?_⟩
    refine ⟨_, rfl, _, rfl, p, C, dx, _, _, rfl, ob, T.cl, T.nM, ll_many _ _ _ _, s, many, rfl, fun hs => ?_, fun hs => q1 hs⟩
    obtain ⟨more, ps, hv, hl, q3, q4⟩ := q2 hs
    refine ⟨_, rfl, v, more, rfl, (kL kRow).mono fh hv, hl, fun hb H1 s1 => ?_, fun i hi => q3 i hi⟩
    obtain ⟨q5, q6⟩ := q4 hb
    have X1 := Ext.ofSame fh s1
    have A1 := A.ext X1
    obtain ⟨dx1, ob1⟩ := A1.ob
    refine ⟨_, rfl, p, dx1, _, rfl, ob1, ll_cb _ _ _ _, F, p, aa, ta, many, an, kp, bg, rfl, A1, fun hbg => ?_, fun hbg => q5 hbg H1 s1⟩
    obtain ⟨kvs, hk, dk⟩ := A1.ht
    obtain ⟨va, ys, ev, hva, hvp⟩ := id hv
    subst ev
    refine ⟨_, rfl, p, C, dx1, _, _, rfl, ob1, T.cl, T.nT, ll_told _ _ _ _, ta, rfl, .inl ⟨kvs, .inl hk⟩, _, rfl, by show 0 ≤ sizeLine; decide, fun l nl => ?_⟩
    have X2 := X1.lay (o := .lst []) nl
    have A2 := A1.ext ((Ext.refl X1.fh).lay (o := .lst []) nl)
    have kl : (kL kRow).is (upd F l (.lst [])) (.ref l) [] := ⟨l, [], rfl, upd_same, .nil⟩
    have hk2 : upd H1 l (.lst []) ta = some (.dK kvs) := by rw [upd_ne (ne_of_none hk nl)]; exact hk
    have hv2 : (kL kRow).is (upd F l (.lst [])) (.ref va) more := (kL kRow).mono X2.ff hv
    have dk2 : DK (RowR (upd F l (.lst []))) kvs kp := dk.mono fun _ _ z => (kL kRow).mono X2.ff z
    revert X2 A2 kl hk2 hv2 dk2
    generalize upd F l (.lst []) = F2
    generalize upd H1 l (.lst []) = H2
    intro X2 A2 kl hk2 hv2 dk2
    obtain ⟨ao, old, ho, hoV⟩ : ∃ (ao : Addr) (old : List Row), (((valV kvs (.inl s : Key)).getD (.ref l)) = .ref ao ∧ (kL kRow).is F2 (.ref ao) old) ∧ old = ((valE kp s).map (·.rs)).getD [] ∧ Valid old ∧ old.length ≤ 5000 := by
      rcases dk2.get s with ⟨e1, e2⟩ | ⟨v', e, e1, e2, r⟩
      · exact ⟨l, [], ⟨by rw [e1]; rfl, kl⟩, by rw [e2]; rfl, fun r hr => absurd hr (by simp), by decide⟩
      · obtain ⟨a', xs', rfl, h1, h2⟩ := id r
        have he := List.mem_of_find?_eq_some e2
        exact ⟨a', e.rs, ⟨by rw [e1]; rfl, r⟩, by rw [e2]; rfl, eo.2 e he⟩
    obtain ⟨hval, hlen⟩ := hoV.2
    obtain ⟨ao', zs, e0, hz, pz⟩ := id ho.2
    cases e0
    obtain ⟨va', ys', e1, hva2, hvp2⟩ := id hv2
    cases e1
    have lz := pr_len pz
    have ly := pr_len hvp2
    refine ⟨valV kvs (.inl s : Key), DGet.k (k := (Sum.inl s : Key)) hk2, ?_⟩
    rw [ho.1]
    refine ⟨_, rfl, ao, va, zs, ys', rfl, rfl, X2.fh _ _ hz, X2.fh _ _ hva2, by rw [sizeLine_eq]; omega, fun c nc => ?_⟩
    have X3 := X2.lay (o := .lst (zs ++ ys')) nc
    have kc : (kL kRow).is (upd F2 c (.lst (zs ++ ys'))) (.ref c) (old ++ more) := kL_new (X2.ffree nc) (pr_append pz hvp2)
    have A3 := A2.ext ((Ext.refl X2.fh).lay (o := .lst (zs ++ ys')) nc)
    have vall : Valid (old ++ more) := fun r hr' => by
      rcases List.mem_append.mp hr' with z | z
      · exact hval r z
      · exact badAt_valid hb r z
    refine ⟨_, .ref c, old ++ more, rfl, X3.fh, kc, vall, by rw [List.length_append]; omega, fun F4 H4 a vs rs X4 na fa ha hp fw => ?_⟩
    have X5 := (X3.trans X4).frz (X3.free na) fa ha
    have A5 := A3.ext (X4.frz na fa ha)
    have ko : (kL kRow).is (upd F4 a (.lst vs)) (.ref a) rs := kL_new fa hp
    obtain ⟨dx5, ob5⟩ := A5.ob
    obtain ⟨kvs5, hk5, dk5⟩ := A5.ht
    have leo := eo.1
    refine ⟨_, rfl, p, C, dx5, _, _, rfl, ob5, T.cl, T.nT, ll_told _ _ _ _, _, rfl, ta, _, rfl, DPut.k (k := (Sum.inl s : Key)) hk5 (by rw [dk5.len, sizeLine_eq]; omega), ?_⟩
    have A6 := A5.putT A5.ne (dk5.put (e := ⟨s, rs, ps⟩) ko)
    exact q6 hbg _ _ rs (X5.up.put (.inr rfl) A5.ft) (by rw [← hoV.1]; exact fw) A6
theorem ok_Lead_shown {f : Addr} {fd : FuncData} (F0 : Fun K "shown" "Lead.shown" s_Lead_shown f fd) (T : TxQ K mg C) (CM : CalM P w K mg base C 1 "_most" ["self"] (spMost C)) (CH : Cal P w K mg base 4 "held_by_many" ["sets", "least"] spHeld) (CB : CalMX P w K mg base C 1 "_check_begun" ["self"] (spCheckBegun K C)) :
    FnOk P w K mg base (L2.CX P w) 5 f fd ["self"] (spShown K C) := by
  obtain ⟨f1, fd1, G1, m1, b1⟩ := CM
  obtain ⟨f2, fd2, G2, g2, kp2, b2⟩ := CH
  obtain ⟨f4, fd4, G4, m4, b4⟩ := CB
  refine F0.okX sc_Lead_shown (fun vs H Q E h => ?_) (fun cdv A outer s H vs Q E hr h => ?_)
  · obtain ⟨F, p, aa, ta, many, an, kp, bg, rfl, _⟩ := h
    rfl
  · obtain ⟨F, p, aa, ta, many, an, kp, bg, rfl, fh, A, m0, eo, q1, q2⟩ := h
    have hr1 : Room 1 _ := hr.mono (by decide)
    obtain ⟨dx, ob⟩ := A.ob
    obtain ⟨kvs, hk, dk⟩ := A.ht
    refine ⟨_, pss_cons (ps_expr (pe_meth0 (pv 0) T.cl m4 G4 hr1 b4 .nil (passes_call (E := E) (takes_of rfl rfl rfl rfl) fun _ _ _ _ h => h)))
      (pss_one (ps_ret (pe_call G2 hr (by rfl) g2 kp2 b2 .nil pass0 (pa_cons (pe_callTy (cr_listValsK (by rfl)) (by rfl) T.list (by decide +kernel) (pa_cons (pe_bm0 PySem.F.plainAttrs_dict PySem.F.slot_dict_values PySem.F.type_dict_values mt_valuesK (pe_fld (pv 0) rfl)) pa_nil)) (pa_cons (pe_meth0 (pv 0) T.cl m1 G1 hr1 b1 .nil pass0) pa_nil))))), ?_⟩
    refine ⟨_, rfl, p, dx, _, rfl, ob, ll_cb _ _ _ _, F, p, aa, ta, many, an, kp, bg, rfl, A, fun hbg => ?_, fun hbg => q1 hbg⟩
    refine ⟨_, rfl, p, C, dx, _, _, rfl, ob, T.cl, T.nT, ll_told _ _ _ _, .inr (.inr (.inl ⟨rfl, .inl ⟨_, hk⟩⟩)), ta, kvs, rfl, rfl, hk, fun vw nvw => ?_⟩
    have X1 := (Ext.refl (M := M0) fh).tmp (o := vwI vw ta) nvw
    have hk1 : upd H vw (vwI vw ta) ta = some (.dK kvs) := by rw [upd_ne (ne_of_none hk nvw)]; exact hk
    refine ⟨vw, ta, kvs, rfl, upd_same, hk1, fun l nl => ?_⟩
    have X2 := X1.tmp (o := .lst (kvs.map (·.2))) nl
    have fl := X1.ffree nl
    have X3 := X2.frz (X1.free nl) fl upd_same
    have A3 := A.ext X3
    obtain ⟨dx3, ob3⟩ := A3.ob
    refine ⟨_, rfl, p, dx3, _, rfl, ob3, ll_most _ _ _ _, _, p, aa, ta, many, an, kp, bg, rfl, A3, m0, ?_⟩
    refine ⟨_, .ref l, kp.map (·.rs), many / 2 + 1, rfl, X3.fh, kL_new fl dk.vals, fun rs hrs => ?_, Nat.le_trans (eok_total eo) (by decide), by omega, RetL.step X3 (q2 hbg) fun _ z => z⟩
    obtain ⟨e, he, rfl⟩ := List.mem_map.mp hrs
    exact (eo.2 e he).1
end
end Rw
namespace Rw
open PySem PySem.Spec PyProof.Rows L2
/-! ### leads by terms, in plain data: what was shown is never lost -/
theorem cntT_nn (p : Pt) : ∀ sets : List (List Row), 0 ≤ cnt sets p
  | [] => Int.le_refl _
  | rs :: sets => by
    have e : cnt (rs :: sets) p = ind (mem rs p) + cnt sets p := rfl
    rw [e]
    have := cntT_nn p sets
    rcases ind_or (mem rs p) with ⟨_, z⟩ | ⟨_, z⟩ <;> rw [z] <;> omega
theorem cntT_one {p : Pt} {rs : List Row} : ∀ {sets : List (List Row)}, rs ∈ sets → mem rs p → 1 ≤ cnt sets p
  | [], h, _ => absurd h (by simp)
  | q :: sets, h, m => by
    have e : cnt (q :: sets) p = ind (mem q p) + cnt sets p := rfl
    rw [e]
    have := cntT_nn p sets
    rcases List.mem_cons.mp h with z | z
    · rw [← z, ind_pos m]; omega
    · have := cntT_one z m
      rcases ind_or (mem q p) with ⟨_, z⟩ | ⟨_, z⟩ <;> rw [z] <;> omega
/-- the seats whose entry holds a point -/
def whoHas (es : List Ent) (p : Pt) : List Int := (es.filter fun e => decide (mem e.rs p)).map (·.s)
theorem who_len (p : Pt) : ∀ es : List Ent, ((whoHas es p).length : Int) = cnt (es.map (·.rs)) p
  | [] => rfl
  | e :: es => by
    have ih := who_len p es
    unfold whoHas at ih ⊢
    have e1 : cnt ((e :: es).map (·.rs)) p = ind (mem e.rs p) + cnt (es.map (·.rs)) p := rfl
    rw [e1]
    by_cases m : mem e.rs p
    · rw [List.filter_cons_of_pos (by simpa using m), List.map_cons, List.length_cons, ind_pos m]
      omega
    · rw [List.filter_cons_of_neg (by simpa using m), ind_neg m, ih]
      omega
theorem who_nd {es : List Ent} (nd : (es.map (·.s)).Nodup) (p : Pt) : (whoHas es p).Nodup := by
  unfold whoHas
  exact nd.sublist ((List.filter_sublist).map _)
/-- two lots of more than half have one in common -/
theorem meet {n : Int} {A B : List Int} (n0 : 0 ≤ n) (hA : ∀ s ∈ A, 0 ≤ s ∧ s < n) (hB : ∀ s ∈ B, 0 ≤ s ∧ s < n) (nA : A.Nodup) (nB : B.Nodup) (la : n / 2 + 1 ≤ (A.length : Int)) (lb : n / 2 + 1 ≤ (B.length : Int)) : ∃ s, s ∈ A ∧ s ∈ B := by
  rcases Classical.em (∃ s, s ∈ A ∧ s ∈ B) with h | h
  · exact h
  · have nd : (A ++ B).Nodup := List.nodup_append.mpr ⟨nA, nB, fun a ha b hb e => h ⟨a, ha, e ▸ hb⟩⟩
    have hs := nodup_sub (A ++ B) ((List.range n.toNat).map fun (i : Nat) => (i : Int)) nd fun x hx => by
      have hx' : 0 ≤ x ∧ x < n := (List.mem_append.mp hx).elim (hA x) (hB x)
      exact List.mem_map.mpr ⟨x.toNat, List.mem_range.mpr (by omega), by show ((x.toNat : Nat) : Int) = x; omega⟩
    rw [List.length_append, List.length_map, List.length_range] at hs
    omega
structure Ld where
  term : Int
  me : Int
  an : List Ent
  kp : List Ent
  bg : Bool
  late : List (Int × List Row)
/-- a seat told a lead a point, by keep -/
def Tl (l : Ld) (s : Int) (p : Pt) : Prop := (∃ e ∈ l.kp, e.s = s ∧ mem e.rs p) ∨ ∃ r ∈ l.late, r.1 = s ∧ mem r.2 p
structure InR (n : Int) (es : List Ent) : Prop where
  rng : ∀ e ∈ es, 0 ≤ e.s ∧ e.s < n
  nd : (es.map (·.s)).Nodup
theorem InR.nil {n : Int} : InR n [] := ⟨fun e h => absurd h (by simp), .nil⟩
structure TInv (n : Int) (R : Int → Pt → Prop) (Tm : Int → Int) (ls : List Ld) (sh : List (Int × List Row)) : Prop where
  n0 : 0 ≤ n
  terms : ∀ (i : Nat) l, ls[i]? = some l → l.term = (i : Int) + 1
  an : ∀ l ∈ ls, InR n l.an
  kp : ∀ l ∈ ls, InR n l.kp
  held : ∀ l ∈ ls, ∀ s p, Tl l s p → R s p
  ans : ∀ l' ∈ ls, ∀ e ∈ l'.an, l'.term ≤ Tm e.s ∧ ∀ l ∈ ls, l.term < l'.term → ∀ p, Tl l e.s p → mem e.rs p
  shown : ∀ x ∈ sh, ∃ l ∈ ls, l.term = x.1 ∧ ∀ p, mem x.2 p → n / 2 + 1 ≤ cnt (l.kp.map (·.rs)) p
  beg : ∀ l ∈ ls, l.bg = true → n / 2 + 1 ≤ (l.an.length : Int)
section
variable {n : Int} {R R' : Int → Pt → Prop} {Tm Tm' : Int → Int} {ls : List Ld} {sh : List (Int × List Row)} {l l' : Ld} {i : Nat}
/-- what a lead may show is in what each later one must hold -/
theorem TInv.safe (I : TInv n R Tm ls sh) (hl : l ∈ ls) (hl' : l' ∈ ls) (lt : l.term < l'.term) (h : n / 2 + 1 ≤ (l'.an.length : Int)) {p : Pt} (hp : n / 2 + 1 ≤ cnt (l.kp.map (·.rs)) p) : 1 ≤ cnt (l'.an.map (·.rs)) p := by
  obtain ⟨s, h1, h2⟩ := meet (A := whoHas l.kp p) (B := l'.an.map (·.s)) I.n0 (fun s hs => by
    obtain ⟨e, he, rfl⟩ := List.mem_map.mp hs
    exact (I.kp l hl).rng e (List.mem_filter.mp he).1) (fun s hs => by
    obtain ⟨e, he, rfl⟩ := List.mem_map.mp hs
    exact (I.an l' hl').rng e he) (who_nd (I.kp l hl).nd p) (I.an l' hl').nd (by rw [who_len]; exact hp) (by rw [List.length_map]; exact h)
  obtain ⟨e', he', rfl⟩ := List.mem_map.mp h2
  obtain ⟨e, he, es⟩ := List.mem_map.mp h1
  obtain ⟨he1, he2⟩ := List.mem_filter.mp he
  have := (I.ans l' hl' e' he').2 l hl lt p (.inl ⟨e, he1, es, of_decide_eq_true he2⟩)
  exact cntT_one (List.mem_map.mpr ⟨e', he', rfl⟩) this
theorem TInv.shownSafe (I : TInv n R Tm ls sh) {x : Int × List Row} (hx : x ∈ sh) (hl' : l' ∈ ls) (lt : x.1 < l'.term) (h : n / 2 + 1 ≤ (l'.an.length : Int)) {p : Pt} (hp : mem x.2 p) : 1 ≤ cnt (l'.an.map (·.rs)) p := by
  obtain ⟨l, hl, e, m⟩ := I.shown x hx
  exact I.safe hl hl' (by omega) h (m p hp)
/-- seats hold more, terms rise -/
theorem TInv.grow (I : TInv n R Tm ls sh) (hR : ∀ s p, R s p → R' s p) (hT : ∀ s, Tm s ≤ Tm' s) : TInv n R' Tm' ls sh :=
  ⟨I.n0, I.terms, I.an, I.kp, fun l hl s p z => hR s p (I.held l hl s p z), fun l' hl' e he => ⟨Int.le_trans (I.ans l' hl' e he).1 (hT _), (I.ans l' hl' e he).2⟩, I.shown, I.beg⟩
/-- a new lead -/
theorem TInv.new (I : TInv n R Tm ls sh) {me : Int} : TInv n R Tm (ls ++ [⟨(ls.length : Int) + 1, me, [], [], false, []⟩]) sh := by
  have mm : ∀ {x : Ld}, x ∈ ls ++ [⟨(ls.length : Int) + 1, me, [], [], false, []⟩] → x ∈ ls ∨ x = ⟨(ls.length : Int) + 1, me, [], [], false, []⟩ := fun h => (List.mem_append.mp h).imp id fun z => List.mem_singleton.mp z
  refine ⟨I.n0, fun i l h => ?_, fun l h => ?_, fun l h => ?_, fun l h s p z => ?_, fun l' h e he => ?_, fun x hx => ?_, fun l h z => ?_⟩
  · by_cases c : i < ls.length
    · rw [List.getElem?_append_left c] at h
      exact I.terms i l h
    · have := (List.getElem?_eq_some_iff.mp h).1
      rw [List.length_append, List.length_singleton] at this
      obtain rfl : i = ls.length := by omega
      rw [List.getElem?_append_right (Nat.le_refl _), Nat.sub_self] at h
      cases h
      rfl
  · rcases mm h with z | rfl
    · exact I.an l z
    · exact .nil
  · rcases mm h with z | rfl
    · exact I.kp l z
    · exact .nil
  · rcases mm h with y | rfl
    · exact I.held l y s p z
    · rcases z with ⟨e, he, _⟩ | ⟨e, he, _⟩ <;> exact absurd he (by simp)
  · rcases mm h with y | rfl
    · refine ⟨(I.ans l' y e he).1, fun l hl lt p t => ?_⟩
      rcases mm hl with z | rfl
      · exact (I.ans l' y e he).2 l z lt p t
      · rcases t with ⟨e, he, _⟩ | ⟨e, he, _⟩ <;> exact absurd he (by simp)
    · exact absurd he (by simp)
  · obtain ⟨l, hl, z⟩ := I.shown x hx
    exact ⟨l, List.mem_append.mpr (.inl hl), z⟩
  · rcases mm h with y | rfl
    · exact I.beg l y z
    · cases z
theorem TInv.show (I : TInv n R Tm ls sh) (hl : l ∈ ls) {rs : List Row} (h : ∀ p, mem rs p → n / 2 + 1 ≤ cnt (l.kp.map (·.rs)) p) : TInv n R Tm ls (sh ++ [(l.term, rs)]) :=
  ⟨I.n0, I.terms, I.an, I.kp, I.held, I.ans, fun x hx => by
    rcases List.mem_append.mp hx with z | z
    · exact I.shown x z
    · rw [List.mem_singleton.mp z]
      exact ⟨l, hl, rfl, h⟩, I.beg⟩
/-- one lead changes: what it was told only grows, and fits -/
theorem TInv.upd (I : TInv n R Tm ls sh) (hi : ls[i]? = some l) (ht : l'.term = l.term) (ha : InR n l'.an) (hk : InR n l'.kp) (hh : ∀ s p, Tl l' s p → R s p)
    (a1 : ∀ e ∈ l'.an, l'.term ≤ Tm e.s ∧ ∀ x ∈ ls, x.term < l'.term → ∀ p, Tl x e.s p → mem e.rs p)
    (a2 : ∀ x ∈ ls, l.term < x.term → ∀ e ∈ x.an, ∀ p, Tl l' e.s p → mem e.rs p)
    (hs : ∀ p, n / 2 + 1 ≤ cnt (l.kp.map (·.rs)) p → n / 2 + 1 ≤ cnt (l'.kp.map (·.rs)) p) (hb : l'.bg = true → n / 2 + 1 ≤ (l'.an.length : Int)) : TInv n R Tm (ls.set i l') sh := by
  have il := (List.getElem?_eq_some_iff.mp hi).1
  have mi : l ∈ ls := List.mem_of_getElem? hi
  have mm : ∀ {x : Ld}, x ∈ ls.set i l' → x = l' ∨ x ∈ ls := fun {x} h => (List.mem_or_eq_of_mem_set h).symm
  refine ⟨I.n0, fun j x h => ?_, fun x h => ?_, fun x h => ?_, fun x h s p z => ?_, fun x h e he => ?_, fun x hx => ?_, fun x h z => ?_⟩
  · rw [List.getElem?_set] at h
    by_cases c : i = j
    · subst c
      rw [if_pos rfl, if_pos il] at h
      cases h
      rw [ht]
      exact I.terms i l hi
    · rw [if_neg c] at h
      exact I.terms j x h
  · rcases mm h with rfl | z
    · exact ha
    · exact I.an x z
  · rcases mm h with rfl | z
    · exact hk
    · exact I.kp x z
  · rcases mm h with rfl | y
    · exact hh s p z
    · exact I.held x y s p z
  · rcases mm h with rfl | y
    · refine ⟨(a1 e he).1, fun l0 hl0 lt p t => ?_⟩
      rcases mm hl0 with rfl | z
      · omega
      · exact (a1 e he).2 l0 z lt p t
    · refine ⟨(I.ans x y e he).1, fun l0 hl0 lt p t => ?_⟩
      rcases mm hl0 with rfl | z
      · exact a2 x y (by omega) e he p t
      · exact (I.ans x y e he).2 l0 z lt p t
  · obtain ⟨l0, hl0, e, m⟩ := I.shown x hx
    obtain ⟨j, hj⟩ := List.getElem?_of_mem hl0
    by_cases c : i = j
    · subst c
      rw [hi] at hj
      cases hj
      exact ⟨l', List.mem_set il l', by omega, fun p hp => hs p (m p hp)⟩
    · exact ⟨l0, List.mem_of_getElem? (show (ls.set i l')[j]? = some l0 by rw [List.getElem?_set, if_neg c]; exact hj), e, m⟩
  · rcases mm h with rfl | y
    · exact hb z
    · exact I.beg x y z
theorem putT_mem (es : List Ent) (e : Ent) : ∀ x ∈ putE es e, x = e ∨ x ∈ es := by
  intro x hx
  unfold putE at hx
  split at hx
  · obtain ⟨y, hy, hxy⟩ := List.mem_map.mp hx
    by_cases h : y.s = e.s
    · rw [if_pos h] at hxy; exact .inl hxy.symm
    · rw [if_neg h] at hxy; subst hxy; exact .inr hy
  · rcases List.mem_append.mp hx with hx | hx
    · exact .inr hx
    · exact .inl (List.mem_singleton.mp hx)
theorem InR.put {es : List Ent} {e : Ent} (f : InR n es) (s0 : 0 ≤ e.s) (s1 : e.s < n) : InR n (putE es e) := by
  refine ⟨fun x hx => ?_, ?_⟩
  · rcases putT_mem es e x hx with rfl | h
    · exact ⟨s0, s1⟩
    · exact f.rng x h
  · unfold putE
    by_cases c : (es.any fun x => decide (x.s = e.s)) = true
    · rw [if_pos c, List.map_map, show es.map ((fun x : Ent => x.s) ∘ fun x => if x.s = e.s then e else x) = es.map (·.s) from List.map_congr_left fun x _ => by
        show (if x.s = e.s then e else x).s = x.s
        by_cases c : x.s = e.s
        · rw [if_pos c]; exact c.symm
        · rw [if_neg c]]
      exact f.nd
    · rw [if_neg c, List.map_append]
      refine List.nodup_append.mpr ⟨f.nd, by simp, fun a ha b hb => ?_⟩
      obtain ⟨x, hx, rfl⟩ := List.mem_map.mp ha
      obtain rfl : b = e.s := by simpa using hb
      intro z
      exact c (List.any_eq_true.mpr ⟨x, hx, decide_eq_true z⟩)
theorem ind_le {A B : Prop} [Decidable A] [Decidable B] (h : A → B) : ind A ≤ ind B := by
  rcases ind_or A with ⟨a, z⟩ | ⟨a, z⟩ <;> rcases ind_or B with ⟨b, y⟩ | ⟨b, y⟩ <;> rw [z, y]
  · decide
  · exact absurd (h a) b
  · decide
  · decide
theorem cnt_put {es : List Ent} {e : Ent} (h : ∀ x ∈ es, x.s = e.s → ∀ p, mem x.rs p → mem e.rs p) (p : Pt) : cnt (es.map (·.rs)) p ≤ cnt ((putE es e).map (·.rs)) p := by
  unfold putE
  by_cases c : (es.any fun x => decide (x.s = e.s)) = true
  · rw [if_pos c]
    clear c
    induction es with
    | nil => exact Int.le_refl _
    | cons x es ih =>
      have h1 := ih fun y hy => h y (List.mem_cons_of_mem _ hy)
      rw [List.map_cons, List.map_cons, List.map_cons]
      show ind (mem x.rs p) + cnt (es.map (·.rs)) p ≤ ind (mem (if x.s = e.s then e else x).rs p) + cnt ((es.map fun y => if y.s = e.s then e else y).map (·.rs)) p
      have h2 : ind (mem x.rs p) ≤ ind (mem (if x.s = e.s then e else x).rs p) := by
        refine ind_le fun m => ?_
        by_cases d : x.s = e.s
        · rw [if_pos d]; exact h x List.mem_cons_self d p m
        · rw [if_neg d]; exact m
      omega
  · rw [if_neg c, List.map_append, List.map_cons, List.map_nil, cnt_snoc]
    rcases ind_or (mem e.rs p) with ⟨_, z⟩ | ⟨_, z⟩ <;> rw [z] <;> omega
variable {s : Int} {rs : List Row} {ps : List Pt}
/-- an answer is taken -/
theorem TInv.heard (I : TInv n R Tm ls sh) (hi : ls[i]? = some l) (hb : l.bg = false) (s0 : 0 ≤ s) (s1 : s < n) (ht : l.term ≤ Tm s) (hr : ∀ p, R s p → mem rs p) : TInv n R Tm (ls.set i ⟨l.term, l.me, putE l.an ⟨s, rs, ps⟩, l.kp, l.bg, l.late⟩) sh := by
  have ml := List.mem_of_getElem? hi
  refine I.upd hi rfl ((I.an l ml).put s0 s1) (I.kp l ml) (fun s p z => I.held l ml s p z) (fun e he => ?_) (fun x hx lt e he p t => (I.ans x hx e he).2 l ml lt p t) (fun p z => z) (fun z => by rw [hb] at z; cases z)
  rcases putT_mem _ _ e he with rfl | z
  · exact ⟨ht, fun x hx lt p t => hr p (I.held x hx s p t)⟩
  · exact I.ans l ml e z
/-- a lead begins -/
theorem TInv.begin (I : TInv n R Tm ls sh) (hi : ls[i]? = some l) (h : n / 2 + 1 ≤ (l.an.length : Int)) : TInv n R Tm (ls.set i ⟨l.term, l.me, l.an, l.kp, true, l.late⟩) sh := by
  have ml := List.mem_of_getElem? hi
  exact I.upd hi rfl (I.an l ml) (I.kp l ml) (fun s p z => I.held l ml s p z) (fun e he => I.ans l ml e he) (fun x hx lt e he p t => (I.ans x hx e he).2 l ml lt p t) (fun p z => z) (fun _ => h)
/-- a seat keeps for a lead; its telling is on the way -/
theorem TInv.told (I : TInv n R Tm ls sh) (hi : ls[i]? = some l) (ht : Tm s ≤ l.term) (hr : ∀ p, mem rs p → R s p) : TInv n R Tm (ls.set i ⟨l.term, l.me, l.an, l.kp, l.bg, l.late ++ [(s, rs)]⟩) sh := by
  have ml := List.mem_of_getElem? hi
  have back : ∀ s' p, Tl ⟨l.term, l.me, l.an, l.kp, l.bg, l.late ++ [(s, rs)]⟩ s' p → Tl l s' p ∨ (s' = s ∧ mem rs p) := fun s' p z => by
    rcases z with z | ⟨r, hr', e, m⟩
    · exact .inl (.inl z)
    · rcases List.mem_append.mp hr' with y | y
      · exact .inl (.inr ⟨r, y, e, m⟩)
      · rw [List.mem_singleton.mp y] at e m
        exact .inr ⟨e.symm, m⟩
  refine I.upd hi rfl (I.an l ml) (I.kp l ml) (fun s' p z => ?_) (fun e he => I.ans l ml e he) (fun x hx lt e he p t => ?_) (fun p z => z) (I.beg l ml)
  · rcases back s' p z with y | ⟨rfl, m⟩
    · exact I.held l ml s' p y
    · exact hr p m
  · rcases back e.s p t with y | ⟨e1, m⟩
    · exact (I.ans x hx e he).2 l ml lt p y
    · have := (I.ans x hx e he).1
      rw [e1] at this
      omega
/-- what a seat told comes to the lead -/
theorem TInv.comes (I : TInv n R Tm ls sh) {j : Nat} {old : List Row} {rsn : List Row} (hi : ls[i]? = some l) (hj : l.late[j]? = some (s, rs)) (s0 : 0 ≤ s) (s1 : s < n) (ho : old = ((valE l.kp s).map (·.rs)).getD []) (hm : ∀ p, mem rsn p ↔ mem old p ∨ mem rs p) :
    TInv n R Tm (ls.set i ⟨l.term, l.me, l.an, putE l.kp ⟨s, rsn, ps⟩, l.bg, l.late.eraseIdx j⟩) sh := by
  have ml := List.mem_of_getElem? hi
  have oldT : ∀ p, mem old p → ∃ e ∈ l.kp, e.s = s ∧ mem e.rs p := fun p m => by
    rw [ho] at m
    cases h : valE l.kp s with
    | none => rw [h] at m; exact absurd m mem_nil
    | some e =>
      rw [h] at m
      unfold valE at h
      exact ⟨e, List.mem_of_find?_eq_some h, by simpa using List.find?_some h, m⟩
  have back : ∀ s' p, Tl ⟨l.term, l.me, l.an, putE l.kp ⟨s, rsn, ps⟩, l.bg, l.late.eraseIdx j⟩ s' p → Tl l s' p := fun s' p z => by
    rcases z with ⟨e, he, es, m⟩ | ⟨r, hr, e, m⟩
    · rcases putT_mem _ _ e he with rfl | y
      · have es' : s = s' := es
        subst es'
        rcases (hm p).mp m with a | a
        · exact .inl (oldT p a)
        · exact .inr ⟨_, List.mem_of_getElem? hj, rfl, a⟩
      · exact .inl ⟨e, y, es, m⟩
    · exact .inr ⟨r, List.mem_of_mem_eraseIdx hr, e, m⟩
  have uniq : ∀ x ∈ l.kp, x.s = s → valE l.kp s = some x := by
    have nd := (I.kp l ml).nd
    have key : ∀ es : List Ent, (es.map (·.s)).Nodup → ∀ x ∈ es, x.s = s → valE es s = some x := by
      intro es
      induction es with
      | nil => intro _ x hx; exact absurd hx (by simp)
      | cons y es ih =>
        intro nd x hx e
        rw [List.map_cons, List.nodup_cons] at nd
        unfold valE at ih ⊢
        rcases List.mem_cons.mp hx with rfl | hx
        · rw [List.find?_cons_of_pos (p := fun x : Ent => decide (x.s = s)) (decide_eq_true e)]
        · have ne : y.s ≠ s := fun z => nd.1 (List.mem_map.mpr ⟨x, hx, by rw [e, z]⟩)
          rw [List.find?_cons_of_neg (p := fun x : Ent => decide (x.s = s)) (by simpa using ne)]
          exact ih nd.2 x hx e
    exact key l.kp nd
  refine I.upd hi rfl (I.an l ml) ((I.kp l ml).put s0 s1) (fun s' p z => I.held l ml s' p (back s' p z)) (fun e he => I.ans l ml e he) (fun x hx lt e he p t => (I.ans x hx e he).2 l ml lt p (back e.s p t)) (fun p z => ?_) (I.beg l ml)
  refine Int.le_trans z (cnt_put (fun x hx e p m => ?_) p)
  refine (hm p).mpr (.inl ?_)
  rw [ho, uniq x hx e]
  exact m
end
end Rw
namespace Rw
open PySem L2
/-- a list beside [], whatever it holds: == and != -/
def rEqL0 (K : PySem.W.Frag) : R2 := fun x y H Q => ∃ (a b : Addr) (xs : List V), x = .ref a ∧ y = .ref b ∧ SqL K H a xs ∧ SqL K H b [] ∧ Q (.bl xs.isEmpty) H
def rNeL0 (K : PySem.W.Frag) : R2 := fun x y H Q => ∃ (a b : Addr) (xs : List V), x = .ref a ∧ y = .ref b ∧ SqL K H a xs ∧ SqL K H b [] ∧ Q (.bl (!xs.isEmpty)) H
section
variable {X : Cx}
theorem op_eqL0 (hu : X.A.units < cLine) : OpR X (compareOp .Eq) (rEqL0 X.K) := by
  intro pins s σ H x y v u Q I rx ry h
  obtain ⟨a, b, xs, rfl, rfl, ea, eb, q⟩ := h
  obtain rfl : v = Value.ref a := rx
  obtain rfl : u = Value.ref b := ry
  obtain ⟨us, r1, p1, _⟩ := I.list ea
  obtain ⟨ws, r2, p2, _⟩ := I.list eb
  cases r2
  cases r1 with
  | nil => exact SeqAt.RcAt.lists (e := fun _ => true) p1.isList p2.isList rfl hu (fun j h1 h2 => absurd h1 (by simp)) X.prog X.w _ _ ⟨.bl _, H, I, rfl, q⟩
  | cons r rs => exact SeqAt.RcAt.lists_lengths p1.isList p2.isList (by simp) hu X.prog X.w _ _ ⟨.bl _, H, I, rfl, q⟩
theorem op_neL0 (hu : X.A.units < cLine) : OpR X (compareOp .NotEq) (rNeL0 X.K) := by
  intro pins s σ H x y v u Q I rx ry h
  obtain ⟨a, b, xs, rfl, rfl, ea, eb, q⟩ := h
  obtain rfl : v = Value.ref a := rx
  obtain rfl : u = Value.ref b := ry
  obtain ⟨us, r1, p1, _⟩ := I.list ea
  obtain ⟨ws, r2, p2, _⟩ := I.list eb
  cases r2
  cases r1 with
  | nil => exact SeqAt.RcNeAt.lists (e := fun _ => true) p1.isList p2.isList rfl hu (fun j h1 h2 => absurd h1 (by simp)) X.prog X.w _ _ ⟨.bl _, H, I, rfl, q⟩
  | cons r rs => exact SeqAt.RcNeAt.lists_lengths p1.isList p2.isList (by simp) hu X.prog X.w _ _ ⟨.bl _, H, I, rfl, q⟩
end
end Rw
namespace Rw
open PySem PySem.Spec PyProof.Rows L2
def qAsk : Str := ("_law_ask" : Str) ++ ".<locals>." ++ "<lambda>"
def qBring : Str := ("_law_bring" : Str) ++ ".<locals>." ++ "<lambda>"
def qLaw23 : Str := ("law" : Str) ++ ".<locals>." ++ "<lambda>"
/-- a seat -/
structure Ss where
  rs : List Row
  t : Int
/-- a pair of a number and rows -/
def kTel : Kd (Int × List Row) := ⟨fun F v x => ∃ t a, v = .ref t ∧ F t = some (.tup [.int x.1, a]) ∧ (kL kRow).is F a x.2, fun s ⟨t, a, e, h, k⟩ => ⟨t, a, e, s _ _ h, (kL kRow).mono s k⟩⟩
def ldV (term : Int) (lp : Addr) (me : Int) (la : Addr) : List (Key × V) := [(.inr "term", .int term), (.inr "lead", .ref lp), (.inr "me", .int me), (.inr "late", .ref la)]
section
variable (term : Int) (lp : Addr) (me : Int) (la : Addr)
theorem ld_term : valV (ldV term lp me la) (Sum.inr "term" : Key) = some (.int term) := by rfl
theorem ld_lead : valV (ldV term lp me la) (Sum.inr "lead" : Key) = some (.ref lp) := by rfl
theorem ld_me : valV (ldV term lp me la) (Sum.inr "me" : Key) = some (.int me) := by rfl
theorem ld_late : valV (ldV term lp me la) (Sum.inr "late" : Key) = some (.ref la) := by rfl
end
/-- seats, leads, what was shown, and where they stand: 0 the dice, 1 2 3 tables, 4 the leads' list, 5 the shown ones', seats from 6, leads behind them (the lead, its two dicts, its late list) -/
structure T3 (K : PySem.W.Frag) (CS CL s : Addr) (ns : List Int) (n : Nat) (pl dk : Nat → Addr) (Ls : Addr) (F H : Hp) (sd : Nat → Ss) (ls : List Ld) (sh : List (Int × List Row)) : Prop where
  inj : ∀ i j, i < 6 + n + 4 * ls.length → j < 6 + n + 4 * ls.length → pl i = pl j → i = j
  dice : DiceAt K F H (pl 0) s ns
  t1 : LamX.TabS H (pl 1) qAsk
  f1 : F (pl 1) = none
  t2 : LamX.TabS H (pl 2) qBring
  f2 : F (pl 2) = none
  t3 : LamX.TabS H (pl 3) qLaw23
  f3 : F (pl 3) = none
  hL : H (pl 4) = some (.lst ((List.range ls.length).map fun i => .ref (dk i)))
  fL : F (pl 4) = none
  hS : ∃ vs, H (pl 5) = some (.lst vs) ∧ Paired (kTel.is F) vs sh
  fS : F (pl 5) = none
  seats : ∀ k, k < n → SeatAt K CS F H (pl (6 + k)) (sd k).rs (sd k).t
  fLs : F Ls = some (.lst ((List.range n).map fun k => .ref (pl (6 + k))))
  lead : ∀ i l, ls[i]? = some l → LeadAt CL F H (pl (6 + n + 4 * i)) (pl (6 + n + 4 * i + 1)) (pl (6 + n + 4 * i + 2)) (n : Int) l.an l.kp l.bg
  late : ∀ i l, ls[i]? = some l → ∃ vs, H (pl (6 + n + 4 * i + 3)) = some (.lst vs) ∧ Paired (kTel.is F) vs l.late
  flate : ∀ i l, ls[i]? = some l → F (pl (6 + n + 4 * i + 3)) = none
  dks : ∀ i l, ls[i]? = some l → F (dk i) = some (.dK (ldV l.term (pl (6 + n + 4 * i)) l.me (pl (6 + n + 4 * i + 3))))
theorem TabS.xm3 {F H F' H' : Hp} {M : Addr → Prop} {P : Addr} {q : Str} (T : LamX.TabS H P q) (X : XM M F H F' H') (h : ¬ M P) (hc : ∀ c o, H c = some o → M c → ∀ φ, o ≠ .ext φ) : LamX.TabS H' P q := by
  obtain ⟨pp, h1, h2, h3⟩ := T
  refine ⟨pp, X.hh _ _ h1 h, h2, fun pos cv hcv => ?_⟩
  obtain ⟨c, e1, e2⟩ := h3 pos cv hcv
  refine ⟨c, e1, X.hh _ _ e2 fun m => ?_⟩
  exact hc c _ e2 m _ rfl
section
variable {K : PySem.W.Frag} {CS CL s : Addr} {ns : List Int} {n : Nat} {pl dk : Nat → Addr} {Ls : Addr} {F H F' H' : Hp} {sd : Nat → Ss} {ls : List Ld} {sh : List (Int × List Row)}
theorem T3.same (S : T3 K CS CL s ns n pl dk Ls F H sd ls sh) : Same F H := S.dice.fh
theorem T3.il {i : Nat} {l : Ld} (h : ls[i]? = some l) : i < ls.length := (List.getElem?_eq_some_iff.mp h).1
/-- what stands elsewhere stays -/
structure Kept3 (K : PySem.W.Frag) (CS CL s : Addr) (ns : List Int) (n : Nat) (pl dk : Nat → Addr) (Ls : Addr) (F H : Hp) (sd : Nat → Ss) (ls : List Ld) (sh : List (Int × List Row)) (j : Nat) : Prop where
  dice : j ≠ 0 → DiceAt K F H (pl 0) s ns
  t1 : j ≠ 1 → LamX.TabS H (pl 1) qAsk
  f1 : F (pl 1) = none
  t2 : j ≠ 2 → LamX.TabS H (pl 2) qBring
  f2 : F (pl 2) = none
  t3 : j ≠ 3 → LamX.TabS H (pl 3) qLaw23
  f3 : F (pl 3) = none
  hL : j ≠ 4 → H (pl 4) = some (.lst ((List.range ls.length).map fun i => .ref (dk i)))
  fL : F (pl 4) = none
  hS : j ≠ 5 → ∃ vs, H (pl 5) = some (.lst vs) ∧ Paired (kTel.is F) vs sh
  fS : F (pl 5) = none
  seats : ∀ k, k < n → j ≠ 6 + k → SeatAt K CS F H (pl (6 + k)) (sd k).rs (sd k).t
  fLs : F Ls = some (.lst ((List.range n).map fun k => .ref (pl (6 + k))))
  lead : ∀ i l, ls[i]? = some l → j ≠ 6 + n + 4 * i → j ≠ 6 + n + 4 * i + 1 → j ≠ 6 + n + 4 * i + 2 → LeadAt CL F H (pl (6 + n + 4 * i)) (pl (6 + n + 4 * i + 1)) (pl (6 + n + 4 * i + 2)) (n : Int) l.an l.kp l.bg
  late : ∀ i l, ls[i]? = some l → j ≠ 6 + n + 4 * i + 3 → ∃ vs, H (pl (6 + n + 4 * i + 3)) = some (.lst vs) ∧ Paired (kTel.is F) vs l.late
  flate : ∀ i l, ls[i]? = some l → F (pl (6 + n + 4 * i + 3)) = none
  dks : ∀ i l, ls[i]? = some l → F (dk i) = some (.dK (ldV l.term (pl (6 + n + 4 * i)) l.me (pl (6 + n + 4 * i + 3))))
theorem T3.keepM {M : Addr → Prop} {j : Nat} (S : T3 K CS CL s ns n pl dk Ls F H sd ls sh) (X : XM M F H F' H') (nM : ∀ i, i < 6 + n + 4 * ls.length → j ≠ i → ¬ M (pl i)) (hc : ∀ c o, H c = some o → M c → ∀ φ, o ≠ .ext φ) : Kept3 K CS CL s ns n pl dk Ls F' H' sd ls sh j := by
  obtain ⟨p1, h1, _⟩ := S.t1
  obtain ⟨p2, h2, _⟩ := S.t2
  obtain ⟨p3, h3, _⟩ := S.t3
  obtain ⟨vs, hS, pS⟩ := S.hS
  refine ⟨fun z => S.dice.xm X (nM 0 (by omega) z), fun z => TabS.xm3 S.t1 X (nM 1 (by omega) z) hc, by rw [X.nw _ _ h1 fun xs z => by cases z]; exact S.f1, fun z => TabS.xm3 S.t2 X (nM 2 (by omega) z) hc, by rw [X.nw _ _ h2 fun xs z => by cases z]; exact S.f2,
    fun z => TabS.xm3 S.t3 X (nM 3 (by omega) z) hc, by rw [X.nw _ _ h3 fun xs z => by cases z]; exact S.f3, fun z => X.hh _ _ S.hL (nM 4 (by omega) z), by rw [X.nw _ _ S.hL fun xs z => by cases z]; exact S.fL,
    fun z => ⟨vs, X.hh _ _ hS (nM 5 (by omega) z), pr_mono (fun _ _ z => kTel.mono X.ff z) pS⟩, by rw [X.nw _ _ hS fun xs z => by cases z]; exact S.fS, fun k hk z => (S.seats k hk).xm X (nM _ (by omega) z), X.ff _ _ S.fLs,
    fun i l hi a b c => (S.lead i l hi).xm X (nM _ (by have := T3.il hi; omega) a) (nM _ (by have := T3.il hi; omega) b) (nM _ (by have := T3.il hi; omega) c), fun i l hi z => ?_, fun i l hi => ?_, fun i l hi => X.ff _ _ (S.dks i l hi)⟩
  · obtain ⟨us, h, p⟩ := S.late i l hi
    exact ⟨us, X.hh _ _ h (nM _ (by have := T3.il hi; omega) z), pr_mono (fun _ _ z => kTel.mono X.ff z) p⟩
  · obtain ⟨us, h, p⟩ := S.late i l hi
    rw [X.nw _ _ h fun xs z => by cases z]
    exact S.flate i l hi
theorem T3.keep {j : Nat} (S : T3 K CS CL s ns n pl dk Ls F H sd ls sh) (hj : j < 6 + n + 4 * ls.length) (X : XM (· = pl j) F H F' H') (he : ∀ φ, H (pl j) ≠ some (.ext φ)) : Kept3 K CS CL s ns n pl dk Ls F' H' sd ls sh j :=
  S.keepM X (fun i hi ne e => ne (S.inj i j hi hj e).symm) fun c o h e φ z => by subst e; subst z; exact he _ h
theorem T3.quiet (S : T3 K CS CL s ns n pl dk Ls F H sd ls sh) (X : XM M0 F H F' H') : T3 K CS CL s ns n pl dk Ls F' H' sd ls sh := by
  have Z := S.keepM (j := 6 + n + 4 * ls.length) X (fun i hi ne e => e) fun c o h e => e.elim
  exact ⟨S.inj, Z.dice (by omega), Z.t1 (by omega), Z.f1, Z.t2 (by omega), Z.f2, Z.t3 (by omega), Z.f3, Z.hL (by omega), Z.fL, Z.hS (by omega), Z.fS, fun k hk => Z.seats k hk (by omega), Z.fLs,
    fun i l hi => Z.lead i l hi (by have := T3.il hi; omega) (by have := T3.il hi; omega) (by have := T3.il hi; omega), fun i l hi => Z.late i l hi (by have := T3.il hi; omega), Z.flate, Z.dks⟩
theorem T3.drawn (S : T3 K CS CL s ns n pl dk Ls F H sd ls sh) (X : Ext (· = pl 0) F H F' H') (D : DiceAt K F' H' (pl 0) s ns) : T3 K CS CL s ns n pl dk Ls F' H' sd ls sh := by
  obtain ⟨i, m, r, hd, _⟩ := S.dice.ex
  have Z := S.keep (j := 0) (by omega) (.of X) fun φ e => by rw [hd] at e; cases e
  exact ⟨S.inj, D, Z.t1 (by decide), Z.f1, Z.t2 (by decide), Z.f2, Z.t3 (by decide), Z.f3, Z.hL (by decide), Z.fL, Z.hS (by decide), Z.fS, fun k hk => Z.seats k hk (by omega), Z.fLs, fun i l hi => Z.lead i l hi (by omega) (by omega) (by omega), fun i l hi => Z.late i l hi (by omega), Z.flate, Z.dks⟩
theorem T3.grow1 {H1 : Hp} (S : T3 K CS CL s ns n pl dk Ls F H sd ls sh) (g : Grow (pl 1) H H1) (T : LamX.TabS H1 (pl 1) qAsk) : T3 K CS CL s ns n pl dk Ls F H1 sd ls sh := by
  obtain ⟨p1, h1, _⟩ := S.t1
  have Z := S.keep (j := 1) (by omega) (.of (g.ext S.same S.f1)) fun φ e => by rw [h1] at e; cases e
  exact ⟨S.inj, Z.dice (by decide), T, Z.f1, Z.t2 (by decide), Z.f2, Z.t3 (by decide), Z.f3, Z.hL (by decide), Z.fL, Z.hS (by decide), Z.fS, fun k hk => Z.seats k hk (by omega), Z.fLs, fun i l hi => Z.lead i l hi (by omega) (by omega) (by omega), fun i l hi => Z.late i l hi (by omega), Z.flate, Z.dks⟩
theorem T3.grow2 {H1 : Hp} (S : T3 K CS CL s ns n pl dk Ls F H sd ls sh) (g : Grow (pl 2) H H1) (T : LamX.TabS H1 (pl 2) qBring) : T3 K CS CL s ns n pl dk Ls F H1 sd ls sh := by
  obtain ⟨p1, h1, _⟩ := S.t2
  have Z := S.keep (j := 2) (by omega) (.of (g.ext S.same S.f2)) fun φ e => by rw [h1] at e; cases e
  exact ⟨S.inj, Z.dice (by decide), Z.t1 (by decide), Z.f1, T, Z.f2, Z.t3 (by decide), Z.f3, Z.hL (by decide), Z.fL, Z.hS (by decide), Z.fS, fun k hk => Z.seats k hk (by omega), Z.fLs, fun i l hi => Z.lead i l hi (by omega) (by omega) (by omega), fun i l hi => Z.late i l hi (by omega), Z.flate, Z.dks⟩
theorem T3.grow3 {H1 : Hp} (S : T3 K CS CL s ns n pl dk Ls F H sd ls sh) (g : Grow (pl 3) H H1) (T : LamX.TabS H1 (pl 3) qLaw23) : T3 K CS CL s ns n pl dk Ls F H1 sd ls sh := by
  obtain ⟨p1, h1, _⟩ := S.t3
  have Z := S.keep (j := 3) (by omega) (.of (g.ext S.same S.f3)) fun φ e => by rw [h1] at e; cases e
  exact ⟨S.inj, Z.dice (by decide), Z.t1 (by decide), Z.f1, Z.t2 (by decide), Z.f2, T, Z.f3, Z.hL (by decide), Z.fL, Z.hS (by decide), Z.fS, fun k hk => Z.seats k hk (by omega), Z.fLs, fun i l hi => Z.lead i l hi (by omega) (by omega) (by omega), fun i l hi => Z.late i l hi (by omega), Z.flate, Z.dks⟩
def setS (sd : Nat → Ss) (k : Nat) (x : Ss) : Nat → Ss := fun i => if i = k then x else sd i
theorem T3.seat {k : Nat} {x : Ss} (S : T3 K CS CL s ns n pl dk Ls F H sd ls sh) (hk : k < n) (X : Ext (· = pl (6 + k)) F H F' H') (A : SeatAt K CS F' H' (pl (6 + k)) x.rs x.t) : T3 K CS CL s ns n pl dk Ls F' H' (setS sd k x) ls sh := by
  obtain ⟨dx, ra, ob, _⟩ := (S.seats k hk).ob
  have Z := S.keep (j := 6 + k) (by omega) (.of X) fun φ e => by rw [ob] at e; cases e
  refine ⟨S.inj, Z.dice (by omega), Z.t1 (by omega), Z.f1, Z.t2 (by omega), Z.f2, Z.t3 (by omega), Z.f3, Z.hL (by omega), Z.fL, Z.hS (by omega), Z.fS, fun i hi => ?_, Z.fLs, fun i l hi => Z.lead i l hi (by omega) (by omega) (by omega), fun i l hi => Z.late i l hi (by omega), Z.flate, Z.dks⟩
  unfold setS
  by_cases c : i = k
  · subst c; rw [if_pos rfl]; exact A
  · rw [if_neg c]; exact Z.seats i hi (by omega)
/-- the i-th lead changes -/
theorem T3.leadX {i r : Nat} {l l' : Ld} (S : T3 K CS CL s ns n pl dk Ls F H sd ls sh) (hi : ls[i]? = some l) (hr : r < 3) (X : Ext (· = pl (6 + n + 4 * i + r)) F H F' H') (et : l'.term = l.term) (em : l'.me = l.me) (el : l'.late = l.late)
    (A : LeadAt CL F' H' (pl (6 + n + 4 * i)) (pl (6 + n + 4 * i + 1)) (pl (6 + n + 4 * i + 2)) (n : Int) l'.an l'.kp l'.bg) : T3 K CS CL s ns n pl dk Ls F' H' sd (ls.set i l') sh := by
  have il := T3.il hi
  have L := S.lead i l hi
  have Z := S.keep (j := 6 + n + 4 * i + r) (by omega) (.of X) fun φ e => by
    obtain ⟨dx, ob⟩ := L.ob
    obtain ⟨_, h1, _⟩ := L.ha
    obtain ⟨_, h2, _⟩ := L.ht
    match r, hr with
    | 0, _ => rw [Nat.add_zero, ob] at e; cases e
    | 1, _ => rw [h1] at e; cases e
    | 2, _ => rw [h2] at e; cases e
  have g : ∀ i' x, (ls.set i l')[i']? = some x → (i' = i ∧ x = l') ∨ (i' ≠ i ∧ ls[i']? = some x) := fun i' x h => by
    rw [List.getElem?_set] at h
    by_cases c : i = i'
    · subst c; rw [if_pos rfl, if_pos il] at h; cases h; exact .inl ⟨rfl, rfl⟩
    · rw [if_neg c] at h; exact .inr ⟨fun z => c z.symm, h⟩
  have len : (ls.set i l').length = ls.length := List.length_set
  refine ⟨by rw [len]; exact S.inj, Z.dice (by omega), Z.t1 (by omega), Z.f1, Z.t2 (by omega), Z.f2, Z.t3 (by omega), Z.f3, by rw [len]; exact Z.hL (by omega), Z.fL, Z.hS (by omega), Z.fS, fun k hk => Z.seats k hk (by omega), Z.fLs, fun i' x h => ?_, fun i' x h => ?_, fun i' x h => ?_, fun i' x h => ?_⟩
  · rcases g i' x h with ⟨rfl, rfl⟩ | ⟨ne, h⟩
    · exact A
    · exact Z.lead i' x h (by omega) (by omega) (by omega)
  · rcases g i' x h with ⟨rfl, rfl⟩ | ⟨ne, h⟩
    · rw [el]; exact Z.late _ l hi (by omega)
    · exact Z.late i' x h (by omega)
  · rcases g i' x h with ⟨rfl, rfl⟩ | ⟨ne, h⟩
    · exact Z.flate _ l hi
    · exact Z.flate i' x h
  · rcases g i' x h with ⟨rfl, rfl⟩ | ⟨ne, h⟩
    · rw [et, em]; exact Z.dks _ l hi
    · exact Z.dks i' x h
/-- the late list of the i-th lead changes -/
theorem T3.lateX {i : Nat} {l : Ld} {vs : List V} {la : List (Int × List Row)} (S : T3 K CS CL s ns n pl dk Ls F H sd ls sh) (hi : ls[i]? = some l) (p : Paired (kTel.is F) vs la) : T3 K CS CL s ns n pl dk Ls F (upd H (pl (6 + n + 4 * i + 3)) (.lst vs)) sd (ls.set i ⟨l.term, l.me, l.an, l.kp, l.bg, la⟩) sh := by
  have il := T3.il hi
  obtain ⟨us, h0, _⟩ := S.late i l hi
  have Z := S.keep (j := 6 + n + 4 * i + 3) (by omega) ((XM.refl S.same).put (o := .lst vs) (.inr rfl) (S.flate i l hi)) fun φ e => by rw [h0] at e; cases e
  have g : ∀ i' x, (ls.set i (⟨l.term, l.me, l.an, l.kp, l.bg, la⟩ : Ld))[i']? = some x → (i' = i ∧ x = ⟨l.term, l.me, l.an, l.kp, l.bg, la⟩) ∨ (i' ≠ i ∧ ls[i']? = some x) := fun i' x h => by
    rw [List.getElem?_set] at h
    by_cases c : i = i'
    · subst c; rw [if_pos rfl, if_pos il] at h; cases h; exact .inl ⟨rfl, rfl⟩
    · rw [if_neg c] at h; exact .inr ⟨fun z => c z.symm, h⟩
  have len : (ls.set i (⟨l.term, l.me, l.an, l.kp, l.bg, la⟩ : Ld)).length = ls.length := List.length_set
  refine ⟨by rw [len]; exact S.inj, Z.dice (by omega), Z.t1 (by omega), Z.f1, Z.t2 (by omega), Z.f2, Z.t3 (by omega), Z.f3, by rw [len]; exact Z.hL (by omega), Z.fL, Z.hS (by omega), Z.fS, fun k hk => Z.seats k hk (by omega), Z.fLs, fun i' x h => ?_, fun i' x h => ?_, fun i' x h => ?_, fun i' x h => ?_⟩
  · rcases g i' x h with ⟨rfl, rfl⟩ | ⟨ne, h⟩
    · exact Z.lead _ l hi (by omega) (by omega) (by omega)
    · exact Z.lead i' x h (by omega) (by omega) (by omega)
  · rcases g i' x h with ⟨rfl, rfl⟩ | ⟨ne, h⟩
    · exact ⟨vs, upd_same, p⟩
    · exact Z.late i' x h (by omega)
  · rcases g i' x h with ⟨rfl, rfl⟩ | ⟨ne, h⟩
    · exact Z.flate _ l hi
    · exact Z.flate i' x h
  · rcases g i' x h with ⟨rfl, rfl⟩ | ⟨ne, h⟩
    · exact Z.dks _ l hi
    · exact Z.dks i' x h
/-- something was shown -/
theorem T3.shown {vs : List V} {sh' : List (Int × List Row)} (S : T3 K CS CL s ns n pl dk Ls F H sd ls sh) (p : Paired (kTel.is F) vs sh') : T3 K CS CL s ns n pl dk Ls F (upd H (pl 5) (.lst vs)) sd ls sh' := by
  obtain ⟨us, h0, _⟩ := S.hS
  have Z := S.keep (j := 5) (by omega) ((XM.refl S.same).put (o := .lst vs) (.inr rfl) S.fS) fun φ e => by rw [h0] at e; cases e
  exact ⟨S.inj, Z.dice (by decide), Z.t1 (by decide), Z.f1, Z.t2 (by decide), Z.f2, Z.t3 (by decide), Z.f3, Z.hL (by decide), Z.fL, ⟨vs, upd_same, p⟩, Z.fS, fun k hk => Z.seats k hk (by omega), Z.fLs, fun i l hi => Z.lead i l hi (by omega) (by omega) (by omega), fun i l hi => Z.late i l hi (by omega), Z.flate, Z.dks⟩
end
end Rw
namespace Rw
open PySem PySem.Spec PyProof.Rows L2
def addP3 (N : Nat) (pl g : Nat → Addr) : Nat → Addr := fun i => if i < N then pl i else g (i - N)
theorem addP3_old {N : Nat} {pl g : Nat → Addr} {i : Nat} (h : i < N) : addP3 N pl g i = pl i := if_pos h
theorem addP3_new {N : Nat} {pl g : Nat → Addr} (r : Nat) : addP3 N pl g (N + r) = g r := by
  unfold addP3
  rw [if_neg (by omega), Nat.add_sub_cancel_left]
def addD (m : Nat) (dk : Nat → Addr) (x : Addr) : Nat → Addr := fun i => if i < m then dk i else x
section
variable {K : PySem.W.Frag} {CS CL s : Addr} {ns : List Int} {n : Nat} {pl dk : Nat → Addr} {Ls : Addr} {F H F' H' : Hp} {sd : Nat → Ss} {ls : List Ld} {sh : List (Int × List Row)}
theorem T3.full (S : T3 K CS CL s ns n pl dk Ls F H sd ls sh) : ∀ i, i < 6 + n + 4 * ls.length → H (pl i) ≠ none := by
  intro i hi
  obtain ⟨_, _, _, h0, _⟩ := S.dice.ex
  obtain ⟨p1, h1, _⟩ := S.t1
  obtain ⟨p2, h2, _⟩ := S.t2
  obtain ⟨p3, h3, _⟩ := S.t3
  obtain ⟨_, h5, _⟩ := S.hS
  by_cases c : i < 6
  · match i, c with
    | 0, _ => rw [h0]; simp
    | 1, _ => rw [h1]; simp
    | 2, _ => rw [h2]; simp
    | 3, _ => rw [h3]; simp
    | 4, _ => rw [S.hL]; simp
    | 5, _ => rw [h5]; simp
  · by_cases c2 : i < 6 + n
    · obtain ⟨dx, ra, ob, _⟩ := (S.seats (i - 6) (by omega)).ob
      rw [show i = 6 + (i - 6) by omega, ob]; simp
    · obtain ⟨k, r, hk, hr, rfl⟩ : ∃ k r, k < ls.length ∧ r < 4 ∧ i = 6 + n + 4 * k + r := ⟨(i - 6 - n) / 4, (i - 6 - n) % 4, by omega, by omega, by omega⟩
      have hl : ls[k]? = some ls[k] := List.getElem?_eq_getElem hk
      have L := S.lead k _ hl
      obtain ⟨_, e0⟩ := L.ob
      obtain ⟨_, e1, _⟩ := L.ha
      obtain ⟨_, e2, _⟩ := L.ht
      obtain ⟨_, e3, _⟩ := S.late k _ hl
      match r, hr with
      | 0, _ => rw [Nat.add_zero, e0]; simp
      | 1, _ => rw [e1]; simp
      | 2, _ => rw [e2]; simp
      | 3, _ => rw [e3]; simp
/-- a new lead; its dict stands at x and never changes -/
theorem T3.new {g : Nat → Addr} {x : Addr} {y : Ld} (T : T3 K CS CL s ns n pl dk Ls F' H' sd ls sh) (nw : ∀ i, i < 6 + n + 4 * ls.length → ∀ r, r < 4 → pl i ≠ g r) (gi : ∀ i j, i < 4 → j < 4 → g i = g j → i = j)
    (L : LeadAt CL F' H' (g 0) (g 1) (g 2) (n : Int) y.an y.kp y.bg) (la : H' (g 3) = some (.lst [])) (fa : F' (g 3) = none) (hy : y.late = []) (hx : F' x = some (.dK (ldV y.term (g 0) y.me (g 3)))) :
    T3 K CS CL s ns n (addP3 (6 + n + 4 * ls.length) pl g) (addD ls.length dk x) Ls F' (upd H' (pl 4) (.lst ((List.range ls.length).map (fun i => .ref (dk i)) ++ [.ref x]))) sd (ls ++ [y]) sh := by
  have N4 : pl 4 = addP3 (6 + n + 4 * ls.length) pl g 4 := (addP3_old (by omega)).symm
  -- the leads' list grows
  have Z := T.keep (j := 4) (by omega) ((XM.refl T.same).put (o := .lst ((List.range ls.length).map (fun i => .ref (dk i)) ++ [.ref x])) (.inr rfl) T.fL) fun φ e => by rw [T.hL] at e; cases e
  have ng : ∀ r, r < 4 → g r ≠ pl 4 := fun r hr e => nw 4 (by omega) r hr e.symm
  have len : (ls ++ [y]).length = ls.length + 1 := by simp
  have get : ∀ i l, (ls ++ [y])[i]? = some l → (i < ls.length ∧ ls[i]? = some l) ∨ (i = ls.length ∧ l = y) := fun i l h => by
    by_cases c : i < ls.length
    · rw [List.getElem?_append_left c] at h; exact .inl ⟨c, h⟩
    · have := (List.getElem?_eq_some_iff.mp h).1
      rw [len] at this
      obtain rfl : i = ls.length := by omega
      rw [List.getElem?_append_right (Nat.le_refl _), Nat.sub_self] at h
      cases h
      exact .inr ⟨rfl, rfl⟩
  have o0 : addP3 (6 + n + 4 * ls.length) pl g 0 = pl 0 := addP3_old (by omega)
  have o1 : addP3 (6 + n + 4 * ls.length) pl g 1 = pl 1 := addP3_old (by omega)
  have o2 : addP3 (6 + n + 4 * ls.length) pl g 2 = pl 2 := addP3_old (by omega)
  have o3 : addP3 (6 + n + 4 * ls.length) pl g 3 = pl 3 := addP3_old (by omega)
  have o5 : addP3 (6 + n + 4 * ls.length) pl g 5 = pl 5 := addP3_old (by omega)
  have n0 : addP3 (6 + n + 4 * ls.length) pl g (6 + n + 4 * ls.length) = g 0 := addP3_new 0
  have dmap : (List.range ls.length).map (fun i => V.ref (dk i)) ++ [.ref x] = (List.range (ls ++ [y]).length).map fun i => V.ref (addD ls.length dk x i) := by
    rw [len, List.range_succ, List.map_append, List.map_cons, List.map_nil]
    congr 1
    · refine List.map_congr_left fun i hi => ?_
      have := List.mem_range.mp hi
      unfold addD
      rw [if_pos this]
    · unfold addD
      rw [if_neg (by omega)]
  refine ⟨fun i j hi hj e => ?_, by rw [o0]; exact Z.dice (by decide), by rw [o1]; exact Z.t1 (by decide), by rw [o1]; exact Z.f1, by rw [o2]; exact Z.t2 (by decide), by rw [o2]; exact Z.f2, by rw [o3]; exact Z.t3 (by decide), by rw [o3]; exact Z.f3,
    by rw [← N4, upd_same, dmap], by rw [← N4]; exact Z.fL, by rw [o5]; exact Z.hS (by decide), by rw [o5]; exact Z.fS, fun k hk => by rw [addP3_old (by omega)]; exact Z.seats k hk (by omega), ?_, fun i l h => ?_, fun i l h => ?_, fun i l h => ?_, fun i l h => ?_⟩
  · rw [len] at hi hj
    unfold addP3 at e
    by_cases ci : i < 6 + n + 4 * ls.length
    · by_cases cj : j < 6 + n + 4 * ls.length
      · rw [if_pos ci, if_pos cj] at e
        exact T.inj i j ci cj e
      · rw [if_pos ci, if_neg cj] at e
        exact absurd e (nw i ci _ (by omega))
    · by_cases cj : j < 6 + n + 4 * ls.length
      · rw [if_neg ci, if_pos cj] at e
        exact absurd e.symm (nw j cj _ (by omega))
      · rw [if_neg ci, if_neg cj] at e
        have := gi _ _ (by omega) (by omega) e
        omega
  · rw [Z.fLs]
    refine congrArg (fun l => some (HO.lst l)) (List.map_congr_left fun k hk => ?_)
    have := List.mem_range.mp hk
    rw [addP3_old (by omega)]
  · rcases get i l h with ⟨c, h⟩ | ⟨rfl, rfl⟩
    · rw [addP3_old (by omega), addP3_old (by omega), addP3_old (by omega)]
      exact Z.lead i l h (by omega) (by omega) (by omega)
    · rw [addP3_new 1, addP3_new 2, n0]
      have X4 := (XM.refl (M := (· = pl 4)) T.same).put (o := .lst ((List.range ls.length).map (fun i => V.ref (dk i)) ++ [.ref x])) (.inr rfl) T.fL
      exact L.xm X4 (ng 0 (by decide)) (ng 1 (by decide)) (ng 2 (by decide))
  · rcases get i l h with ⟨c, h⟩ | ⟨rfl, rfl⟩
    · rw [addP3_old (by omega)]
      exact Z.late i l h (by omega)
    · rw [addP3_new 3, hy]
      exact ⟨[], by rw [upd_ne (ng 3 (by decide))]; exact la, .nil⟩
  · rcases get i l h with ⟨c, h⟩ | ⟨rfl, rfl⟩
    · rw [addP3_old (by omega)]
      exact Z.flate i l h
    · rw [addP3_new 3]; exact fa
  · rcases get i l h with ⟨c, h⟩ | ⟨rfl, rfl⟩
    · rw [addP3_old (by omega), addP3_old (by omega)]
      unfold addD
      rw [if_pos c]
      exact Z.dks i l h
    · rw [n0, addP3_new 3]
      unfold addD
      rw [if_neg (by omega)]
      exact hx
/-- a new list that never changes from now on -/
theorem T3.fz {b : Addr} {vs : List V} (S : T3 K CS CL s ns n pl dk Ls F H sd ls sh) (nb : ∀ i, i < 6 + n + 4 * ls.length → pl i ≠ b) (f : F b = none) (hb : H b = some (.lst vs)) : T3 K CS CL s ns n pl dk Ls (upd F b (.lst vs)) H sd ls sh := by
  have m := same_upd (o := .lst vs) f
  have fr : ∀ i, i < 6 + n + 4 * ls.length → upd F b (.lst vs) (pl i) = F (pl i) := fun i hi => upd_ne (nb i hi)
  have sL : ∀ {v : V} {x : Int × List Row}, kTel.is F v x → kTel.is (upd F b (.lst vs)) v x := fun z => kTel.mono m z
  obtain ⟨us, hS, pS⟩ := S.hS
  refine ⟨S.inj, S.dice.fz (nb 0 (by omega)) f hb, S.t1, by rw [fr 1 (by omega)]; exact S.f1, S.t2, by rw [fr 2 (by omega)]; exact S.f2, S.t3, by rw [fr 3 (by omega)]; exact S.f3, S.hL, by rw [fr 4 (by omega)]; exact S.fL,
    ⟨us, hS, pr_mono (fun _ _ z => sL z) pS⟩, by rw [fr 5 (by omega)]; exact S.fS, fun k hk => ?_, m _ _ S.fLs, fun i l hi => ?_, fun i l hi => ?_, fun i l hi => by rw [fr _ (by have := T3.il hi; omega)]; exact S.flate i l hi, fun i l hi => m _ _ (S.dks i l hi)⟩
  · obtain ⟨dx, ra, ob, kr⟩ := (S.seats k hk).ob
    exact ⟨⟨dx, ra, ob, (kL kRow).mono m kr⟩, by rw [fr _ (by omega)]; exact (S.seats k hk).fp⟩
  · have A := S.lead i l hi
    have := T3.il hi
    obtain ⟨dx, ob⟩ := A.ob
    obtain ⟨k1, a1, d1⟩ := A.ha
    obtain ⟨k2, a2, d2⟩ := A.ht
    exact ⟨⟨dx, ob⟩, by rw [fr _ (by omega)]; exact A.fp, ⟨k1, a1, d1.mono fun _ _ z => (kL kRow).mono m z⟩, by rw [fr _ (by omega)]; exact A.fa, ⟨k2, a2, d2.mono fun _ _ z => (kL kRow).mono m z⟩, by rw [fr _ (by omega)]; exact A.ft, A.ne⟩
  · obtain ⟨us, h, p⟩ := S.late i l hi
    exact ⟨us, h, pr_mono (fun _ _ z => sL z) p⟩
theorem T3.ne (S : T3 K CS CL s ns n pl dk Ls F H sd ls sh) {b : Addr} (hb : H b = none) : ∀ i, i < 6 + n + 4 * ls.length → pl i ≠ b := fun i hi e => S.full i hi (by rw [e]; exact hb)
end
end Rw
namespace Rw
open PySem PySem.Spec PyProof.Rows L2
/-- a call that can raise, where it doesn't -/
theorem pass_not {X : Cx} {P : Program} {w : World} : Passes (L2.CX P w) X E0 := by
  intro pins σ H s e s' I h
  obtain ⟨a, B, H', cls, d, h⟩ := h
  simp only [E0] at h
  obtain ⟨_, _, _, _, _, _, h⟩ := h
  first | exact h.elim | exact h.1.elim | exact h.2.elim
/-- a new instance was made -/
theorem Ext.made {F H F' H'' : Hp} {x dx C : Addr} (s : Same F H) (nx : H x = none) (nd : H dx = none) (ne : dx ≠ x) (X : Ext (· = x) F (upd (upd H dx (.own x)) x (.ins C dx [])) F' H'') : Ext M0 F H F' H'' := by
  refine ⟨X.ff, X.fh, fun b o e _ => ?_, fun b e => ?_, fun b e => ?_⟩
  · refine X.hh b o ?_ (ne_of_none e nx)
    rw [upd_ne (ne_of_none e nx), upd_ne (ne_of_none e nd)]
    exact e
  · refine X.tr b ?_
    by_cases h1 : b = x
    · rw [h1, upd_same]; simp
    · rw [upd_ne h1]
      by_cases h2 : b = dx
      · rw [h2, upd_same]; simp
      · rw [upd_ne h2]; exact e
  · refine X.new b ?_
    by_cases h1 : b = x
    · rw [h1, upd_same]; simp
    · rw [upd_ne h1]
      by_cases h2 : b = dx
      · rw [h2, upd_same]; simp
      · rw [upd_ne h2]; exact e
section
variable {K : PySem.W.Frag} {CS CL s : Addr} {ns : List Int} {n : Nat} {pl dk : Nat → Addr} {Ls : Addr} {F H F' H' : Hp} {sd : Nat → Ss} {ls : List Ld} {sh : List (Int × List Row)}
/-- a thing elsewhere changes -/
theorem T3.put {b : Addr} {o0 o : HO} (S : T3 K CS CL s ns n pl dk Ls F H sd ls sh) (nb : ∀ i, i < 6 + n + 4 * ls.length → pl i ≠ b) (f : F b = none) (hb : H b = some o0) (he : ∀ φ, o0 ≠ .ext φ) : T3 K CS CL s ns n pl dk Ls F (upd H b o) sd ls sh := by
  have Z := S.keepM (j := 6 + n + 4 * ls.length) ((XM.refl (M := (· = b)) S.same).put (o := o) (.inr rfl) f) (fun i hi ne e => nb i hi e) fun c u h e φ z => by
    subst e; rw [hb] at h; cases h; exact he φ z
  exact ⟨S.inj, Z.dice (by omega), Z.t1 (by omega), Z.f1, Z.t2 (by omega), Z.f2, Z.t3 (by omega), Z.f3, Z.hL (by omega), Z.fL, Z.hS (by omega), Z.fS, fun k hk => Z.seats k hk (by omega), Z.fLs,
    fun i l hi => Z.lead i l hi (by have := T3.il hi; omega) (by have := T3.il hi; omega) (by have := T3.il hi; omega), fun i l hi => Z.late i l hi (by have := T3.il hi; omega), Z.flate, Z.dks⟩
/-- a thing elsewhere never changes from now on -/
theorem T3.fzo {b : Addr} {o : HO} (S : T3 K CS CL s ns n pl dk Ls F H sd ls sh) (nb : ∀ i, i < 6 + n + 4 * ls.length → pl i ≠ b) (f : F b = none) (hb : H b = some o) : T3 K CS CL s ns n pl dk Ls (upd F b o) H sd ls sh := by
  have m := same_upd (o := o) f
  have fr : ∀ i, i < 6 + n + 4 * ls.length → upd F b o (pl i) = F (pl i) := fun i hi => upd_ne (nb i hi)
  have sL : ∀ {v : V} {x : Int × List Row}, kTel.is F v x → kTel.is (upd F b o) v x := fun z => kTel.mono m z
  obtain ⟨us, hS, pS⟩ := S.hS
  have dd : DiceAt K (upd F b o) H (pl 0) s ns := ⟨fun c x z => by
    by_cases hc : c = b
    · rw [hc, upd_same] at z; rw [hc, hb]; exact z
    · rw [upd_ne hc] at z; exact S.same c x z, by rw [fr 0 (by omega)]; exact S.dice.fd, m.seq S.dice.sc, S.dice.ex⟩
  refine ⟨S.inj, dd, S.t1, by rw [fr 1 (by omega)]; exact S.f1, S.t2, by rw [fr 2 (by omega)]; exact S.f2, S.t3, by rw [fr 3 (by omega)]; exact S.f3, S.hL, by rw [fr 4 (by omega)]; exact S.fL,
    ⟨us, hS, pr_mono (fun _ _ z => sL z) pS⟩, by rw [fr 5 (by omega)]; exact S.fS, fun k hk => ?_, m _ _ S.fLs, fun i l hi => ?_, fun i l hi => ?_, fun i l hi => by rw [fr _ (by have := T3.il hi; omega)]; exact S.flate i l hi, fun i l hi => m _ _ (S.dks i l hi)⟩
  · obtain ⟨dx, ra, ob, kr⟩ := (S.seats k hk).ob
    exact ⟨⟨dx, ra, ob, (kL kRow).mono m kr⟩, by rw [fr _ (by omega)]; exact (S.seats k hk).fp⟩
  · have A := S.lead i l hi
    have := T3.il hi
    obtain ⟨dx, ob⟩ := A.ob
    obtain ⟨k1, a1, d1⟩ := A.ha
    obtain ⟨k2, a2, d2⟩ := A.ht
    exact ⟨⟨dx, ob⟩, by rw [fr _ (by omega)]; exact A.fp, ⟨k1, a1, d1.mono fun _ _ z => (kL kRow).mono m z⟩, by rw [fr _ (by omega)]; exact A.fa, ⟨k2, a2, d2.mono fun _ _ z => (kL kRow).mono m z⟩, by rw [fr _ (by omega)]; exact A.ft, A.ne⟩
  · obtain ⟨us, h, p⟩ := S.late i l hi
    exact ⟨us, h, pr_mono (fun _ _ z => sL z) p⟩
theorem four_inj {a b c d : Addr} (nd : [a, b, c, d].Nodup) : ∀ i j, i < 4 → j < 4 → [a, b, c, d].getD i a = [a, b, c, d].getD j a → i = j := by
  intro i j hi hj e
  rw [List.getD_eq_getElem?_getD, List.getD_eq_getElem?_getD, List.getElem?_eq_getElem (by simpa using hi), List.getElem?_eq_getElem (by simpa using hj)] at e
  exact (List.getElem_inj nd).mp e
end
end Rw
set_option maxHeartbeats 4000000
namespace Rw
open PySem PySem.Spec PyProof.Rows L2
abbrev N23A : List Str := ["_law_d", "_law_seats", "_law_leads", "_law_lead", "_law_term", "_law_answer", "_law_seat"]
structure FunC (K : PySem.W.Frag) (x qual : Str) (st : Stmt) (f c : Addr) (fd : FuncData) : Prop where
  ex : ∃ (oc : Value) (od : Option Addr) (kV doc pm : Value) (an : Option Addr) (ct : Value) (osl : Array (Option Value)),
    fd = PySem.W.fnOf x qual (defArgs st) (defBody st) (defScope st) .none kV doc pm an (.ref c) ct ∧ K.lookup f = some ⟨oc, od, .func fd, osl⟩ ∧ PySem.W.codeIn K (.ref c) qual = true
theorem FunC.ok {P : Program} {w : World} {K : PySem.W.Frag} {mg : Str → Option Value} {base : Heap} {x qual : Str} {st : Stmt} {f c : Addr} {fd : FuncData} {N ps : List Str} {k : Nat} {sp : Sp} (F : FunC K x qual st f c fd) (S : FnScope N ps (defScope st)) (len : ∀ vs H Q E, sp vs H Q E → vs.length = ps.length)
    (walk : ∀ (A : Around) (outer : List Env) (s : Shared) (H : Hp) (vs : List V) (Q : VK) (E : XK), Room k (A.deeper (PyProof.Rows.envOfC qual (defScope st) s.heap.objs.size f (.ref c))) → sp vs H Q E →
      ∃ t, PSs (cxOf CX0 P w K mg base N qual (defScope st) f (.ref c) A outer s H E).nox (defBody st) t ∧ t { nx := fun _ H' => Q .non H', rt := Q } (start N vs) H) : FnOk P w K mg base CX0 (k + 1) f fd ps sp := by
  obtain ⟨oc, od, kV, doc, pm, an, ct, osl, rfl, lk, hcd⟩ := F.ex
  refine fn_of lk hcd S len fun A outer s H vs Q E hr h => ?_
  obtain ⟨t, p, q⟩ := walk A outer s H vs Q E hr h
  exact ⟨t, p.nox, q⟩
structure TxV (mg : Str → Option Value) : Prop where
  max : mg "max" = none
  len : mg "len" = none
  isinst : mg "isinstance" = none
  list : mg "list" = none
  range : mg "range" = none
/-- rows of houses 0..2, numbers 1..9, as few as can be -/
structure G9 (rs : List Row) : Prop where
  can : Canon rs
  box : ∀ r ∈ rs, Drawn 3 9 r
theorem G9.len {rs : List Row} (g : G9 rs) : rs.length ≤ 27 := by
  have nd : (rs.map fun r => ((r.1, r.2.1) : Pt)).Nodup := by
    refine List.pairwise_map.mpr (g.can.ord.imp_of_mem fun {a b} ha hb z => ?_)
    show (a.1, a.2.1) ≠ (b.1, b.2.1)
    intro e
    have e1 : a.1 = b.1 := (Prod.mk.inj e).1
    have e2 : a.2.1 = b.2.1 := (Prod.mk.inj e).2
    have o := g.can.ok a ha
    unfold before at z
    omega
  have := nodup_sub _ box27 nd fun x hx => by
    obtain ⟨r, hr, rfl⟩ := List.mem_map.mp hx
    refine box27_mem ?_
    have := g.box r hr
    unfold Drawn at this
    unfold Bx
    show 0 ≤ r.1 ∧ r.1 ≤ 2 ∧ 1 ≤ r.2.1 ∧ r.2.1 ≤ 9
    omega
  rwa [List.length_map, box27_len] at this
theorem G9.bad {rs : List Row} (g : G9 rs) : badAt rs = none := badAt_none.mpr (drawn_ok g.box)
theorem InR.len {n : Nat} {es : List Ent} (f : InR (n : Int) es) : es.length ≤ n := by
  have := nodup_sub (es.map (·.s)) ((List.range n).map fun (i : Nat) => (i : Int)) f.nd fun z hz => by
    obtain ⟨e, he, rfl⟩ := List.mem_map.mp hz
    have := f.rng e he
    exact List.mem_map.mpr ⟨e.s.toNat, List.mem_range.mpr (by omega), by show ((e.s.toNat : Nat) : Int) = e.s; omega⟩
  rwa [List.length_map, List.length_map, List.length_range] at this
structure Gl (n : Nat) (l : Ld) : Prop where
  an : ∀ e ∈ l.an, G9 e.rs
  kp : ∀ e ∈ l.kp, G9 e.rs
  late : ∀ x ∈ l.late, 0 ≤ x.1 ∧ x.1 < (n : Int) ∧ G9 x.2
  me : 0 ≤ l.me ∧ l.me < (n : Int)
structure G3 (n T : Nat) (sd : Nat → Ss) (ls : List Ld) (sh : List (Int × List Row)) : Prop where
  n2 : 2 ≤ n
  n6 : n ≤ 6
  inv : TInv (n : Int) (fun s p => 0 ≤ s ∧ s < (n : Int) ∧ mem (sd s.toNat).rs p) (fun s => (sd s.toNat).t) ls sh
  seats : ∀ k, k < n → G9 (sd k).rs ∧ 0 ≤ (sd k).t
  leads : ∀ l ∈ ls, Gl n l
  tl : ls.length ≤ T
  tlate : ∀ l ∈ ls, l.late.length ≤ T
  tsh : sh.length ≤ T
/-- the seats hold no less -/
def More (n : Nat) (sd sd' : Nat → Ss) : Prop := ∀ k, k < n → ∀ p, mem (sd k).rs p → mem (sd' k).rs p
theorem More.refl {n : Nat} {sd : Nat → Ss} : More n sd sd := fun k hk p h => h
theorem More.trans {n : Nat} {a b c : Nat → Ss} (x : More n a b) (y : More n b c) : More n a c := fun k hk p h => y k hk p (x k hk p h)
/-- a seat's term rises, or it holds more -/
theorem G3.seat {n T : Nat} {sd : Nat → Ss} {ls : List Ld} {sh : List (Int × List Row)} {k : Nat} {x : Ss} (G : G3 n T sd ls sh) (g : G9 x.rs) (t0 : 0 ≤ x.t) (ht : (sd k).t ≤ x.t) (hm : ∀ p, mem (sd k).rs p → mem x.rs p) : G3 n T (setS sd k x) ls sh := by
  have e1 : ∀ j, (sd j).t ≤ (setS sd k x j).t := fun j => by
    unfold setS
    by_cases c : j = k
    · subst c; rw [if_pos rfl]; exact ht
    · rw [if_neg c]; exact Int.le_refl _
  have e2 : ∀ j p, mem (sd j).rs p → mem (setS sd k x j).rs p := fun j p m => by
    unfold setS
    by_cases c : j = k
    · subst c; rw [if_pos rfl]; exact hm p m
    · rw [if_neg c]; exact m
  refine ⟨G.n2, G.n6, G.inv.grow (fun s p z => ⟨z.1, z.2.1, e2 _ p z.2.2⟩) fun s => e1 _, fun j hj => ?_, G.leads, G.tl, G.tlate, G.tsh⟩
  unfold setS
  by_cases c : j = k
  · subst c; rw [if_pos rfl]; exact ⟨g, t0⟩
  · rw [if_neg c]; exact G.seats j hj
theorem more_set {n : Nat} {sd : Nat → Ss} {k : Nat} {x : Ss} (hm : ∀ p, mem (sd k).rs p → mem x.rs p) : More n sd (setS sd k x) := fun j hj p m => by
  unfold setS
  by_cases c : j = k
  · subst c; rw [if_pos rfl]; exact hm p m
  · rw [if_neg c]; exact m
theorem setS_same {sd : Nat → Ss} {k : Nat} {x : Ss} : setS sd k x k = x := if_pos rfl
theorem G3.set {n T : Nat} {sd : Nat → Ss} {ls : List Ld} {sh : List (Int × List Row)} {i : Nat} {l' : Ld} (G : G3 n T sd ls sh) (I : TInv (n : Int) (fun s p => 0 ≤ s ∧ s < (n : Int) ∧ mem (sd s.toNat).rs p) (fun s => (sd s.toNat).t) (ls.set i l') sh) (g : Gl n l') (tl : l'.late.length ≤ T) : G3 n T sd (ls.set i l') sh :=
  ⟨G.n2, G.n6, I, G.seats, fun x hx => (List.mem_or_eq_of_mem_set hx).elim (G.leads x) (fun e => e ▸ g), by rw [List.length_set]; exact G.tl, fun x hx => (List.mem_or_eq_of_mem_set hx).elim (G.tlate x) (fun e => e ▸ tl), G.tsh⟩
theorem G9.put {es : List Ent} {e : Ent} (h : ∀ x ∈ es, G9 x.rs) (g : G9 e.rs) : ∀ x ∈ putE es e, G9 x.rs := fun x hx => (putT_mem es e x hx).elim (fun z => z ▸ g) (h x)
theorem ifs_join {t : TT} {a b : TS} {D : Ends} {σ : L2.St} {H : Hp} (J : L2.St → Hp → Prop) (h : ∀ σ H, J σ H → a D σ H) (k : (∀ σ H, J σ H → a D σ H) → tIfS t a b D σ H) : tIfS t a b D σ H := k h
def spAsk23 (K : PySem.W.Frag) (CS CL Pa Pb Pl : Addr) : Sp := fun vs H Q _ => ∃ (F : Hp) (s : Addr) (ns : List Int) (n T : Nat) (pl dk : Nat → Addr) (Ls : Addr) (sd : Nat → Ss) (ls : List Ld) (sh : List (Int × List Row)),
  vs = [.ref (pl 0), .ref Ls, .ref (pl 4)] ∧ pl 1 = Pa ∧ pl 2 = Pb ∧ pl 3 = Pl ∧ T3 K CS CL s ns n pl dk Ls F H sd ls sh ∧ G3 n T sd ls sh ∧ T ≤ 200 ∧
  ∀ (F' H' : Hp) (pl' dk' : Nat → Addr) (sd' : Nat → Ss) (ls' : List Ld), T3 K CS CL s ns n pl' dk' Ls F' H' sd' ls' sh → G3 n (T + 1) sd' ls' sh → (∀ i, i < 6 + n → pl' i = pl i) → More n sd sd' → Same F F' → ls' ≠ [] → Q .non H'
section
variable {P : Program} {w : World} {K : PySem.W.Frag} {mg : Str → Option Value} {base : Heap} {CS CL : Addr}
theorem ok_law_ask {f c Pa Pb Pl : Addr} {fd : FuncData} {fI : Addr} {fdI : FuncData} {ft : Addr} {fdt : FuncData} (F0 : FunC K "_law_ask" "_law_ask" s_law_ask f c fd) (TBa : LamX.TabB base mg c Pa) (T : TxS K mg CS) (TQ : TxQ K mg CL) (TU : TxV mg) (TC : ToldC K mg) (Ft : Fun K "_law_told" "_law_told" s_law_told ft fdt) (gt : mg "_law_told" = some (.ref ft))
    (CN : Cal P w K mg base 1 "_law_next" ["_law_dice_here", "_law_many"] (spNext K)) (MK : Mk K CL fI) (gS : mg "Lead" = some (.ref CL)) (GI : FnOk P w K mg base CX0 3 fI fdI ["self", "many"] (spQInit CL)) (bI : Binds K fdI ["self", "many"] [])
    (CA : CalMX P w K mg base CS 2 "ask" ["self", "term"] (spAsk K CS)) (CH : CalMX P w K mg base CL 6 "heard" ["self", "seat", "rows"] (spHeard K CL)) :
    FnOk P w K mg base CX0 7 f fd ["_law_d", "_law_seats", "_law_leads"] (spAsk23 K CS CL Pa Pb Pl) := by
  obtain ⟨fN, fdN, GN, gN, kpN, bN⟩ := CN
  obtain ⟨fA, fdA, GA, mA, bA⟩ := CA
  obtain ⟨fH, fdH, GH, mH, bH⟩ := CH
  refine F0.ok sc_law_ask (fun vs H Q E h => ?_) (fun A outer s0 H vs Q E hr h => ?_)
  · obtain ⟨F, s, ns, n, T, pl, dk, Ls, sd, ls, sh, rfl, _⟩ := h
    rfl
  · obtain ⟨F, s, ns, n, T', pl, dk, Ls, sd, ls, sh, rfl, rfl, rfl, rfl, S, G, hT, q⟩ := h
    have hr1 : Room 1 _ := hr.mono (by decide)
    have hr4 : Room 4 _ := hr.mono (by decide)
    have hu := hu_of hr
    have hu0 : (A.deeper (PyProof.Rows.envOfC "_law_ask" (defScope s_law_ask) s0.heap.objs.size f (.ref c))).units < cLine := by omega
    refine ⟨_, (pss_cons (ps_if (PW.pt (pw_or (pt_cmpR (op_eqL0 hu0) (pv 2) (pe_lst pa_nil) (by rfl)) (pw_or1 (pt_cmpR op_eq (pe_call GN hr1 (by rfl) gN kpN bN .nil pass0 (pa_cons (pv 0) (pa_cons pe_int pa_nil))) pe_int (nomark _))))) (pss_cons (ps_set (i := 4) sc_law_ask.nd rfl (.inl rfl) (pe_op op_add pe_int (pe_callB (cr_max (by rfl)) (by rfl) TU.max (by decide +kernel) (pa_cons (pe_op op_cat (pe_lst (pa_cons pe_int pa_nil)) (pe_lc (own := [("_law_lead", 3)]) (g := gName 3) (tt := tYes) (te := tDGet (tVar 3) (tC (.str "term"))) (by rfl) sc_law_ask.nd (pi_list (pv 2))
        (blkOk_by (own := [("_law_lead", 3)]) (N := N23A) (sc := defScope s_law_ask) (by decide +kernel)) (fun _ _ _ _ _ => (pg_name (i := 3) sc_law_ask.nd rfl (.inl rfl))) (fun _ _ _ _ _ => pts_nil) (fun _ _ _ _ _ => (pe_dget hu (pv 3) pe_str (fun _ _ => rfl))))) pa_nil))))
      (pss_one (ps_expr (pe_bm PySem.F.plainAttrs_list PySem.F.slot_list_append PySem.F.type_list_append mt_append (pv 2) (pa_cons (pe_disp (pps_cons pe_str (pv 4) (pps_cons pe_str (pe_make MK GI hr4 (by rfl) gS bI .nil pass0 (pa_cons (pe_callB call_len (by rfl) TU.len PySem.boot_len (pa_cons (pv 1) pa_nil)) pa_nil)) (pps_cons pe_str (pe_call GN hr1 (by rfl) gN kpN bN .nil pass0 (pa_cons (pv 0) (pa_cons (pe_callB call_len (by rfl) TU.len PySem.boot_len (pa_cons (pv 1) pa_nil)) pa_nil))) (pps_cons pe_str (pe_lst pa_nil) pps_nil)))) (by rfl) (by rfl) (fun z => by cases z) (by decide)) pa_nil))))) pss_nil)
      (pss_cons (ps_set (i := 3) sc_law_ask.nd rfl (.inr rfl) (pe_ix ix_list (pv 2) (pe_callB (call_max2 (by rfl)) (by rfl) TU.max (by decide +kernel) (pa_cons pe_int (pa_cons (pe_op op_sub (pe_op op_sub (pe_callB call_len (by rfl) TU.len PySem.boot_len (pa_cons (pv 2) pa_nil)) pe_int) (pe_call GN hr1 (by rfl) gN kpN bN .nil pass0 (pa_cons (pv 0) (pa_cons pe_int pa_nil)))) pa_nil))) (fun _ _ => rfl)))
      (pss_cons (ps_set (i := 6) sc_law_ask.nd rfl (.inr rfl) (pe_call GN hr1 (by rfl) gN kpN bN .nil pass0 (pa_cons (pv 0) (pa_cons (pe_callB call_len (by rfl) TU.len PySem.boot_len (pa_cons (pv 1) pa_nil)) pa_nil))))
      (pss_cons (ps_set (i := 5) sc_law_ask.nd rfl (.inl rfl) (pe_told1 (k := 4) .no TC Ft (by rfl) gt hr TBa rfl (by kernel_rfl) ⟨rfl, rfl⟩ (fun _ _ _ _ _ _ => rfl) fun E A outer s H f c' hr4 =>
        pe_meth (pe_ix (show IxR _ (rIxL K) from ix_list) (pv 1) (pv 6) (fun _ _ => rfl)) T.cl mA GA (hr4.mono (by decide)) bA .nil (passes_call (E := E) (takes_of rfl rfl rfl rfl) fun _ _ _ _ h => h) (pa_cons (pe_dget (hu_of hr4) (pv 3) pe_str (fun _ _ => rfl)) pa_nil)))
      (pss_one (ps_if (PW.pt (pw_and (pt_val (pe_callB call_isi (by rfl) TU.isinst (by decide +kernel) (pa_cons (pv 5) (pa_cons (pe_bty (by rfl) TU.list bt_list) pa_nil)))) (pw_and1 (pt_cmpR op_gt (pe_call GN hr1 (by rfl) gN kpN bN .nil pass0 (pa_cons (pv 0) (pa_cons pe_int pa_nil))) pe_int (nomark _))))) (pss_one (ps_expr (pe_meth (pe_dget hu (pv 3) pe_str (fun _ _ => rfl)) TQ.cl mH GH hr bH .nil pass_not (pa_cons (pv 6) (pa_cons (pv 5) pa_nil))))) pss_nil)))))), ?_⟩
    have n2 := G.n2
    have n6 := G.n6
    refine seq_join (fun σ H' => ∃ F' pl' dk' ls' y4, σ = [some (.ref (pl' 0)), some (.ref Ls), some (.ref (pl' 4)), none, y4, none, none] ∧ T3 K CS CL s ns n pl' dk' Ls F' H' sd ls' sh ∧ G3 n (T' + 1) sd ls' sh ∧ (∀ i, i < 6 + n → pl' i = pl i) ∧ Same F F' ∧ ls' ≠ []) ?_ fun key => ?_
    rotate_left
    · show tIfS _ _ _ _ _ _
      refine ifs_join (fun σ H' => ∃ F', σ = [some (.ref (pl 0)), some (.ref Ls), some (.ref (pl 4)), none, none, none, none] ∧ T3 K CS CL s ns n pl dk Ls F' H' sd ls sh ∧ Same F F') ?_ fun keyB => ?_
      rotate_left
      · refine ⟨_, rfl, Nat.zero_le _, fun e0 ne0 => ?_⟩
        have X1 := (XM.refl (M := M0) S.same).tmp (o := .lst []) ne0
        have S1 := S.quiet X1
        have he0 : upd H e0 (.lst []) e0 = some (.lst []) := upd_same
        revert S1 he0
        generalize upd H e0 (.lst []) = H1
        intro S1 he0
        clear X1
        refine ⟨pl 4, e0, _, rfl, rfl, SqL.of S1.hL, SqL.of he0, _, rfl, ?_⟩
        cases hE : ((List.range ls.length).map fun i => V.ref (dk i)).isEmpty with
        | true => exact iteT (iteT (keyB _ _ ⟨F, rfl, S1, Same.refl _⟩))
        | false =>
          have nn : ls ≠ [] := fun e => by subst e; simp at hE
          refine iteF ⟨_, rfl, F, pl 0, s, ns, 6, rfl, S1.dice, by decide, by decide, fun z H2 z0 z1 X2 D2 => ?_⟩
          have S2 := S1.drawn X2 D2
          refine ⟨rfl, _, rfl, iteI (fun e => ?_) (fun e => ?_)⟩
          · exact keyB _ _ ⟨F, rfl, S2, Same.refl _⟩
          · exact key _ _ ⟨F, pl, dk, ls, _, rfl, S2, ⟨G.n2, G.n6, G.inv, G.seats, G.leads, by have := G.tl; omega, fun l hl => by have := G.tlate l hl; omega, by have := G.tsh; omega⟩, fun _ _ => rfl, Same.refl _, nn⟩
      rintro _ H2 ⟨F2, rfl, S2, m2⟩
      have il := G.tl
      refine ⟨by show 1 ≤ sizeLine; decide, fun l0 nl0 => ?_⟩
      have S3 := S2.quiet ((XM.refl S2.same).tmp (o := .lst [.int 0]) nl0)
      have h0 : upd H2 l0 (.lst [.int 0]) l0 = some (.lst [.int 0]) := upd_same
      revert S3 h0
      generalize upd H2 l0 (.lst [V.int 0]) = H3
      intro S3 h0
      clear nl0 S2
      refine ⟨_, rfl, pl 4, rfl, ⟨_, SqL.of S3.hL⟩, fun D nD => ?_⟩
      have n4D := S3.ne nD 4 (by omega)
      refine it_by (walk_list (K := K) (a := pl 4) (xs := (List.range ls.length).map fun i => V.ref (dk i))) (fun j H' => H' = upd H3 D (.lst ((List.range j).map fun (i : Nat) => V.int ((i : Int) + 1))))
        rfl (fun j H' _ e => by rw [e]; exact SqL.of (by rw [upd_ne n4D]; exact S3.hL)) ?_ ?_
      · rintro j x _ _ hj rfl ⟨rfl, hx⟩
        rw [List.length_map, List.length_range] at hj
        rw [List.getElem?_map, List.getElem?_range hj] at hx
        cases hx
        have hlj : ls[j]? = some ls[j] := List.getElem?_eq_getElem hj
        have hdj := S3.same _ _ (S3.dks j _ hlj)
        have tj := G.inv.terms j _ hlj
        have hdj' : upd H3 D (.lst ((List.range j).map fun (i : Nat) => V.int ((i : Int) + 1))) (dk j) = _ := (upd_ne (ne_of_none hdj nD)).trans hdj
        refine ⟨rfl, _, rfl, dk j, _, rfl, DGet.k (k := Sum.inr "term") hdj', _, upd_same, by rw [List.length_map, List.length_range, sizeLine_eq]; omega, ?_⟩
        rw [List.range_succ, List.map_append, List.map_cons, List.map_nil, ← tj]
        exact funext fun b => by by_cases e : b = D <;> simp [upd, e]
      rintro _ rfl
      rw [List.length_map, List.length_range]
      have S4 := S3.quiet ((XM.refl S3.same).tmp (o := .lst ((List.range ls.length).map fun (i : Nat) => V.int ((i : Int) + 1))) nD)
      have h04 : upd H3 D (.lst ((List.range ls.length).map fun (i : Nat) => V.int ((i : Int) + 1))) l0 = some (.lst [.int 0]) := by rw [upd_ne (ne_of_none h0 nD)]; exact h0
      have hD4 : upd H3 D (.lst ((List.range ls.length).map fun (i : Nat) => V.int ((i : Int) + 1))) D = some (.lst ((List.range ls.length).map fun (i : Nat) => V.int ((i : Int) + 1))) := upd_same
      revert S4 h04 hD4
      generalize upd H3 D (.lst ((List.range ls.length).map fun (i : Nat) => V.int ((i : Int) + 1))) = H4
      intro S4 h04 hD4
      refine ⟨l0, D, _, _, rfl, rfl, h04, hD4, by rw [List.length_map, List.length_range, sizeLine_eq]; show 1 + ls.length ≤ _; omega, fun c nc => ?_⟩
      have S5 := S4.quiet ((XM.refl S4.same).tmp (o := .lst ([V.int 0] ++ (List.range ls.length).map fun (i : Nat) => V.int ((i : Int) + 1))) nc)
      refine ⟨c, 0 :: (List.range ls.length).map (fun (i : Nat) => (i : Int) + 1), rfl, SqL.of (by rw [upd_same, List.map_cons, List.map_map]; rfl), by simp, fun mx hmx hall => ?_⟩
      have emx : mx = (ls.length : Int) := by
        have u : mx ≤ (ls.length : Int) := by
          rcases List.mem_cons.mp hmx with e | e
          · omega
          · obtain ⟨i, hi, rfl⟩ := List.mem_map.mp e
            have := List.mem_range.mp hi
            omega
        have v : (ls.length : Int) ≤ mx := by
          by_cases z : ls.length = 0
          · have := hall 0 List.mem_cons_self; omega
          · exact hall _ (List.mem_cons_of_mem _ (List.mem_map.mpr ⟨ls.length - 1, List.mem_range.mpr (by omega), by omega⟩))
        omega
      subst emx
      revert S5
      generalize upd H4 c (.lst ([V.int 0] ++ (List.range ls.length).map fun (i : Nat) => V.int ((i : Int) + 1))) = H5
      intro S5
      clear S4 h04 hD4 nc S3 h0 nD n4D hmx hall
      refine ⟨_, _, rfl, rfl, ?_⟩
      refine ⟨_, rfl, .inl ⟨rfl, _, SqL.of S5.hL⟩, ?_⟩
      intro w nw
      have wp := S5.ne nw
      have fw2 := S5.same.free nw
      have S6 := S5.quiet ((XM.refl S5.same).tmp (o := .dK []) nw)
      have hw6 : upd H5 w (.dK []) w = some (.dK []) := upd_same
      revert S6 hw6
      generalize upd H5 w (.dK []) = H6
      intro S6 hw6
      refine ⟨_, rfl, _, rfl, _, _, rfl, .inl ⟨_, SqL.of (S6.same _ _ S6.fLs), rfl⟩, ?_⟩
      intro x1 dx1 nx1 ndx1 ne1
      have sm1 : Same F2 (upd (upd H6 dx1 (.own x1)) x1 (.ins CL dx1 [])) := S6.same.trans ((same_upd ndx1).trans (same_upd (by rw [upd_ne ne1.symm]; exact nx1)))
      refine ⟨F2, x1, dx1, _, rfl, by rw [List.length_map, List.length_range]; omega, by rw [List.length_map, List.length_range]; omega, sm1, upd_same, S6.same.free nx1, fun FA HA aa ta XA na nta nat A => ⟨rfl, ?_⟩⟩
      rw [List.length_map, List.length_range] at A
      have Y := XM.of (Ext.made S6.same nx1 ndx1 ne1 XA)
      have old : ∀ {b : Addr}, upd (upd H6 dx1 (.own x1)) x1 (.ins CL dx1 []) b = none → H6 b = none := fun {b} h => by
        have h1 : b ≠ x1 := fun e => by rw [e, upd_same] at h; cases h
        rw [upd_ne h1] at h
        have h2 : b ≠ dx1 := fun e => by rw [e, upd_same] at h; cases h
        rwa [upd_ne h2] at h
      have px := S6.ne nx1
      have pa := S6.ne (old na)
      have pt := S6.ne (old nta)
      have wx : w ≠ x1 := ne_of_none hw6 nx1
      have wa : w ≠ aa := ne_of_none hw6 (old na)
      have wt : w ≠ ta := ne_of_none hw6 (old nta)
      have S7 := S6.quiet Y
      have hw7 := Y.hh _ _ hw6 id
      have fwA : FA w = none := by rw [Y.nw _ _ hw6 fun xs z => by cases z]; exact fw2
      have mA := m2.trans Y.ff
      clear old sm1 XA na nta Y S5 S6
      refine ⟨_, rfl, _, rfl, _, _, rfl, .inl ⟨_, SqL.of (S7.same _ _ S7.fLs), rfl⟩, FA, pl 0, s, ns, _, rfl, S7.dice, by rw [List.length_map, List.length_range]; omega, by rw [List.length_map, List.length_range]; omega, fun me H8 me0 me1 X8 D8 => ?_⟩
      rw [List.length_map, List.length_range] at me1
      have S8 := S7.drawn X8 D8
      have A8 := A.xm (.of X8) (px 0 (by omega)).symm (pa 0 (by omega)).symm (pt 0 (by omega)).symm
      have hw8 := X8.hh _ _ hw7 (wp 0 (by omega)).symm
      clear X8 D8 S7 A hw7
      refine ⟨Nat.zero_le _, fun la nla => ?_⟩
      have pla := S8.ne nla
      have wla : w ≠ la := ne_of_none hw8 nla
      have nxp := A8.npa
      have nxt := A8.npt
      obtain ⟨dxL, obL⟩ := A8.ob
      obtain ⟨kv1, haL, _⟩ := A8.ha
      obtain ⟨kv2, htL, _⟩ := A8.ht
      have nd4 : [x1, aa, ta, la].Nodup := by
        simp only [List.nodup_cons, List.mem_cons, List.not_mem_nil, or_false, not_or, List.nodup_nil, and_true, not_false_eq_true]
        exact ⟨⟨nxp, nxt, ne_of_none obL nla⟩, ⟨nat, ne_of_none haL nla⟩, ne_of_none htL nla⟩
      have S9 := S8.quiet ((XM.refl S8.same).tmp (o := .lst []) nla)
      have hw9 : upd H8 la (.lst []) w = some (.dK []) := by rw [upd_ne wla]; exact hw8
      refine ⟨hw9, [(.inr "term", .int (1 + (ls.length : Int))), (.inr "lead", .ref x1), (.inr "me", .int me), (.inr "late", .ref la)], rfl, by show 4 ≤ 15; decide, ?_⟩
      have S10 := S9.put (o := .dK (ldV (1 + (ls.length : Int)) x1 me la)) wp fwA hw9 fun φ z => by cases z
      have S11 := S10.fzo wp fwA upd_same
      have mw := same_upd (o := .dK (ldV (1 + (ls.length : Int)) x1 me la)) fwA
      have L11 : LeadAt CL (upd FA w (.dK (ldV (1 + (ls.length : Int)) x1 me la))) (upd (upd H8 la (.lst [])) w (.dK (ldV (1 + (ls.length : Int)) x1 me la))) x1 aa ta (n : Int) [] [] false := by
        obtain ⟨dxq, obq⟩ := A8.ob
        obtain ⟨q1, a1, d1⟩ := A8.ha
        obtain ⟨q2, a2, d2⟩ := A8.ht
        exact ⟨⟨dxq, by rw [upd_ne wx.symm, upd_ne (ne_of_none obq nla)]; exact obq⟩, by rw [upd_ne wx.symm]; exact A8.fp, ⟨q1, by rw [upd_ne wa.symm, upd_ne (ne_of_none a1 nla)]; exact a1, d1.mono fun _ _ z => (kL kRow).mono mw z⟩, by rw [upd_ne wa.symm]; exact A8.fa,
          ⟨q2, by rw [upd_ne wt.symm, upd_ne (ne_of_none a2 nla)]; exact a2, d2.mono fun _ _ z => (kL kRow).mono mw z⟩, by rw [upd_ne wt.symm]; exact A8.ft, A8.ne⟩
      have la11 : upd (upd H8 la (.lst [])) w (.dK (ldV (1 + (ls.length : Int)) x1 me la)) la = some (.lst []) := by rw [upd_ne wla.symm]; exact upd_same
      have fla11 : upd FA w (.dK (ldV (1 + (ls.length : Int)) x1 me la)) la = none := by rw [upd_ne wla.symm]; exact S8.same.free nla
      have hx11 : upd FA w (.dK (ldV (1 + (ls.length : Int)) x1 me la)) w = some (.dK (ldV (1 + (ls.length : Int)) x1 me la)) := upd_same
      have mm := mA.trans mw
      have eN0 : addP3 (6 + n + 4 * ls.length) pl (fun i => [x1, aa, ta, la].getD i x1) 0 = pl 0 := addP3_old (by omega)
      have eN4 : addP3 (6 + n + 4 * ls.length) pl (fun i => [x1, aa, ta, la].getD i x1) 4 = pl 4 := addP3_old (by omega)
      have TN := S11.new (g := fun i => [x1, aa, ta, la].getD i x1) (x := w) (y := ⟨1 + (ls.length : Int), me, [], [], false, []⟩) (fun i hi r hr => by
        match r, hr with
        | 0, _ => exact px i hi
        | 1, _ => exact pa i hi
        | 2, _ => exact pt i hi
        | 3, _ => exact pla i hi) (four_inj nd4) L11 la11 fla11 rfl hx11
      have IN : TInv (n : Int) (fun s p => 0 ≤ s ∧ s < (n : Int) ∧ mem (sd s.toNat).rs p) (fun s => (sd s.toNat).t) (ls ++ [⟨1 + (ls.length : Int), me, [], [], false, []⟩]) sh := by
        have z := G.inv.new (me := me)
        rw [show ((ls.length : Int) + 1) = 1 + (ls.length : Int) by omega] at z
        exact z
      have GN' : G3 n (T' + 1) sd (ls ++ [⟨1 + (ls.length : Int), me, [], [], false, []⟩]) sh := by
        refine ⟨G.n2, G.n6, IN, G.seats, fun l hl => ?_, by rw [List.length_append, List.length_singleton]; omega, fun l hl => ?_, by have := G.tsh; omega⟩
        · rcases List.mem_append.mp hl with z | z
          · exact G.leads l z
          · rw [List.mem_singleton.mp z]
            exact ⟨fun e h => absurd h (by simp), fun e h => absurd h (by simp), fun e h => absurd h (by simp), ⟨me0, me1⟩⟩
        · rcases List.mem_append.mp hl with z | z
          · have := G.tlate l z; omega
          · rw [List.mem_singleton.mp z]; exact Nat.zero_le _
      refine ⟨pl 4, _, _, rfl, rfl, S11.hL, by rw [List.length_map, List.length_range, sizeLine_eq]; omega, ?_⟩
      refine key _ _ ⟨_, _, _, _, some (.int (1 + (ls.length : Int))), ?_, TN, GN', fun i hi => addP3_old (by omega), mm, by simp⟩
      rw [eN0, eN4]
      rfl
    rintro _ H1 ⟨F1, pl1, dk1, ls1, y4, rfl, S1, G1, ep, m1, nn⟩
    have mpos : 0 < ls1.length := List.length_pos_iff.mpr nn
    have tl1 := G1.tl
    refine ⟨_, rfl, _, rfl, _, _, rfl, .inl ⟨_, SqL.of S1.hL, rfl⟩, _, _, rfl, rfl, _, rfl, F1, pl1 0, s, ns, 3, rfl, S1.dice, by decide, by decide, fun z H2 z0 z1 X2 D2 => ⟨_, _, rfl, rfl, _, _, rfl, ?_⟩⟩
    have S2 := S1.drawn X2 D2
    clear X2 D2
    rw [List.length_map, List.length_range]
    obtain ⟨i, hi, hidx⟩ : ∃ i : Nat, i < ls1.length ∧ (if ((ls1.length : Nat) : Int) - 1 - z > 0 then ((ls1.length : Nat) : Int) - 1 - z else 0) = (i : Int) := by
      by_cases c : ((ls1.length : Nat) : Int) - 1 - z > 0
      · exact ⟨(((ls1.length : Nat) : Int) - 1 - z).toNat, by omega, by rw [if_pos c]; omega⟩
      · exact ⟨0, mpos, by rw [if_neg c]; rfl⟩
    rw [hidx]
    refine ⟨pl1 4, _, _, _, rfl, rfl, SqL.of S2.hL, atI_nat (by rw [List.getElem?_map, List.getElem?_range hi]; rfl), ?_⟩
    clear hidx
    have hl : ls1[i]? = some ls1[i] := List.getElem?_eq_getElem hi
    generalize ls1[i] = l at hl
    refine ⟨_, rfl, _, rfl, _, _, rfl, .inl ⟨_, SqL.of (S2.same _ _ S2.fLs), rfl⟩, F1, pl1 0, s, ns, _, rfl, S2.dice, by rw [List.length_map, List.length_range]; omega, by rw [List.length_map, List.length_range]; omega, fun zs H3 zs0 zs1 X3 D3 => ?_⟩
    have S3 := S2.drawn X3 D3
    clear X3 D3
    rw [List.length_map, List.length_range] at zs1
    obtain ⟨k, hk, rfl⟩ : ∃ k : Nat, k < n ∧ zs = (k : Int) := ⟨zs.toNat, by omega, by omega⟩
    refine ⟨by rw [← ep 1 (by omega)]; exact S3.t1, fun H4 g tab => ?_⟩
    rw [← ep 1 (by omega)] at g tab
    have S4 := S3.grow1 g tab
    have A4 := S4.seats k hk
    obtain ⟨dx, ra, ob, _⟩ := A4.ob
    have lt4 := G1.inv.terms i l hl
    refine ⟨_, rfl, _, rfl, Ls, _, _, _, rfl, rfl, SqL.of (S4.same _ _ S4.fLs), atI_nat (by rw [List.getElem?_map, List.getElem?_range hk]; rfl), pl1 (6 + k), dx, _, rfl, ob, sl_ask _ _, _, rfl, dk1 i, _, rfl, DGet.k (k := Sum.inr "term") (S4.same _ _ (S4.dks i l hl)), F1, pl1 (6 + k), (sd k).rs, (sd k).t, l.term, rfl, S4.same, A4, fun c => ?_, fun c => ?_⟩
    · refine EW.plain 7 (by decide) (by decide) (by decide) fun H5 t1 sm nt ht => ?_
      have S5 := S4.quiet (.of (Ext.ofSame S4.same sm))
      refine ⟨_, rfl, _, .ty "list", _, _, _, rfl, .ty _, tyx_tup ht, kit_ty (r := false) (by decide +kernel), false, rfl, iteF (iteF ?_)⟩
      exact q F1 H5 pl1 dk1 sd ls1 S5 G1 ep More.refl m1 nn
    · intro F5 H5 b vs out X5 A5 eo nb fb hb hp
      subst eo
      have g0 := (G1.seats k hk).1
      have S5 := S4.seat (x := ⟨(sd k).rs, l.term⟩) hk X5 A5
      have S6 := S5.fz (fun i hi => S4.ne nb i hi) fb hb
      have kr : (kL kRow).is (upd F5 b (.lst vs)) (.ref b) (sd k).rs := kL_new fb hp
      have G6 := G1.seat (k := k) (x := ⟨(sd k).rs, l.term⟩) g0 (by show 0 ≤ l.term; omega) (by show (sd k).t ≤ l.term; omega) (fun p h => h)
      have mo : More n sd (setS sd k ⟨(sd k).rs, l.term⟩) := more_set fun p h => h
      have m6 := m1.trans (X5.ff.trans (same_upd (o := .lst vs) fb))
      revert S6 kr m6
      generalize upd F5 b (.lst vs) = F6
      intro S6 kr m6
      clear S5 X5 A5 nb fb hp S4 S3 S2 S1
      refine ⟨_, rfl, _, .ty "list", _, _, _, rfl, .ty _, tyx_lst hb, kit_ty (r := true) (by decide +kernel), true, rfl, iteT ?_⟩
      refine ⟨_, rfl, F6, pl1 0, s, ns, 4, rfl, S6.dice, by decide, by decide, fun z4 H7 z40 z41 X7 D7 => ?_⟩
      have S7 := S6.drawn X7 D7
      clear X7 D7 S6
      have ml := List.mem_of_getElem? hl
      have lan := (G6.inv.an l ml).len
      refine ⟨_, _, rfl, rfl, _, rfl, iteL (fun c4 => ?_) (fun c4 => ?_)⟩
      · obtain ⟨dxl, obl⟩ := (S7.lead i l hl).ob
        refine ⟨_, rfl, dk1 i, _, rfl, DGet.k (k := Sum.inr "lead") (S7.same _ _ (S7.dks i l hl)), _, dxl, _, rfl, obl, ll_heard _ _ _ _, _, rfl, _, rfl, F6, _, _, _, (n : Int), l.an, l.kp, l.bg, (k : Int), .ref b, rfl, S7.same, S7.lead i l hl, by omega, fun z => absurd ⟨by omega, by omega⟩ z, fun _ =>
          ⟨(sd k).rs, [], kr, by have := g0.len; omega, fun j hj => (nomatch g0.bad.symm.trans hj), fun _ => ⟨fun hbg H8 sm => ?_, fun hbg F8 H8 rs8 X8 fw A8 => ?_⟩⟩⟩
        · exact q F6 H8 pl1 dk1 _ ls1 (S7.quiet (.of (Ext.ofSame S7.same sm))) G6 ep mo m6 nn
        · have e8 : rs8 = (sd k).rs := Canon.uniq fw.can g0.can fw.mem
          subst e8
          have S8 := S7.leadX (r := 1) (l' := ⟨l.term, l.me, putE l.an ⟨(k : Int), (sd k).rs, []⟩, l.kp, l.bg, l.late⟩) hl (by decide) X8 rfl rfl rfl A8
          have I8 := G6.inv.heard (s := (k : Int)) (rs := (sd k).rs) (ps := []) hl hbg (by omega) (by omega) (by show l.term ≤ (setS sd k ⟨(sd k).rs, l.term⟩ (Int.toNat (k : Int))).t; rw [Int.toNat_natCast, setS_same]; exact Int.le_refl _) (fun p z => by
            have := z.2.2
            rwa [Int.toNat_natCast, setS_same] at this)
          have gl := G6.leads l ml
          have G8 := G6.set I8 ⟨G9.put gl.an g0, gl.kp, gl.late, gl.me⟩ (G6.tlate l ml)
          exact q F8 H8 pl1 dk1 _ _ S8 G8 ep mo (m6.trans X8.ff) (by intro z; have := congrArg List.length z; rw [List.length_set] at this; exact nn (List.length_eq_zero_iff.mp this))
      · exact q F6 H7 pl1 dk1 _ ls1 S7 G6 ep mo m6 nn
end
end Rw
set_option maxHeartbeats 4000000
namespace Rw
open PySem PySem.Spec PyProof.Rows L2
abbrev N23B : List Str := ["_law_d", "_law_seats", "_law_lead", "_law_told_here", "_law_late", "_law_rows", "_law_seat"]
theorem G3.up {n T : Nat} {sd : Nat → Ss} {ls : List Ld} {sh : List (Int × List Row)} (G : G3 n T sd ls sh) : G3 n (T + 1) sd ls sh := ⟨G.n2, G.n6, G.inv, G.seats, G.leads, by have := G.tl; omega, fun l hl => by have := G.tlate l hl; omega, by have := G.tsh; omega⟩
theorem G9.of {a b rs : List Row} (fw : Fewest (a ++ b) rs) (ha : ∀ r ∈ a, Drawn 3 9 r) (hb : ∀ r ∈ b, Drawn 3 9 r) : G9 rs := ⟨fw.can, fun r hr => by
  have h1 := (fw.mem _).mp (fw.can.first hr)
  have h2 := (fw.mem _).mp (fw.can.last hr)
  have h3 := fw.can.ok r hr
  have key9 : ∀ q, mem (a ++ b) q → Bx q := fun q hq => by
    rcases mem_append.mp hq with h | h
    · exact drawn_bx ha h
    · exact drawn_bx hb h
  have b1 := key9 _ h1
  have b2 := key9 _ h2
  unfold Bx at b1 b2
  unfold Drawn
  simp only at b1 b2
  omega⟩
theorem set_self {α : Type} {ls : List α} {i : Nat} {l : α} (h : ls[i]? = some l) : ls.set i l = ls := List.ext_getElem? fun j => by
  rw [List.getElem?_set]
  by_cases c : i = j
  · subst c; rw [if_pos rfl, if_pos (List.getElem?_eq_some_iff.mp h).1, h]
  · rw [if_neg c]
theorem get_set {α : Type} {ls : List α} {i : Nat} {l : α} (h : i < ls.length) : (ls.set i l)[i]? = some l := by rw [List.getElem?_set, if_pos rfl, if_pos h]
theorem prT_erase {α : Type} {R : V → α → Prop} : ∀ {vs : List V} {xs : List α} (k : Nat), Paired R vs xs → Paired R (vs.eraseIdx k) (xs.eraseIdx k)
  | _, _, _, .nil => .nil
  | _, _, 0, .cons _ t => t
  | _, _, k + 1, .cons r t => .cons r (prT_erase k t)
theorem seqT_at {z : Int} {n : Nat} (h0 : 0 ≤ z) (h1 : z < n) : seqIndex? z n = some z.toNat := by
  unfold seqIndex?
  simp only
  rw [if_neg (by omega : ¬ z < 0), if_pos (by simp [h0, h1])]
def spBring23 (K : PySem.W.Frag) (CS CL Pa Pb Pl : Addr) : Sp := fun vs H Q _ => ∃ (F : Hp) (s : Addr) (ns : List Int) (n T : Nat) (pl dk : Nat → Addr) (Ls : Addr) (sd : Nat → Ss) (ls : List Ld) (sh : List (Int × List Row)) (i : Nat) (l : Ld),
  vs = [.ref (pl 0), .ref Ls, .ref (dk i)] ∧ pl 1 = Pa ∧ pl 2 = Pb ∧ pl 3 = Pl ∧ T3 K CS CL s ns n pl dk Ls F H sd ls sh ∧ G3 n T sd ls sh ∧ T ≤ 200 ∧ ls[i]? = some l ∧
  ∀ (F' H' : Hp) (sd' : Nat → Ss) (l' : Ld), T3 K CS CL s ns n pl dk Ls F' H' sd' (ls.set i l') sh → G3 n (T + 1) sd' (ls.set i l') sh → More n sd sd' → Same F F' → l'.term = l.term → l'.bg = l.bg → l'.an = l.an → Q .non H'
section
variable {P : Program} {w : World} {K : PySem.W.Frag} {mg : Str → Option Value} {base : Heap} {CS CL : Addr}
theorem ok_law_bring {f c Pa Pb Pl : Addr} {fd : FuncData} {ft : Addr} {fdt : FuncData} (F0 : FunC K "_law_bring" "_law_bring" s_law_bring f c fd) (TBb : LamX.TabB base mg c Pb) (T : TxS K mg CS) (TQ : TxQ K mg CL) (TU : TxV mg) (TC : ToldC K mg) (Ft : Fun K "_law_told" "_law_told" s_law_told ft fdt) (gt : mg "_law_told" = some (.ref ft))
    (CN : Cal P w K mg base 1 "_law_next" ["_law_dice_here", "_law_many"] (spNext K)) (CO : CalM P w K mg base CS 1 "holds" ["self"] (spHolds K CS)) (CP : CalMX P w K mg base CS 7 "keep" ["self", "term", "rows"] (spKeep K CS))
    (CE : CalM P w K mg base CL 1 "leads" ["self"] (spLeads CL)) (CK : CalMX P w K mg base CL 6 "kept" ["self", "seat", "rows"] (spLKept2 K CL)) :
    FnOk P w K mg base CX0 10 f fd ["_law_d", "_law_seats", "_law_lead"] (spBring23 K CS CL Pa Pb Pl) := by
  obtain ⟨fN, fdN, GN, gN, kpN, bN⟩ := CN
  obtain ⟨fO, fdO, GO, mO, bO⟩ := CO
  obtain ⟨fP, fdP, GP, mP, bP⟩ := CP
  obtain ⟨fE, fdE, GE, mE, bE⟩ := CE
  obtain ⟨fK, fdK, GK, mK, bK⟩ := CK
  refine F0.ok sc_law_bring (fun vs H Q E h => ?_) (fun A outer s0 H vs Q E hr h => ?_)
  · obtain ⟨F, s, ns, n, T, pl, dk, Ls, sd, ls, sh, i, l, rfl, _⟩ := h
    rfl
  · obtain ⟨F, s, ns, n, T', pl, dk, Ls, sd, ls, sh, i, l, rfl, rfl, rfl, rfl, S, G, hT, hl, q⟩ := h
    have hr1 : Room 1 _ := hr.mono (by decide)
    have hr6 : Room 6 _ := hr.mono (by decide)
    have hu := hu_of hr
    have hu0 : (A.deeper (PyProof.Rows.envOfC "_law_bring" (defScope s_law_bring) s0.heap.objs.size f (.ref c))).units < cLine := by omega
    refine ⟨_, (pss_cons (ps_set (i := 6) sc_law_bring.nd rfl (.inr rfl) (pe_call GN hr1 (by rfl) gN kpN bN .nil pass0 (pa_cons (pv 0) (pa_cons (pe_callB call_len (by rfl) TU.len PySem.boot_len (pa_cons (pv 1) pa_nil)) pa_nil))))
      (pss_cons (ps_set (i := 5) sc_law_bring.nd rfl (.inr rfl) (pe_meth0 (pe_ix ix_list (pv 1) (pe_dget hu (pv 2) pe_str (fun _ _ => rfl)) (fun _ _ => rfl)) T.cl mO GO hr1 bO .nil pass0))
      (pss_cons (ps_set (i := 5) sc_law_bring.nd rfl (.inr rfl) (pe_ix ix_list (pe_lst (pa_cons (pv 5) (pa_cons (pe_slice sl_list (pv 5) po_none (po_some (pe_op op_add pe_int (pe_call GN hr1 (by rfl) gN kpN bN .nil pass0 (pa_cons (pv 0) (pa_cons pe_int pa_nil)))))) pa_nil))) (pe_call GN hr1 (by rfl) gN kpN bN .nil pass0 (pa_cons (pv 0) (pa_cons pe_int pa_nil))) (fun _ _ => rfl)))
      (pss_cons (ps_set (i := 3) sc_law_bring.nd rfl (.inl rfl) (pe_told1 (k := 7) .no TC Ft (by rfl) gt hr TBb rfl (by kernel_rfl) ⟨rfl, rfl⟩ (fun _ _ _ _ _ _ => rfl) fun E A outer s H f c' hr7 =>
        pe_meth (pe_ix (show IxR _ (rIxL K) from ix_list) (pv 1) (pv 6) (fun _ _ => rfl)) T.cl mP GP hr7 bP .nil (passes_call (E := E) (takes_of rfl rfl rfl rfl) fun _ _ _ _ h => h) (pa_cons (pe_dget (hu_of hr7) (pv 2) pe_str (fun _ _ => rfl)) (pa_cons (pv 5) pa_nil))))
      (pss_cons (ps_if (pt_val (pe_callB call_isi (by rfl) TU.isinst (by decide +kernel) (pa_cons (pv 3) (pa_cons (pe_bty (by rfl) TU.list bt_list) pa_nil)))) (pss_one (ps_expr (pe_bm PySem.F.plainAttrs_list PySem.F.slot_list_append PySem.F.type_list_append mt_append (pe_dget hu (pv 2) pe_str (fun _ _ => rfl)) (pa_cons (pe_tup (pa_cons (pv 6) (pa_cons (pv 3) pa_nil))) pa_nil)))) pss_nil)
      (pss_one (ps_if (PW.pt (pw_and (pt_cmpR (op_neL0 hu0) (pe_dget hu (pv 2) pe_str (fun _ _ => rfl)) (pe_lst pa_nil) (by rfl)) (pw_and (pt_val (pe_meth0 (pe_dget hu (pv 2) pe_str (fun _ _ => rfl)) TQ.cl mE GE hr1 bE .nil pass0)) (pw_and1 (pt_cmpR op_gt (pe_call GN hr1 (by rfl) gN kpN bN .nil pass0 (pa_cons (pv 0) (pa_cons pe_int pa_nil))) pe_int (nomark _)))))) (pss_cons (ps_set (i := 4) sc_law_bring.nd rfl (.inl rfl) (pe_bm PySem.F.plainAttrs_list PySem.F.slot_list_pop PySem.F.type_list_pop mt_popAt (pe_dget hu (pv 2) pe_str (fun _ _ => rfl)) (pa_cons (pe_call GN hr1 (by rfl) gN kpN bN .nil pass0 (pa_cons (pv 0) (pa_cons (pe_callB call_len (by rfl) TU.len PySem.boot_len (pa_cons (pe_dget hu (pv 2) pe_str (fun _ _ => rfl)) pa_nil)) pa_nil))) pa_nil)))
      (pss_one (ps_expr (pe_meth (pe_dget hu (pv 2) pe_str (fun _ _ => rfl)) TQ.cl mK GK hr6 bK .nil pass_not (pa_cons (pe_ix ix_tup (pv 4) pe_int (fun _ _ => rfl)) (pa_cons (pe_ix ix_tup (pv 4) pe_int (fun _ _ => rfl)) pa_nil)))))) pss_nil))))))), ?_⟩
    have n2 := G.n2
    have n6 := G.n6
    have il := T3.il hl
    have ml := List.mem_of_getElem? hl
    have gl := G.leads l ml
    obtain ⟨me, hme, eme⟩ : ∃ me : Nat, me < n ∧ l.me = (me : Int) := ⟨l.me.toNat, by have := gl.me; omega, by have := gl.me; omega⟩
    refine ⟨_, rfl, _, rfl, _, _, rfl, .inl ⟨_, SqL.of (S.same _ _ S.fLs), rfl⟩, F, pl 0, s, ns, _, rfl, S.dice, by rw [List.length_map, List.length_range]; omega, by rw [List.length_map, List.length_range]; omega, fun zs H1 zs0 zs1 X1 D1 => ?_⟩
    have S1 := S.drawn X1 D1
    clear X1 D1
    rw [List.length_map, List.length_range] at zs1
    obtain ⟨k, hk, rfl⟩ : ∃ k : Nat, k < n ∧ zs = (k : Int) := ⟨zs.toNat, by omega, by omega⟩
    -- rows
    have Am := S1.seats me hme
    obtain ⟨dx, ra, ob, _⟩ := Am.ob
    refine ⟨_, rfl, _, rfl, dk i, _, rfl, DGet.k (k := Sum.inr "me") (S1.same _ _ (S1.dks i l hl)), Ls, _, _, _, rfl, rfl, SqL.of (S1.same _ _ S1.fLs), by rw [eme]; exact atI_nat (by rw [List.getElem?_map, List.getElem?_range hme]; rfl), pl (6 + me), dx, _, rfl, ob, sl_holds _ _, F, pl (6 + me), (sd me).rs, (sd me).t, rfl, S1.same, Am, fun F2 H2 a vs out X2 na fa ha hp eo => ?_⟩
    subst eo
    have S2 := (S1.quiet (.of X2)).fz (fun i hi => S1.ne na i hi) fa ha
    have ka : upd F2 a (.lst vs) a = some (.lst vs) := upd_same
    have pa : Paired (kRow.is (upd F2 a (.lst vs))) vs (sd me).rs := pr_mono (fun _ _ z => kRow.mono (same_upd fa) z) hp
    have m2 := X2.ff.trans (same_upd (o := .lst vs) fa)
    revert S2 ka pa m2
    generalize upd F2 a (.lst vs) = F3
    intro S2 ka pa m2
    clear X2 na fa ha hp S1 Am ob
    have gme := (G.seats me hme).1
    refine ⟨_, rfl, _, rfl, _, rfl, F3, pl 0, s, ns, 2, rfl, S2.dice, by decide, by decide, fun z H3 z0 z1 X3 D3 => ⟨_, _, rfl, rfl, ?_⟩⟩
    have S3 := S2.drawn X3 D3
    clear X3 D3 S2
    refine ⟨_, rfl, a, vs, rfl, SqL.of (S3.same _ _ ka), fun p np => ?_⟩
    obtain ⟨kc, ekc⟩ : ∃ kc, cutV vs none (some (1 + z)) = vs.take kc := ⟨_, rfl⟩
    have S4 := (S3.quiet ((XM.refl S3.same).tmp (o := .lst (cutV vs none (some (1 + z)))) np)).fz (fun i hi => S3.ne np i hi) (S3.same.free np) upd_same
    rw [ekc] at S4
    rw [ekc]
    have kp4 : upd F3 p (.lst (vs.take kc)) p = some (.lst (vs.take kc)) := upd_same
    have m4 := same_upd (o := .lst (vs.take kc)) (S3.same.free np)
    have pa4 := pr_mono (fun _ _ z => kRow.mono m4 z) pa
    have ka4 := m4 _ _ ka
    have mm4 := m2.trans m4
    revert S4 kp4 pa4 ka4 mm4
    clear m4
    generalize upd F3 p (.lst (vs.take kc)) = F4
    generalize upd H3 p (.lst (vs.take kc)) = H4
    intro S4 kp4 pa4 ka4 mm4
    clear ekc np S3 ka pa m2
    refine ⟨by show 2 ≤ sizeLine; decide, fun l2 nl2 => ?_⟩
    have S5 := S4.quiet ((XM.refl S4.same).tmp (o := .lst [.ref a, .ref p]) nl2)
    have h2 : upd H4 l2 (.lst [.ref a, .ref p]) l2 = some (.lst [.ref a, .ref p]) := upd_same
    have nl20 := S4.ne nl2 0 (by omega)
    revert S5 h2
    generalize upd H4 l2 (.lst [V.ref a, .ref p]) = H5
    intro S5 h2
    refine ⟨_, rfl, F4, pl 0, s, ns, 2, rfl, S5.dice, by decide, by decide, fun z5 H6 z50 z51 X6 D6 => ?_⟩
    have S6 := S5.drawn X6 D6
    have h26 := X6.hh _ _ h2 nl20.symm
    clear X6 D6 S5 S4 h2
    obtain ⟨c5, rows5, hat, kr5, g5, sub5⟩ : ∃ (c5 : Addr) (rows5 : List Row), atI [V.ref a, .ref p] z5 = some (.ref c5) ∧ (kL kRow).is F4 (.ref c5) rows5 ∧ G9 rows5 ∧ ∀ q, mem rows5 q → mem (sd me).rs q := by
      by_cases e : z5 = 0
      · subst e
        exact ⟨a, _, atI_nat (j := 0) rfl, ⟨a, vs, rfl, ka4, pa4⟩, gme, fun q h => h⟩
      · obtain rfl : z5 = 1 := by omega
        refine ⟨p, (sd me).rs.take kc, atI_nat (j := 1) rfl, ⟨p, vs.take kc, rfl, kp4, pr_take _ pa4⟩, ⟨⟨fun r hr => gme.can.ok r (List.mem_of_mem_take hr), gme.can.ord.sublist (List.take_sublist _ _)⟩, fun r hr => gme.box r (List.mem_of_mem_take hr)⟩, fun q ⟨r, hr, h⟩ => ⟨r, List.mem_of_mem_take hr, h⟩⟩
    refine ⟨l2, _, _, _, rfl, rfl, SqL.of h26, hat, ?_⟩
    clear h26 hat nl2 nl20 ka4 pa4 kp4
    have l5 := g5.len
    have hk9 := (G.seats k hk).1
    try dsimp only
    refine seq_join (fun σ H' => ∃ F' sd' v, σ = [some (.ref (pl 0)), some (.ref Ls), some (.ref (dk i)), some v, none, some (.ref c5), some (.int (k : Int))] ∧ T3 K CS CL s ns n pl dk Ls F' H' sd' ls sh ∧ G3 n T' sd' ls sh ∧ More n sd sd' ∧ Same F F' ∧
        ((∃ t z, v = .ref t ∧ H' t = some (.tup z)) ∨ ∃ b us, v = .ref b ∧ F' b = some (.lst us) ∧ Paired (kRow.is F') us (sd' k).rs ∧ (sd' k).t = l.term)) ?_ fun key => ?_
    rotate_left
    · refine ⟨S6.t2, fun H7 g tab => ?_⟩
      have S7 := S6.grow2 g tab
      have A7 := S7.seats k hk
      obtain ⟨dx, ra, ob, _⟩ := A7.ob
      refine ⟨_, rfl, _, rfl, Ls, _, _, _, rfl, rfl, SqL.of (S7.same _ _ S7.fLs), atI_nat (by rw [List.getElem?_map, List.getElem?_range hk]; rfl), pl (6 + k), dx, _, rfl, ob, sl_keep _ _, _, rfl, dk i, _, rfl, DGet.k (k := Sum.inr "term") (S7.same _ _ (S7.dks i l hl)), _, rfl, F4, pl (6 + k), (sd k).rs, (sd k).t, l.term, .ref c5, rows5, rfl, S7.same, A7, kr5, by omega, hk9.can.ok, by have := hk9.len; omega, fun c => ?_, fun c => ⟨fun _ => ?_, fun i hi => (nomatch g5.bad.symm.trans hi)⟩⟩
      · refine EW.plain 7 (by decide) (by decide) (by decide) fun H8 t1 sm nt ht => ?_
        exact key _ _ ⟨F4, sd, _, rfl, S7.quiet (.of (Ext.ofSame S7.same sm)), G, More.refl, mm4, .inl ⟨t1, _, rfl, ht⟩⟩
      · intro F8 H8 b us out X8 A8 fw nb fb hb hp
        have g8 : G9 out := ⟨fw.can, fun r hr => by
          have h1 := (fw.mem _).mp (fw.can.first hr)
          have h2 := (fw.mem _).mp (fw.can.last hr)
          have h3 := fw.can.ok r hr
          have key9 : ∀ q, mem ((sd k).rs ++ rows5) q → Bx q := fun q hq => by
            rcases mem_append.mp hq with h | h
            · exact drawn_bx hk9.box h
            · exact drawn_bx g5.box h
          have b1 := key9 _ h1
          have b2 := key9 _ h2
          unfold Bx at b1 b2
          unfold Drawn
          simp only at b1 b2
          omega⟩
        have S8 := (S7.seat (x := ⟨out, l.term⟩) hk X8 A8).fz (fun i hi => S7.ne nb i hi) fb hb
        have lt0 := G.inv.terms i l hl
        have mo : ∀ p, mem (sd k).rs p → mem out p := fun p m => (fw.mem p).mpr (mem_append.mpr (.inl m))
        exact key _ _ ⟨_, _, _, rfl, S8, G.seat (x := ⟨out, l.term⟩) g8 (by show 0 ≤ l.term; omega) (by show (sd k).t ≤ l.term; omega) mo, more_set mo, mm4.trans (X8.ff.trans (same_upd fb)), .inr ⟨b, us, rfl, upd_same, by rw [setS_same]; exact pr_mono (fun _ _ z => kRow.mono (same_upd fb) z) hp, by rw [setS_same]⟩⟩
    rintro _ H8 ⟨F8, sd8, v8, rfl, S8, G8, mo8, m8, hv8⟩
    clear S6 kr5
    try dsimp only
    refine seq_join (fun σ H' => ∃ F' sd' l' y3, σ = [some (.ref (pl 0)), some (.ref Ls), some (.ref (dk i)), y3, none, some (.ref c5), some (.int (k : Int))] ∧ T3 K CS CL s ns n pl dk Ls F' H' sd' (ls.set i l') sh ∧ G3 n (T' + 1) sd' (ls.set i l') sh ∧ More n sd sd' ∧ Same F F' ∧ l'.term = l.term ∧ l'.bg = l.bg ∧ l'.an = l.an) ?_ fun key => ?_
    rotate_left
    · rcases hv8 with ⟨t, z, rfl, ht⟩ | ⟨b, us, rfl, hb, pb, et⟩
      · refine ⟨_, rfl, _, .ty "list", _, _, _, rfl, .ty _, tyx_tup ht, kit_ty (r := false) (by decide +kernel), false, rfl, iteF ?_⟩
        exact key _ _ ⟨F8, sd8, l, _, rfl, by rw [set_self hl]; exact S8, by rw [set_self hl]; exact G8.up, mo8, m8, rfl, rfl, rfl⟩
      · refine ⟨_, rfl, _, .ty "list", _, _, _, rfl, .ty _, tyx_lst (S8.same _ _ hb), kit_ty (r := true) (by decide +kernel), true, rfl, iteT ?_⟩
        obtain ⟨vl, hlate, _⟩ := S8.late i l hl
        refine ⟨_, rfl, dk i, _, rfl, DGet.k (k := Sum.inr "late") (S8.same _ _ (S8.dks i l hl)), .inl ⟨rfl, _, SqL.of hlate⟩, _, rfl, _, rfl, by show 2 ≤ sizeLine; decide, fun tt ntt => ?_⟩
        have S9 := S8.quiet ((XM.refl S8.same).lay (o := .tup [.int (k : Int), .ref b]) ntt)
        have mt := same_upd (o := .tup [.int (k : Int), .ref b]) (S8.same.free ntt)
        have kt : kTel.is (upd F8 tt (.tup [.int (k : Int), .ref b])) (.ref tt) ((k : Int), (sd8 k).rs) := ⟨tt, .ref b, rfl, upd_same, ⟨b, us, rfl, mt _ _ hb, pr_mono (fun _ _ z => kRow.mono mt z) pb⟩⟩
        revert S9 kt mt
        generalize upd F8 tt (.tup [.int (k : Int), V.ref b]) = F9
        generalize upd H8 tt (.tup [.int (k : Int), V.ref b]) = H9
        intro S9 mt kt
        obtain ⟨vl9, hlate9, pl9⟩ := S9.late i l hl
        have tl9 := G8.tlate l ml
        have S10 := S9.lateX hl (pr_snoc pl9 kt)
        have I10 := G8.inv.told (s := (k : Int)) (rs := (sd8 k).rs) hl (by show (sd8 (Int.toNat (k : Int))).t ≤ l.term; rw [Int.toNat_natCast, et]; exact Int.le_refl _) (fun p m => ⟨by omega, by omega, by rw [Int.toNat_natCast]; exact m⟩)
        have G10 := G8.up.set I10 ⟨gl.an, gl.kp, fun x hx => by
          rcases List.mem_append.mp hx with z | z
          · exact gl.late x z
          · rw [List.mem_singleton.mp z]; exact ⟨by show 0 ≤ (k : Int); omega, by show (k : Int) < (n : Int); omega, (G8.seats k hk).1⟩, gl.me⟩ (by show (l.late ++ [_]).length ≤ _; rw [List.length_append, List.length_singleton]; omega)
        refine ⟨_, _, _, rfl, rfl, hlate9, by rw [pr_len pl9, sizeLine_eq]; omega, ?_⟩
        exact key _ _ ⟨F9, sd8, _, _, rfl, S10, G10, mo8, m8.trans mt, rfl, rfl, rfl⟩
    rintro _ H9 ⟨F9, sd9, l9, y3, rfl, S9, G9', mo9, m9, t9, b9, a9⟩
    have hl9 : (ls.set i l9)[i]? = some l9 := get_set il
    have ml9 := List.mem_of_getElem? hl9
    have tl9 := G9'.tlate l9 ml9
    have gl9 := G9'.leads l9 ml9
    obtain ⟨vl, hlate, pl9⟩ := S9.late i l9 hl9
    have lpl := pr_len pl9
    refine ⟨_, rfl, dk i, _, rfl, DGet.k (k := Sum.inr "late") (S9.same _ _ (S9.dks i l9 hl9)), Nat.zero_le _, fun e0 ne0 => ?_⟩
    have X10 := (XM.refl (M := M0) S9.same).tmp (o := .lst []) ne0
    have S10 := S9.quiet X10
    have hlate10 := X10.hh _ _ hlate id
    have he0 : upd H9 e0 (.lst []) e0 = some (.lst []) := upd_same
    revert S10 hlate10 he0
    generalize upd H9 e0 (.lst []) = H10
    intro S10 hlate10 he0
    refine ⟨_, e0, vl, rfl, rfl, SqL.of hlate10, SqL.of he0, _, rfl, ?_⟩
    clear X10 hlate S9
    cases hE : vl.isEmpty with
    | true => exact iteF (iteF (q F9 H10 sd9 l9 S10 G9' mo9 m9 t9 b9 a9))
    | false =>
      have vne : 0 < vl.length := by
        cases vl with
        | nil => cases hE
        | cons a b => exact Nat.succ_pos _
      refine iteT ?_
      obtain ⟨dx, ob⟩ := (S10.lead i l9 hl9).ob
      refine ⟨_, rfl, dk i, _, rfl, DGet.k (k := Sum.inr "lead") (S10.same _ _ (S10.dks i l9 hl9)), _, dx, _, rfl, ob, ll_leads _ _ _ _, F9, _, _, _, (n : Int), l9.an, l9.kp, l9.bg, rfl, S10.lead i l9 hl9, l9.bg, rfl, ?_⟩
      cases hbg : l9.bg with
      | false => exact iteF (iteF (q F9 H10 sd9 l9 S10 G9' mo9 m9 t9 b9 a9))
      | true =>
        refine iteT ⟨_, rfl, F9, pl 0, s, ns, 4, rfl, S10.dice, by decide, by decide, fun z H11 z0 z1 X11 D11 => ⟨_, _, rfl, rfl, _, rfl, ?_⟩⟩
        have S11 := S10.drawn X11 D11
        have hlate11 := X11.hh _ _ hlate10 fun e => by
          have := S10.inj _ _ (by rw [List.length_set]; omega) (by omega) e
          omega
        clear X11 D11
        refine iteL (fun c => ?_) (fun c => q F9 H11 sd9 l9 S11 G9' mo9 m9 t9 b9 a9)
        refine ⟨_, rfl, dk i, _, rfl, DGet.k (k := Sum.inr "late") (S11.same _ _ (S11.dks i l9 hl9)), .inl ⟨rfl, _, SqL.of hlate11⟩, _, rfl, _, rfl, dk i, _, rfl, DGet.k (k := Sum.inr "late") (S11.same _ _ (S11.dks i l9 hl9)), _, _, rfl, .inl ⟨vl, SqL.of hlate11, rfl⟩, F9, pl 0, s, ns, _, rfl, S11.dice, by omega, by omega, fun zj H12 zj0 zj1 X12 D12 => ?_⟩
        have S12 := S11.drawn X12 D12
        have hlate12 := X12.hh _ _ hlate11 fun e => by
          have := S11.inj _ _ (by rw [List.length_set]; omega) (by omega) e
          omega
        clear X12 D12 S11 S10 hlate10 hlate11 ob
        have hj : zj.toNat < l9.late.length := by omega
        have hj9 : l9.late[zj.toNat]? = some l9.late[zj.toNat] := List.getElem?_eq_getElem hj
        generalize l9.late[zj.toNat] = x9 at hj9
        obtain ⟨y, hy, ⟨tq, va, rfl, htq, kva⟩⟩ := pr_get' pl9 hj9
        refine ⟨_, vl, zj, zj.toNat, _, rfl, rfl, hlate12, by omega, by omega, seqT_at zj0 zj1, hy, ?_⟩
        have S13 := S12.lateX hl9 (prT_erase zj.toNat pl9)
        have hl13 : ((ls.set i l9).set i (⟨l9.term, l9.me, l9.an, l9.kp, l9.bg, l9.late.eraseIdx zj.toNat⟩ : Ld))[i]? = some ⟨l9.term, l9.me, l9.an, l9.kp, l9.bg, l9.late.eraseIdx zj.toNat⟩ := get_set (by rw [List.length_set]; exact il)
        revert S13
        generalize upd H12 (pl (6 + n + 4 * i + 3)) (.lst (vl.eraseIdx zj.toNat)) = H13
        intro S13
        clear S12 hlate12
        have L13 := S13.lead i _ hl13
        obtain ⟨dx, ob⟩ := L13.ob
        obtain ⟨r0, r1, g9x⟩ := gl9.late x9 (List.mem_of_getElem? hj9)
        have lkp := (G9'.inv.kp l9 ml9).len
        have eok : EOk l9.kp := ⟨by omega, fun e he => ⟨(gl9.kp e he).can.ok, by have := (gl9.kp e he).len; omega⟩⟩
        have hold : ∀ r ∈ ((valE l9.kp x9.1).map (·.rs)).getD [], Drawn 3 9 r := fun r hr => by
          cases hv : valE l9.kp x9.1 with
          | none => rw [hv] at hr; exact absurd hr (by simp)
          | some e =>
            rw [hv] at hr
            exact (gl9.kp e (List.mem_of_find?_eq_some hv)).box r hr
        refine ⟨_, rfl, dk i, _, rfl, DGet.k (k := Sum.inr "lead") (S13.same _ _ (S13.dks i _ hl13)), _, dx, _, rfl, ob, ll_kept _ _ _ _, _, rfl, tq, _, _, _, rfl, rfl, SqT.of (S13.same _ _ htq), atI_nat (j := 0) rfl, _, rfl, tq, _, _, _, rfl, rfl, SqT.of (S13.same _ _ htq), atI_nat (j := 1) rfl,
          F9, _, _, _, (n : Int), l9.an, l9.kp, l9.bg, x9.1, va, rfl, S13.same, L13, eok, fun z => absurd ⟨r0, r1⟩ z, fun _ => ⟨x9.2, [], kva, by have := g9x.len; omega, fun j hj => (nomatch g9x.bad.symm.trans hj), fun _ => ⟨fun z => (nomatch hbg.symm.trans z), fun _ F14 H14 rs14 X14 fw A14 => ?_⟩⟩⟩
        have g14 := G9.of fw hold g9x.box
        have S14 := S13.leadX (r := 2) (l' := ⟨l9.term, l9.me, l9.an, putE l9.kp ⟨x9.1, rs14, []⟩, l9.bg, l9.late.eraseIdx zj.toNat⟩) hl13 (by decide) X14 rfl rfl rfl A14
        rw [List.set_set, List.set_set] at S14
        have I14 := G9'.inv.comes (s := x9.1) (rs := x9.2) (rsn := rs14) (ps := []) hl9 hj9 r0 r1 rfl fun p => (fw.mem p).trans mem_append
        have G14 := G9'.set I14 ⟨gl9.an, G9.put gl9.kp g14, fun y hy => gl9.late y (List.mem_of_mem_eraseIdx hy), gl9.me⟩ (by have := List.length_eraseIdx_le l9.late zj.toNat; show (l9.late.eraseIdx zj.toNat).length ≤ _; omega)
        rw [List.set_set] at G14
        exact q F14 H14 sd9 _ S14 G14 mo9 (m9.trans X14.ff) t9 b9 a9
end
end Rw
namespace Rw
open PySem PySem.Spec PyProof.Rows L2
/-! ### the seats that were made so far -/
def Vis3 (k i : Nat) : Prop := i < 4 ∨ (6 ≤ i ∧ i < 6 + k)
structure P3 (K : PySem.W.Frag) (CS s : Addr) (ns : List Int) (k : Nat) (pl : Nat → Addr) (F H : Hp) : Prop where
  inj : ∀ i j, Vis3 k i → Vis3 k j → pl i = pl j → i = j
  dice : DiceAt K F H (pl 0) s ns
  t1 : LamX.TabS H (pl 1) qAsk
  f1 : F (pl 1) = none
  t2 : LamX.TabS H (pl 2) qBring
  f2 : F (pl 2) = none
  t3 : LamX.TabS H (pl 3) qLaw23
  f3 : F (pl 3) = none
  seats : ∀ j, j < k → SeatAt K CS F H (pl (6 + j)) [] 0
section
variable {K : PySem.W.Frag} {CS CL s : Addr} {ns : List Int} {k : Nat} {pl : Nat → Addr} {F H F' H' : Hp}
theorem P3.quiet (S : P3 K CS s ns k pl F H) (X : XM M0 F H F' H') : P3 K CS s ns k pl F' H' := by
  obtain ⟨p1, h1, _⟩ := S.t1
  obtain ⟨p2, h2, _⟩ := S.t2
  obtain ⟨p3, h3, _⟩ := S.t3
  exact ⟨S.inj, S.dice.xm X id, TabS.xm3 S.t1 X id fun _ _ _ m => m.elim, by rw [X.nw _ _ h1 fun xs z => by cases z]; exact S.f1, TabS.xm3 S.t2 X id fun _ _ _ m => m.elim, by rw [X.nw _ _ h2 fun xs z => by cases z]; exact S.f2,
    TabS.xm3 S.t3 X id fun _ _ _ m => m.elim, by rw [X.nw _ _ h3 fun xs z => by cases z]; exact S.f3, fun j hj => (S.seats j hj).xm X id⟩
theorem P3.full (S : P3 K CS s ns k pl F H) : ∀ i, Vis3 k i → H (pl i) ≠ none := by
  intro i hi
  obtain ⟨_, _, _, h0, _⟩ := S.dice.ex
  obtain ⟨p1, h1, _⟩ := S.t1
  obtain ⟨p2, h2, _⟩ := S.t2
  obtain ⟨p3, h3, _⟩ := S.t3
  by_cases c : i < 4
  · match i, c with
    | 0, _ => rw [h0]; simp
    | 1, _ => rw [h1]; simp
    | 2, _ => rw [h2]; simp
    | 3, _ => rw [h3]; simp
  · have hi' : 6 ≤ i ∧ i < 6 + k := hi.elim (fun z => absurd z c) id
    obtain ⟨dx, ra, ob, _⟩ := (S.seats (i - 6) (by omega)).ob
    rw [show i = 6 + (i - 6) by omega, ob]; simp
theorem P3.drawn (S : P3 K CS s ns k pl F H) (X : Ext (· = pl 0) F H F' H') (D : DiceAt K F' H' (pl 0) s ns) : P3 K CS s ns k pl F' H' := by
  obtain ⟨i, m, r, hd, _⟩ := S.dice.ex
  obtain ⟨p1, h1, _⟩ := S.t1
  obtain ⟨p2, h2, _⟩ := S.t2
  obtain ⟨p3, h3, _⟩ := S.t3
  have Y := XM.of X
  have nn : ∀ i, Vis3 k i → 0 ≠ i → ¬ (pl i = pl 0) := fun i hi ne e => ne (S.inj i 0 hi (.inl (by decide)) e).symm
  have hc : ∀ c o, H c = some o → c = pl 0 → ∀ φ, o ≠ .ext φ := fun c o h e φ z => by
    subst e; subst z; rw [hd] at h; cases h
  exact ⟨S.inj, D, TabS.xm3 S.t1 Y (nn 1 (.inl (by decide)) (by decide)) hc, by rw [Y.nw _ _ h1 fun xs z => by cases z]; exact S.f1, TabS.xm3 S.t2 Y (nn 2 (.inl (by decide)) (by decide)) hc, by rw [Y.nw _ _ h2 fun xs z => by cases z]; exact S.f2,
    TabS.xm3 S.t3 Y (nn 3 (.inl (by decide)) (by decide)) hc, by rw [Y.nw _ _ h3 fun xs z => by cases z]; exact S.f3, fun j hj => (S.seats j hj).xm Y (nn _ (.inr ⟨by omega, by omega⟩) (by omega))⟩
theorem P3.app {a : Addr} {vs ys : List V} (S : P3 K CS s ns k pl F H) (ne : ∀ i, Vis3 k i → pl i ≠ a) (f : F a = none) (ha : H a = some (.lst vs)) : P3 K CS s ns k pl F (upd H a (.lst ys)) := by
  have X := (XM.refl (M := (· = a)) S.dice.fh).put (p := a) (o := .lst ys) (.inr rfl) f
  have hc : ∀ c o, H c = some o → c = a → ∀ φ, o ≠ .ext φ := fun c o h e φ z => by
    subst e; subst z; rw [ha] at h; cases h
  exact ⟨S.inj, S.dice.xm X (ne 0 (.inl (by decide))), TabS.xm3 S.t1 X (ne 1 (.inl (by decide))) hc, S.f1, TabS.xm3 S.t2 X (ne 2 (.inl (by decide))) hc, S.f2, TabS.xm3 S.t3 X (ne 3 (.inl (by decide))) hc, S.f3, fun j hj => (S.seats j hj).xm X (ne _ (.inr ⟨by omega, by omega⟩))⟩
theorem P3.fz {b : Addr} {vs : List V} (S : P3 K CS s ns k pl F H) (ne : ∀ i, Vis3 k i → pl i ≠ b) (f : F b = none) (hb : H b = some (.lst vs)) : P3 K CS s ns k pl (upd F b (.lst vs)) H := by
  have m := same_upd (o := .lst vs) f
  have fr : ∀ i, Vis3 k i → upd F b (.lst vs) (pl i) = F (pl i) := fun i hi => upd_ne (ne i hi)
  refine ⟨S.inj, S.dice.fz (ne 0 (.inl (by decide))) f hb, S.t1, by rw [fr 1 (.inl (by decide))]; exact S.f1, S.t2, by rw [fr 2 (.inl (by decide))]; exact S.f2, S.t3, by rw [fr 3 (.inl (by decide))]; exact S.f3, fun j hj => ?_⟩
  obtain ⟨dx, ra, ob, kr⟩ := (S.seats j hj).ob
  exact ⟨⟨dx, ra, ob, (kL kRow).mono m kr⟩, by rw [fr _ (.inr ⟨by omega, by omega⟩)]; exact (S.seats j hj).fp⟩
/-- one more seat, at x -/
def addS (k : Nat) (pl : Nat → Addr) (x : Addr) : Nat → Addr := fun i => if i = 6 + k then x else pl i
theorem P3.add {x : Addr} (S : P3 K CS s ns k pl F H) (X : XM M0 F H F' H') (hx : H x = none) (A : SeatAt K CS F' H' x [] 0) : P3 K CS s ns (k + 1) (addS k pl x) F' H' := by
  have T := S.quiet X
  have sm := S.full
  have o : ∀ i, i ≠ 6 + k → addS k pl x i = pl i := fun i hi => if_neg hi
  have o0 := o 0 (by omega)
  have o1 := o 1 (by omega)
  have o2 := o 2 (by omega)
  have o3 := o 3 (by omega)
  refine ⟨fun i j hi hj e => ?_, by rw [o0]; exact T.dice, by rw [o1]; exact T.t1, by rw [o1]; exact T.f1, by rw [o2]; exact T.t2, by rw [o2]; exact T.f2, by rw [o3]; exact T.t3, by rw [o3]; exact T.f3, fun j hj => ?_⟩
  · have vi : i ≠ 6 + k → Vis3 k i := fun z => hi.imp id fun y => ⟨y.1, by omega⟩
    have vj : j ≠ 6 + k → Vis3 k j := fun z => hj.imp id fun y => ⟨y.1, by omega⟩
    by_cases ci : i = 6 + k
    · by_cases cj : j = 6 + k
      · omega
      · rw [o j cj, ci] at e
        have e' : x = pl j := by rw [← e]; exact (if_pos rfl).symm
        exact absurd (by rw [← e']; exact hx) (sm j (vj cj))
    · by_cases cj : j = 6 + k
      · rw [o i ci, cj] at e
        have e' : pl i = x := e.trans (if_pos rfl)
        exact absurd (by rw [e']; exact hx) (sm i (vi ci))
      · rw [o i ci, o j cj] at e
        exact S.inj i j (vi ci) (vj cj) e
  · by_cases c : j = k
    · subst c
      show SeatAt K CS F' H' (if 6 + j = 6 + j then x else pl (6 + j)) [] 0
      rw [if_pos rfl]; exact A
    · rw [o _ (by omega)]
      exact T.seats j (by omega)
/-- all seats stand; the leads' list and the shown ones' at L and M; the seats' list at Ls never changes from now on -/
theorem P3.whole {L M Ls : Addr} (S : P3 K CS s ns k pl F H) (fLs : F Ls = some (.lst ((List.range k).map fun j => .ref (pl (6 + j))))) (hL : H L = some (.lst [])) (fL : F L = none) (hM : H M = some (.lst [])) (fM : F M = none) (LM : L ≠ M) (nL : ∀ i, Vis3 k i → pl i ≠ L) (nM : ∀ i, Vis3 k i → pl i ≠ M) :
    T3 K CS CL s ns k (fun i => if i = 4 then L else if i = 5 then M else pl i) (fun _ => L) Ls F H (fun _ => ⟨[], 0⟩) [] [] := by
  refine ⟨fun i j hi hj e => ?_, S.dice, S.t1, S.f1, S.t2, S.f2, S.t3, S.f3, hL, fL, ⟨[], hM, .nil⟩, fM, fun j hj => ?_, ?_, fun i l h => absurd h (by simp), fun i l h => absurd h (by simp), fun i l h => absurd h (by simp), fun i l h => absurd h (by simp)⟩
  · simp only [List.length_nil, Nat.mul_zero, Nat.add_zero] at hi hj
    have v : ∀ i, i < 6 + k → i ≠ 4 → i ≠ 5 → Vis3 k i := fun i h a b => by
      by_cases c : i < 4
      · exact .inl c
      · exact .inr ⟨by omega, h⟩
    by_cases i4 : i = 4
    · by_cases j4 : j = 4
      · omega
      · by_cases j5 : j = 5
        · subst i4 j5; exact absurd e LM
        · simp only [i4, if_true, j4, j5, if_false] at e
          exact absurd e.symm (nL j (v j hj j4 j5))
    · by_cases i5 : i = 5
      · by_cases j4 : j = 4
        · subst i5 j4; exact absurd e.symm LM
        · by_cases j5 : j = 5
          · omega
          · subst i5
            simp only [show ¬ (5 : Nat) = 4 by decide, if_false, if_true, j4, j5] at e
            exact absurd e.symm (nM j (v j hj j4 j5))
      · by_cases j4 : j = 4
        · subst j4
          simp only [i4, i5, if_false, if_true] at e
          exact absurd e (nL i (v i hi i4 i5))
        · by_cases j5 : j = 5
          · subst j5
            simp only [i4, i5, if_false, show ¬ (5 : Nat) = 4 by decide, if_true] at e
            exact absurd e (nM i (v i hi i4 i5))
          · simp only [i4, i5, j4, j5, if_false] at e
            exact S.inj i j (v i hi i4 i5) (v j hj j4 j5) e
  · show SeatAt K CS F H (if 6 + j = 4 then L else if 6 + j = 5 then M else pl (6 + j)) [] 0
    rw [if_neg (by omega), if_neg (by omega)]
    exact S.seats j hj
  · rw [fLs]
    refine congrArg (fun l => some (HO.lst l)) (List.map_congr_left fun j _ => ?_)
    show V.ref (pl (6 + j)) = V.ref (if 6 + j = 4 then L else if 6 + j = 5 then M else pl (6 + j))
    rw [if_neg (by omega), if_neg (by omega)]
/-- nothing was led so far -/
theorem G3.start {n : Nat} (n2 : 2 ≤ n) (n6 : n ≤ 6) : G3 n 0 (fun _ => ⟨[], 0⟩) [] [] :=
  ⟨n2, n6, ⟨by omega, fun i l h => absurd h (by simp), fun l h => absurd h (by simp), fun l h => absurd h (by simp), fun l h => absurd h (by simp), fun l h => absurd h (by simp), fun x h => absurd h (by simp), fun l h => absurd h (by simp)⟩,
    fun k hk => ⟨⟨.nil, fun r h => absurd h (by simp)⟩, Int.le_refl _⟩, fun l h => absurd h (by simp), Nat.le_refl _, fun l h => absurd h (by simp), Nat.le_refl _⟩
end
end Rw
namespace Rw
open PySem PySem.Spec PyProof.Rows L2
theorem cntT_pos {p : Pt} : ∀ {sets : List (List Row)}, 1 ≤ cnt sets p → ∃ rs ∈ sets, mem rs p
  | [], h => absurd h (by show ¬ (1 : Int) ≤ 0; decide)
  | q :: sets, h => by
    have e : cnt (q :: sets) p = ind (mem q p) + cnt sets p := rfl
    rw [e] at h
    rcases ind_or (mem q p) with ⟨m, z⟩ | ⟨m, z⟩
    · exact ⟨q, List.mem_cons_self, m⟩
    · rw [z] at h
      obtain ⟨rs, hr, m⟩ := cntT_pos (p := p) (sets := sets) (by omega)
      exact ⟨rs, List.mem_cons_of_mem _ hr, m⟩
theorem G9.held {sets : List (List Row)} {least : Int} {rs : List Row} (h1 : 1 ≤ least) (fw : Held sets least rs) (hs : ∀ r ∈ sets, G9 r) : G9 rs := ⟨fw.can, fun r hr => by
  have h1' := (fw.mem _).mp (fw.can.first hr)
  have h2' := (fw.mem _).mp (fw.can.last hr)
  have h3 := fw.can.ok r hr
  have key9 : ∀ q, least ≤ cnt sets q → Bx q := fun q hq => by
    obtain ⟨r0, hr0, m⟩ := cntT_pos (show 1 ≤ cnt sets q by omega)
    exact drawn_bx (hs r0 hr0).box m
  have b1 := key9 _ h1'
  have b2 := key9 _ h2'
  unfold Bx at b1 b2
  unfold Drawn
  simp only at b1 b2
  omega⟩
theorem G9.rok {rs : List Row} (g : G9 rs) : RowsOk rs := ⟨by have := g.len; omega, drawn_ok g.box⟩
section
variable {n T : Nat} {sd : Nat → Ss} {ls : List Ld} {sh : List (Int × List Row)} {l : Ld}
theorem G3.eokA (G : G3 n T sd ls sh) (hl : l ∈ ls) : EOk l.an := ⟨by
  have := (G.inv.an l hl).len
  have := G.n6
  omega, fun e he => ⟨((G.leads l hl).an e he).can.ok, by have := ((G.leads l hl).an e he).len; omega⟩⟩
theorem G3.eokK (G : G3 n T sd ls sh) (hl : l ∈ ls) : EOk l.kp := ⟨by
  have := (G.inv.kp l hl).len
  have := G.n6
  omega, fun e he => ⟨((G.leads l hl).kp e he).can.ok, by have := ((G.leads l hl).kp e he).len; omega⟩⟩
theorem G3.must9 {rs : List Row} (G : G3 n T sd ls sh) (hl : l ∈ ls) (fw : Held (l.an.map (·.rs)) 1 rs) : G9 rs := .held (Int.le_refl _) fw fun r hr => by
  obtain ⟨e, he, rfl⟩ := List.mem_map.mp hr
  exact (G.leads l hl).an e he
theorem G3.shown9 {rs : List Row} (G : G3 n T sd ls sh) (hl : l ∈ ls) (fw : Held (l.kp.map (·.rs)) ((n : Int) / 2 + 1) rs) : G9 rs := .held (by have := G.n2; omega) fw fun r hr => by
  obtain ⟨e, he, rfl⟩ := List.mem_map.mp hr
  exact (G.leads l hl).kp e he
theorem G3.show {rs : List Row} (G : G3 n T sd ls sh) (hl : l ∈ ls) (h : ∀ p, mem rs p → (n : Int) / 2 + 1 ≤ cnt (l.kp.map (·.rs)) p) (hT : sh.length + 1 ≤ T) : G3 n T sd ls (sh ++ [(l.term, rs)]) :=
  ⟨G.n2, G.n6, G.inv.show hl h, G.seats, G.leads, G.tl, G.tlate, by rw [List.length_append]; exact hT⟩
theorem G3.begin {i : Nat} (G : G3 n T sd ls sh) (hi : ls[i]? = some l) (h : (n : Int) / 2 + 1 ≤ (l.an.length : Int)) : G3 n T sd (ls.set i ⟨l.term, l.me, l.an, l.kp, true, l.late⟩) sh := by
  have ml := List.mem_of_getElem? hi
  have g := G.leads l ml
  exact G.set (G.inv.begin hi h) ⟨g.an, g.kp, g.late, g.me⟩ (G.tlate l ml)
theorem G3.le {T' : Nat} (G : G3 n T sd ls sh) (h : T ≤ T') : G3 n T' sd ls sh := ⟨G.n2, G.n6, G.inv, G.seats, G.leads, by have := G.tl; omega, fun l hl => by have := G.tlate l hl; omega, by have := G.tsh; omega⟩
end
end Rw
set_option maxHeartbeats 4000000
namespace Rw
open PySem PySem.Spec PyProof.Rows L2
abbrev N23L : List Str := ["_law_script", "_law_d", "_law_seats", "_law_leads", "_law_shown", "_law_turn", "_law_ahead", "_law_kind", "_law_must", "_law_rows", "_law_other", "_law_lead", "_law_seat", "_law_term", "_law_k"]
theorem but_seqT {K : PySem.W.Frag} {H : Hp} {s p : Addr} {ns : List V} {pp : Array Value} (hP : H p = some (.tbl pp)) (h : SqL K H s ns) : SqL K (but H p) s ns := by
  rcases h with (h | ⟨o, h⟩) | h
  · exact .inl (.inl (by rw [but_at fun e => by rw [e, hP] at h; cases h]; exact h))
  · exact .inl (.inr ⟨o, by rw [but_at fun e => by rw [e, hP] at h; cases h]; exact h⟩)
  · exact .inr h
def spLaw23 (K : PySem.W.Frag) (Pa Pb Pl : Addr) : Sp := fun vs H Q _ => ∃ (s : Addr) (ns : List Int), vs = [.ref s] ∧ SqL K H s (ns.map V.int) ∧ H Pa = some (.tbl #[]) ∧ H Pb = some (.tbl #[]) ∧ H Pl = some (.tbl #[]) ∧ Pa ≠ Pb ∧ Pa ≠ Pl ∧ Pb ≠ Pl ∧ ∀ H', Q (.bl true) H'
structure Deps23L (P : Program) (w : World) (K : PySem.W.Frag) (mg : Str → Option Value) (base : Heap) (CS CL Pa Pb Pl : Addr) : Prop where
  dice : Cal P w K mg base 1 "_law_dice" ["_law_script"] (spDice K)
  next : Cal P w K mg base 1 "_law_next" ["_law_dice_here", "_law_many"] (spNext K)
  within : Cal P w K mg base 6 "within" ["one", "other"] spWithin
  ask : Cal P w K mg base 7 "_law_ask" ["_law_d", "_law_seats", "_law_leads"] (spAsk23 K CS CL Pa Pb Pl)
  bring : Cal P w K mg base 10 "_law_bring" ["_law_d", "_law_seats", "_law_lead"] (spBring23 K CS CL Pa Pb Pl)
  holds : CalM P w K mg base CS 1 "holds" ["self"] (spHolds K CS)
  hold : CalMX P w K mg base CS 6 "hold" ["self", "rows"] (spHold K CS)
  must : CalMX P w K mg base CL 5 "must" ["self"] (spMust K CL)
  shown : CalMX P w K mg base CL 5 "shown" ["self"] (spShown K CL)
  begin : CalMX P w K mg base CL 6 "begin" ["self", "rows"] (spBegin K CL)
  leads : CalM P w K mg base CL 1 "leads" ["self"] (spLeads CL)
section
variable {P : Program} {w : World} {K : PySem.W.Frag} {mg : Str → Option Value} {base : Heap} {CS CL Pa Pb Pl : Addr}
theorem ok_law {f c : Addr} {fd : FuncData} {fIS : Addr} {fdIS : FuncData} {ft : Addr} {fdt : FuncData} (F0 : FunC K "law" "law" s_law f c fd) (TBl : LamX.TabB base mg c Pl) (T : TxS K mg CS) (TQ : TxQ K mg CL) (TU : TxV mg) (TC : ToldC K mg) (Ft : Fun K "_law_told" "_law_told" s_law_told ft fdt) (gt : mg "_law_told" = some (.ref ft))
    (D : Deps23L P w K mg base CS CL Pa Pb Pl) (MKS : Mk K CS fIS) (gSS : mg "Seat" = some (.ref CS)) (GIS : FnOk P w K mg base CX0 1 fIS fdIS ["self"] (spSInit CS K)) (bIS : Binds K fdIS ["self"] []) :
    FnOk P w K mg base CX0 11 f fd ["_law_script"] (spLaw23 K Pa Pb Pl) := by
  obtain ⟨fD, fdD, GD, gD, kpD, bD⟩ := D.dice
  obtain ⟨fN, fdN, GN, gN, kpN, bN⟩ := D.next
  obtain ⟨fW, fdW, GW, gW, kpW, bW⟩ := D.within
  obtain ⟨fA, fdA, GA, gA, kpA, bA⟩ := D.ask
  obtain ⟨fBr, fdBr, GBr, gBr, kpBr, bBr⟩ := D.bring
  obtain ⟨fO, fdO, GO, mO, bO⟩ := D.holds
  obtain ⟨fHo, fdHo, GHo, mHo, bHo⟩ := D.hold
  obtain ⟨fM, fdM, GM, mM, bM⟩ := D.must
  obtain ⟨fS, fdS, GS, mS, bS⟩ := D.shown
  obtain ⟨fB, fdB, GB, mB, bB⟩ := D.begin
  obtain ⟨fE, fdE, GE, mE, bE⟩ := D.leads
  refine F0.ok sc_law (fun vs H Q E h => ?_) (fun A outer s0 H vs Q E hr h => ?_)
  · obtain ⟨s, ns, rfl, _⟩ := h
    rfl
  · obtain ⟨s, ns, rfl, hs, hta, htb, htl, n1, n2, n3, q⟩ := h
    have hr1 : Room 1 _ := hr.mono (by decide)
    have hr2 : Room 2 _ := hr.mono (by decide)
    have hr5 : Room 5 _ := hr.mono (by decide)
    have hr6 : Room 6 _ := hr.mono (by decide)
    have hr7 : Room 7 _ := hr.mono (by decide)
    have hu := hu_of hr
    have hu0 : (A.deeper (PyProof.Rows.envOfC "law" (defScope s_law) s0.heap.objs.size f (.ref c))).units < cLine := by omega
    refine ⟨_, (pss_cons (ps_set (i := 1) sc_law.nd rfl (.inl rfl) (pe_call GD hr1 (by rfl) gD kpD bD .nil pass0 (pa_cons (pv 0) pa_nil)))
      (pss_cons (ps_set (i := 2) sc_law.nd rfl (.inr rfl) (pe_lc (own := [("_law_seat", 12)]) (g := gName 12) (tt := tYes) (te := (tMake CS (spSInit CS K) [] E0 tNil)) (by rfl) sc_law.nd (pi_range1 (by rfl) TU.range (pa_cons (pe_op op_add pe_int (pe_call GN hr1 (by rfl) gN kpN bN .nil pass0 (pa_cons (pv 1) (pa_cons pe_int pa_nil)))) pa_nil))
        (blkOk_by (own := [("_law_seat", 12)]) (N := N23L) (sc := defScope s_law) (by decide +kernel)) (fun _ _ _ _ _ => (pg_name (i := 12) sc_law.nd rfl (.inl rfl))) (fun _ _ _ _ _ => pts_nil) (fun _ _ _ _ _ => (pe_make0 MKS GIS hr2 (by rfl) gSS bIS .nil pass0))))
      (pss_cons (ps_set (i := 3) sc_law.nd rfl (.inl rfl) (pe_lst pa_nil))
      (pss_cons (ps_set (i := 4) sc_law.nd rfl (.inl rfl) (pe_lst pa_nil))
      (pss_cons (ps_for PassesOwn.never rfl (pi_range1 (by rfl) TU.range (pa_cons (pe_call GN hr1 (by rfl) gN kpN bN .nil pass0 (pa_cons (pv 1) (pa_cons pe_int pa_nil))) pa_nil)) (pg_name (i := 5) sc_law.nd rfl (.inl rfl))
      (pss_cons (ps_set (i := 6) sc_law.nd rfl (.inr rfl) (pe_lc (own := [("_law_seat", 12)]) (g := gName 12) (tt := tYes) (te := (tMeth CS "holds" (spHolds K CS) [] E0 (tVar 12) tNil)) (by rfl) sc_law.nd (pi_list (pv 2))
        (blkOk_by (own := [("_law_seat", 12)]) (N := N23L) (sc := defScope s_law) (by decide +kernel)) (fun _ _ _ _ _ => (pg_name (i := 12) sc_law.nd rfl (.inl rfl))) (fun _ _ _ _ _ => pts_nil) (fun _ _ _ _ _ => (pe_meth0 (pv 12) T.cl mO GO hr1 bO .nil pass0))))
      (pss_cons (ps_set (i := 7) sc_law.nd rfl (.inl rfl) (pe_call GN hr1 (by rfl) gN kpN bN .nil pass0 (pa_cons (pv 1) (pa_cons pe_int pa_nil))))
      (pss_cons (ps_if (PW.pt (pw_or (pt_cmpR op_eq (pv 7) pe_int (nomark _)) (pw_or1 (pt_cmpR (op_eqL0 hu0) (pv 3) (pe_lst pa_nil) (by rfl))))) (pss_one (ps_expr (pe_meth (pe_ix ix_list (pv 2) (pe_call GN hr1 (by rfl) gN kpN bN .nil pass0 (pa_cons (pv 1) (pa_cons (pe_callB call_len (by rfl) TU.len PySem.boot_len (pa_cons (pv 2) pa_nil)) pa_nil))) (fun _ _ => rfl)) T.cl mHo GHo hr6 bHo .nil pass_not (pa_cons (pe_slice sl_list (pe_lst (pa_cons (pe_tup (pa_cons (pe_call GN hr1 (by rfl) gN kpN bN .nil pass0 (pa_cons (pv 1) (pa_cons pe_int pa_nil))) (pa_cons pe_int (pa_cons (pe_op op_add pe_int (pe_call GN hr1 (by rfl) gN kpN bN .nil pass0 (pa_cons (pv 1) (pa_cons pe_int pa_nil)))) pa_nil)))) pa_nil)) po_none (po_some (pe_op op_add (pe_call GN hr1 (by rfl) gN kpN bN .nil pass0 (pa_cons (pv 1) (pa_cons pe_int pa_nil))) pe_int))) pa_nil)))) pss_nil)
      (pss_cons (ps_if (pt_cmpR op_lt (pv 7) pe_int (nomark _)) (pss_one (ps_expr (pe_call GA hr7 (by rfl) gA kpA bA .nil pass0 (pa_cons (pv 1) (pa_cons (pv 2) (pa_cons (pv 3) pa_nil)))))) pss_nil)
      (pss_cons (ps_set (i := 11) sc_law.nd rfl (.inr rfl) (pe_ifExp (pt_cmpR (op_neL0 hu0) (pv 3) (pe_lst pa_nil) (by rfl)) (pe_ix ix_list (pv 3) (pe_callB (call_max2 (by rfl)) (by rfl) TU.max (by decide +kernel) (pa_cons pe_int (pa_cons (pe_op op_sub (pe_op op_sub (pe_callB call_len (by rfl) TU.len PySem.boot_len (pa_cons (pv 3) pa_nil)) pe_int) (pe_call GN hr1 (by rfl) gN kpN bN .nil pass0 (pa_cons (pv 1) (pa_cons pe_int pa_nil)))) pa_nil))) (fun _ _ => rfl)) pe_non))
      (pss_cons (ps_if (PW.pt (pw_and (pt_cmp (pc_notN (pv 11)) (by rfl)) (pw_and1 (pt_cmpR op_eq (pv 7) pe_int (nomark _))))) (pss_cons (ps_set (i := 8) sc_law.nd rfl (.inr rfl) (pe_told1 (k := 5) .no TC Ft (by rfl) gt hr7 TBl rfl (by kernel_rfl) ⟨rfl, rfl⟩ (fun _ _ _ _ _ _ => rfl) fun E A outer s H f c' hr5 =>
        pe_meth0 (pe_dget (hu_of hr5) (pv 11) pe_str (fun _ _ => rfl)) TQ.cl mM GM hr5 bM .nil (passes_call (E := E) (takes_of rfl rfl rfl rfl) fun _ _ _ _ h => h)))
      (pss_one (ps_if (PW.pt (pw_and (pt_val (pe_callB call_isi (by rfl) TU.isinst (by decide +kernel) (pa_cons (pv 8) (pa_cons (pe_bty (by rfl) TU.list bt_list) pa_nil)))) (pw_and1 (pt_not (pt_val (pe_meth0 (pe_dget hu (pv 11) pe_str (fun _ _ => rfl)) TQ.cl mE GE hr1 bE .nil pass0)))))) (pss_cons (ps_if (pt_cmpR (op_neL0 hu0) (pe_lc (own := [("_law_term", 13), ("_law_rows", 9)]) (g := gTup K 2 (gCons (gName 13) (gCons (gName 9) gNil))) (tt := (tAnd (tTest (tOp (rI0 fun i j => .bl (decide (i < j))) (tVar 13) (tDGet (tVar 11) (tC (.str "term"))))) (tNot (tB (tCall spWithin [] E0 (tCons (tVar 9) (tCons (tVar 8) tNil))))))) (te := (tVar 9)) (by rfl) sc_law.nd (pi_list (pv 4))
        (blkOk_by (own := [("_law_term", 13), ("_law_rows", 9)]) (N := N23L) (sc := defScope s_law) (by decide +kernel)) (fun _ _ _ _ _ => (pg_tup (by rfl) (pgs_cons (pg_name (i := 13) sc_law.nd rfl (.inl rfl)) (pgs_cons (pg_name (i := 9) sc_law.nd rfl (.inl rfl)) pgs_nil)))) (fun _ _ _ _ _ => pts_one (PW.pt (pw_and (pt_cmpR op_lt (pv 13) (pe_dget hu (pv 11) pe_str (fun _ _ => rfl)) (by rfl)) (pw_and1 (pt_not (pt_val (pe_call GW hr6 (by rfl) gW kpW bW .nil pass0 (pa_cons (pv 9) (pa_cons (pv 8) pa_nil))))))))) (fun _ _ _ _ _ => (pv 9))) (pe_lst pa_nil) (by rfl)) (pss_one (ps_ret pe_bl)) pss_nil)
      (pss_cons (ps_set (i := 9) sc_law.nd rfl (.inl rfl) (pe_meth (pe_ix ix_list (pv 2) (pe_dget hu (pv 11) pe_str (fun _ _ => rfl)) (fun _ _ => rfl)) T.cl mHo GHo hr6 bHo .nil pass_not (pa_cons (pv 8) pa_nil)))
      (pss_one (ps_expr (pe_meth (pe_dget hu (pv 11) pe_str (fun _ _ => rfl)) TQ.cl mB GB hr6 bB .nil pass_not (pa_cons (pv 9) pa_nil)))))) pss_nil))) pss_nil)
      (pss_cons (ps_if (PW.pt (pw_and (pt_cmp (pc_notN (pv 11)) (by rfl)) (pw_and (pt_cmpR op_gt (pv 7) pe_int (nomark _)) (pw_and1 (pt_val (pe_meth0 (pe_dget hu (pv 11) pe_str (fun _ _ => rfl)) TQ.cl mE GE hr1 bE .nil pass0)))))) (pss_cons (ps_expr (pe_call GBr hr (by rfl) gBr kpBr bBr .nil pass0 (pa_cons (pv 1) (pa_cons (pv 2) (pa_cons (pv 11) pa_nil)))))
      (pss_cons (ps_set (i := 9) sc_law.nd rfl (.inl rfl) (pe_meth0 (pe_dget hu (pv 11) pe_str (fun _ _ => rfl)) TQ.cl mS GS hr5 bS .nil pass_not))
      (pss_cons (ps_expr (pe_bm PySem.F.plainAttrs_list PySem.F.slot_list_append PySem.F.type_list_append mt_append (pv 4) (pa_cons (pe_tup (pa_cons (pe_dget hu (pv 11) pe_str (fun _ _ => rfl)) (pa_cons (pv 9) pa_nil))) pa_nil)))
      (pss_one (ps_for PassesOwn.never rfl (pi_list (pv 3)) (pg_name (i := 10) sc_law.nd rfl (.inl rfl))
      (pss_one (ps_if (PW.pt (pw_and (pt_cmpR op_gt (pe_dget hu (pv 10) pe_str (fun _ _ => rfl)) (pe_dget hu (pv 11) pe_str (fun _ _ => rfl)) (nomark _)) (pw_and (pt_val (pe_meth0 (pe_dget hu (pv 10) pe_str (fun _ _ => rfl)) TQ.cl mE GE hr1 bE .nil pass0)) (pw_and1 (pt_not (pt_val (pe_call GW hr6 (by rfl) gW kpW bW .nil pass0 (pa_cons (pv 9) (pa_cons (pe_meth0 (pe_dget hu (pv 10) pe_str (fun _ _ => rfl)) TQ.cl mM GM hr5 bM .nil pass_not) pa_nil))))))))) (pss_one (ps_ret pe_bl)) pss_nil))))))) pss_nil)
      (pss_one (ps_if (pt_cmpR (op_neL0 hu0) (pe_lc (own := [("_law_k", 14)]) (g := gName 14) (tt := (tNot (tB (tCall spWithin [] E0 (tCons (tOp (rIxL K) (tVar 6) (tVar 14)) (tCons (tMeth CS "holds" (spHolds K CS) [] E0 (tOp (rIxL K) (tVar 2) (tVar 14)) tNil) tNil)))))) (te := (tVar 14)) (by rfl) sc_law.nd (pi_range1 (by rfl) TU.range (pa_cons (pe_callB call_len (by rfl) TU.len PySem.boot_len (pa_cons (pv 2) pa_nil)) pa_nil))
        (blkOk_by (own := [("_law_k", 14)]) (N := N23L) (sc := defScope s_law) (by decide +kernel)) (fun _ _ _ _ _ => (pg_name (i := 14) sc_law.nd rfl (.inl rfl))) (fun _ _ _ _ _ => pts_one (pt_not (pt_val (pe_call GW hr6 (by rfl) gW kpW bW .nil pass0 (pa_cons (pe_ix ix_list (pv 6) (pv 14) (fun _ _ => rfl)) (pa_cons (pe_meth0 (pe_ix ix_list (pv 2) (pv 14) (fun _ _ => rfl)) T.cl mO GO hr1 bO .nil pass0) pa_nil)))))) (fun _ _ _ _ _ => (pv 14))) (pe_lst pa_nil) (by rfl)) (pss_one (ps_ret pe_bl)) pss_nil))))))))))
      (pss_one (ps_ret pe_bl))))))), ?_⟩
    refine ⟨_, rfl, s, ns, rfl, hs, fun d m nd gd => ?_⟩
    have hB : but H Pa Pb = some (.tbl #[]) := by rw [but_at (Ne.symm n1)]; exact htb
    have hC : but (but H Pa) Pb Pl = some (.tbl #[]) := by rw [but_at (Ne.symm n3), but_at (Ne.symm n2)]; exact htl
    have sF : Same (but (but (but H Pa) Pb) Pl) H := (but_same (H := but (but H Pa) Pb) (o := Pl)).trans ((but_same (H := but H Pa) (o := Pb)).trans but_same)
    have sB : Same (but (but (but H Pa) Pb) Pl) (upd H d (dice s 0 m 0)) := sF.trans (same_upd nd)
    have da : d ≠ Pa := fun e => by rw [e, hta] at nd; cases nd
    have db : d ≠ Pb := fun e => by rw [e, htb] at nd; cases nd
    have dl : d ≠ Pl := fun e => by rw [e, htl] at nd; cases nd
    have S0 : P3 K CS s ns 0 (fun i => match i with | 0 => d | 1 => Pa | 2 => Pb | _ => Pl) (but (but (but H Pa) Pb) Pl) (upd H d (dice s 0 m 0)) := by
      refine ⟨fun i j hi hj e => ?_, ⟨sB, sF.free nd, but_seqT hC (but_seqT hB (but_seqT hta hs)), 0, m, 0, upd_same, gd⟩, LamX.TabS.nil (by show upd H d _ Pa = _; rw [upd_ne da.symm]; exact hta), ?_, LamX.TabS.nil (by show upd H d _ Pb = _; rw [upd_ne db.symm]; exact htb), ?_,
        LamX.TabS.nil (by show upd H d _ Pl = _; rw [upd_ne dl.symm]; exact htl), but_self, fun k hk => absurd hk (by omega)⟩
      · have hi' : i < 4 := hi.elim id fun z => by omega
        have hj' : j < 4 := hj.elim id fun z => by omega
        match i, j, hi', hj' with
        | 0, 0, _, _ => rfl
        | 0, 1, _, _ => exact absurd e da
        | 0, 2, _, _ => exact absurd e db
        | 0, 3, _, _ => exact absurd e dl
        | 1, 0, _, _ => exact absurd e.symm da
        | 1, 1, _, _ => rfl
        | 1, 2, _, _ => exact absurd e n1
        | 1, 3, _, _ => exact absurd e n2
        | 2, 0, _, _ => exact absurd e.symm db
        | 2, 1, _, _ => exact absurd e.symm n1
        | 2, 2, _, _ => rfl
        | 2, 3, _, _ => exact absurd e n3
        | 3, 0, _, _ => exact absurd e.symm dl
        | 3, 1, _, _ => exact absurd e.symm n2
        | 3, 2, _, _ => exact absurd e.symm n3
        | 3, 3, _, _ => rfl
      · show but (but (but H Pa) Pb) Pl Pa = none
        rw [but_at n2, but_at n1]; exact but_self
      · show but (but (but H Pa) Pb) Pl Pb = none
        rw [but_at n3]; exact but_self
    obtain ⟨pl0, h0, h1, h2, h3, S0⟩ : ∃ pl0 : Nat → Addr, pl0 0 = d ∧ pl0 1 = Pa ∧ pl0 2 = Pb ∧ pl0 3 = Pl ∧ P3 K CS s ns 0 pl0 (but (but (but H Pa) Pb) Pl) (upd H d (dice s 0 m 0)) := ⟨_, rfl, rfl, rfl, rfl, S0⟩
    subst h0
    revert S0
    generalize upd H (pl0 0) (dice s 0 m 0) = H0
    generalize but (but (but H Pa) Pb) Pl = F0'
    intro S0
    clear hB hC sF sB da db dl nd gd hs hta htb htl
    refine ⟨_, rfl, F0', pl0 0, s, ns, 5, rfl, S0.dice, by decide, by decide, fun z H1 z0 z1 X1 D1 => ⟨_, _, rfl, rfl, ?_⟩⟩
    have S1 := S0.drawn X1 D1
    clear X1 D1 S0
    obtain ⟨n, hn, n2', n6'⟩ : ∃ n : Nat, 2 + z = (n : Int) ∧ 2 ≤ n ∧ n ≤ 6 := ⟨(2 + z).toNat, by omega, by omega, by omega⟩
    refine ⟨2 + z, rfl, by omega, by omega, fun D nD => ?_⟩
    refine it_by (walk_range (lo := 0) (n := (2 + z).toNat)) (fun j H' => ∃ F' pl, P3 K CS s ns j pl F' H' ∧ (∀ i, i < 4 → pl i = pl0 i) ∧ H' D = some (.lst ((List.range j).map fun i => V.ref (pl (6 + i)))) ∧ F' D = none ∧ ∀ i, Vis3 j i → pl i ≠ D)
      ⟨F0', pl0, S1.quiet ((XM.refl S1.dice.fh).tmp nD), fun _ _ => rfl, upd_same, S1.dice.fh.free nD, fun i hi e => S1.full i hi (by rw [e]; exact nD)⟩ (fun _ _ _ _ => trivial) ?_ ?_
    · rintro j x _ H2 hj ⟨F2, pl, S2, ep, hD, fD, pD⟩ ⟨rfl, rfl⟩
      refine ⟨rfl, ?_⟩
      intro x1 dx1 nx1 ndx1 ne1
      have sm1 : Same F2 (upd (upd H2 dx1 (.own x1)) x1 (.ins CS dx1 [])) := S2.dice.fh.trans ((same_upd ndx1).trans (same_upd (by rw [upd_ne ne1.symm]; exact nx1)))
      refine ⟨F2, x1, dx1, rfl, sm1, upd_same, S2.dice.fh.free nx1, fun FA HA XA A => ⟨rfl, ?_⟩⟩
      have Y := XM.of (Ext.made S2.dice.fh nx1 ndx1 ne1 XA)
      have hDA := Y.hh _ _ hD id
      have fDA : FA D = none := by rw [Y.nw _ _ hD fun xs z => by cases z]; exact fD
      have SA := S2.add Y nx1 A
      have DX : ∀ i, Vis3 (j + 1) i → addS j pl x1 i ≠ D := fun i hi e => by
        unfold addS at e
        by_cases c : i = 6 + j
        · rw [if_pos c] at e
          rw [e, hD] at nx1; cases nx1
        · rw [if_neg c] at e
          exact pD i (hi.imp id fun y => ⟨y.1, by omega⟩) e
      refine ⟨_, hDA, by rw [List.length_map, List.length_range, sizeLine_eq]; omega, FA, addS j pl x1, ?_, fun i hi => by unfold addS; rw [if_neg (by omega)]; exact ep i hi, ?_, fDA, DX⟩
      · exact SA.app DX fDA hDA
      · rw [upd_same, List.range_succ, List.map_append, List.map_cons, List.map_nil]
        refine congrArg (fun l => some (HO.lst l)) ?_
        congr 1
        · refine List.map_congr_left fun i hi => ?_
          have := List.mem_range.mp hi
          unfold addS
          rw [if_neg (by omega)]
        · unfold addS
          rw [if_pos rfl]
    · rintro H2 ⟨F2, pl, S2, ep, hD, fD, pD⟩
      rw [hn, Int.toNat_natCast] at S2 hD pD
      refine ⟨Nat.zero_le _, fun L nL => ⟨Nat.zero_le _, fun M nM => ?_⟩⟩
      have LM : L ≠ M := fun e => by rw [← e, upd_same] at nM; cases nM
      rw [upd_ne LM.symm] at nM
      have S3 := ((S2.fz pD fD hD).quiet ((XM.refl (S2.fz pD fD hD).dice.fh).tmp (o := .lst []) nL)).quiet ((XM.refl ((S2.fz pD fD hD).quiet ((XM.refl (S2.fz pD fD hD).dice.fh).tmp (o := .lst []) nL)).dice.fh).tmp (o := .lst []) (by rw [upd_ne LM.symm]; exact nM))
      have W := S3.whole (CL := CL) (L := L) (M := M) (Ls := D) upd_same (by rw [upd_ne LM]; exact upd_same) ((S2.fz pD fD hD).dice.fh.free nL) upd_same ((S2.fz pD fD hD).dice.fh.free nM) LM (fun i hi e => S2.full i hi (by rw [e]; exact nL)) (fun i hi e => S2.full i hi (by rw [e]; exact nM))
      have G0 := G3.start n2' n6'
      generalize hpl : (fun i => if i = 4 then L else if i = 5 then M else pl i : Nat → Addr) = plA at W
      have w4 : L = plA 4 := by rw [← hpl]; rfl
      have w5 : M = plA 5 := by rw [← hpl]; rfl
      have w0 : pl0 0 = plA 0 := by rw [← ep 0 (by decide), ← hpl]; rfl
      have w1 : plA 1 = Pa := by rw [← hpl]; exact (ep 1 (by decide)).trans h1
      have w2 : plA 2 = Pb := by rw [← hpl]; exact (ep 2 (by decide)).trans h2
      have w3 : plA 3 = Pl := by rw [← hpl]; exact (ep 3 (by decide)).trans h3
      revert W
      generalize upd (upd H2 L (.lst [])) M (.lst []) = H3
      generalize upd F2 D (.lst ((List.range n).map fun i => V.ref (pl (6 + i)))) = F3
      generalize (fun _ => L : Nat → Addr) = dkA
      intro W
      rw [w4, w5, w0]
      refine ⟨_, rfl, F3, plA 0, s, ns, 151, rfl, W.dice, by decide, by decide, fun nt H4 nt0 nt1 X4 D4 => ?_⟩
      have W4 := W.drawn X4 D4
      refine ⟨nt, rfl, by omega, by omega, for_range (lo := 0) (n := nt.toNat) (fun t σ H' => ∃ F' plx dk sd ls sh y5 y6 y7 y8 y9 y10 y11 y12 y13 y14, σ = [some (.ref s), some (.ref (plx 0)), some (.ref D), some (.ref (plx 4)), some (.ref (plx 5)), y5, y6, y7, y8, y9, y10, y11, y12, y13, y14] ∧ T3 K CS CL s ns n plx dk D F' H' sd ls sh ∧ G3 n t sd ls sh ∧ plx 1 = Pa ∧ plx 2 = Pb ∧ plx 3 = Pl ∧ ∀ x ∈ sh, G9 x.2)
        ⟨F3, plA, dkA, _, _, _, _, _, _, _, _, _, _, _, _, _, rfl, W4, G0, w1, w2, w3, fun x h => absurd h (by simp)⟩ ?_ ?_⟩
      · rintro t σ H5 ht ⟨F5, plx, dk, sd, ls, sh, y5, y6, y7, y8, y9, y10, y11, y12, y13, y14, rfl, S5, G5, v1, v2, v3, hsh⟩
        have tl5 := G5.tl
        refine ⟨_, rfl, D, rfl, ⟨_, SqL.of (S5.same _ _ S5.fLs)⟩, fun E1 nE => ?_⟩
        refine it_by (walk_list (K := K) (a := D) (xs := (List.range n).map fun k => V.ref (plx (6 + k)))) (fun j H' => ∃ F' acc, T3 K CS CL s ns n plx dk D F' H' sd ls sh ∧ H' E1 = some (.lst acc) ∧ F' E1 = none ∧ Paired ((kL kRow).is F') acc ((List.range j).map fun k => (sd k).rs) ∧ Same F5 F')
          ⟨F5, [], S5.quiet ((XM.refl S5.same).tmp nE), upd_same, S5.same.free nE, .nil, Same.refl _⟩ (fun j H' _ ⟨_, _, S', _⟩ => SqL.of (S'.same _ _ S'.fLs)) ?_ ?_
        · rintro j x _ H6 hj ⟨F6, acc, S6, hE, fE, pac, m6⟩ ⟨rfl, hx⟩
          rw [List.length_map, List.length_range] at hj
          rw [List.getElem?_map, List.getElem?_range hj] at hx
          cases hx
          obtain ⟨dx, ra, ob, _⟩ := (S6.seats j hj).ob
          refine ⟨rfl, _, rfl, plx (6 + j), dx, _, rfl, ob, sl_holds _ _, F6, plx (6 + j), (sd j).rs, (sd j).t, rfl, S6.same, S6.seats j hj, fun F7 H7 a vs out X7 na fa ha hp eo => ?_⟩
          subst eo
          have S7 := (S6.quiet (.of X7)).fz (fun i hi => S6.ne na i hi) fa ha
          have hE7 := X7.hh _ _ hE id
          have aE : E1 ≠ a := ne_of_none hE na
          have fE7 : upd F7 a (.lst vs) E1 = none := by rw [upd_ne aE, X7.new E1 (by rw [hE]; simp)]; exact fE
          have nbE : ∀ i, i < 6 + n + 4 * ls.length → plx i ≠ E1 := fun i hi e => S5.full i hi (by rw [e]; exact nE)
          have m7 := X7.ff.trans (same_upd (o := .lst vs) fa)
          have lacc := pr_len pac
          rw [List.length_map, List.length_range] at lacc
          have n6' := G5.n6
          refine ⟨acc, hE7, by rw [lacc, sizeLine_eq]; omega, _, _, S7.put nbE fE7 hE7 (fun φ z => by cases z), upd_same, fE7, ?_, m6.trans m7⟩
          rw [List.range_succ, List.map_append, List.map_cons, List.map_nil]
          exact pr_snoc (pr_mono (fun _ _ z => (kL kRow).mono m7 z) pac) (kL_new fa hp)
        rintro H6 ⟨F6, acc, S6, hE, fE, pac, m6⟩
        rw [List.length_map, List.length_range] at pac
        have nbE : ∀ i, i < 6 + n + 4 * ls.length → plx i ≠ E1 := fun i hi e => S5.full i hi (by rw [e]; exact nE)
        have S7 := S6.fz nbE fE hE
        have mE := same_upd (o := .lst acc) fE
        have kE : upd F6 E1 (.lst acc) E1 = some (.lst acc) := upd_same
        have pac7 := pr_mono (fun _ _ z => (kL kRow).mono mE z) pac
        revert S7 kE pac7
        generalize upd F6 E1 (.lst acc) = F7
        intro S7 kE pac7
        clear mE S6 hE fE pac m6
        refine ⟨_, rfl, F7, plx 0, s, ns, 7, rfl, S7.dice, by decide, by decide, fun kd H8 kd0 kd1 X8 D8 => ?_⟩
        have S8 := S7.drawn X8 D8
        clear X8 D8 S7
        try dsimp only
        refine seq_join (fun σ H' => ∃ F' sd', σ = [some (.ref s), some (.ref (plx 0)), some (.ref D), some (.ref (plx 4)), some (.ref (plx 5)), some (.int (0 + (t : Int))), some (.ref E1), some (.int kd), y8, y9, y10, y11, y12, y13, y14] ∧ T3 K CS CL s ns n plx dk D F' H' sd' ls sh ∧ G3 n t sd' ls sh ∧ More n sd sd' ∧ Same F7 F') ?_ fun key => ?_
        rotate_left
        · show tIfS _ _ _ _ _ _
          refine ifs_join (fun σ H' => σ = [some (.ref s), some (.ref (plx 0)), some (.ref D), some (.ref (plx 4)), some (.ref (plx 5)), some (.int (0 + (t : Int))), some (.ref E1), some (.int kd), y8, y9, y10, y11, y12, y13, y14] ∧ T3 K CS CL s ns n plx dk D F7 H' sd ls sh) ?_ fun keyB => ?_
          rotate_left
          · refine ⟨_, rfl, rfl, _, rfl, iteI (fun e => keyB _ _ ⟨rfl, S8⟩) (fun e => ?_)⟩
            refine ⟨_, rfl, Nat.zero_le _, fun e0 ne0 => ?_⟩
            have X1 := (XM.refl (M := M0) S8.same).tmp (o := .lst []) ne0
            have S9 := S8.quiet X1
            have he0 : upd H8 e0 (.lst []) e0 = some (.lst []) := upd_same
            revert S9 he0
            generalize upd H8 e0 (.lst []) = H9
            intro S9 he0
            clear X1
            refine ⟨plx 4, e0, _, rfl, rfl, SqL.of S9.hL, SqL.of he0, _, rfl, ?_⟩
            cases hE : ((List.range ls.length).map fun i => V.ref (dk i)).isEmpty with
            | true => exact iteT (keyB _ _ ⟨rfl, S9⟩)
            | false => exact iteF (key _ _ ⟨F7, sd, rfl, S9, G5, More.refl, Same.refl _⟩)
          rintro _ H9 ⟨rfl, S9⟩
          refine ⟨_, rfl, _, rfl, _, rfl, _, _, rfl, .inl ⟨_, SqL.of (S9.same _ _ S9.fLs), rfl⟩, F7, plx 0, s, ns, _, rfl, S9.dice, by rw [List.length_map, List.length_range]; omega, by rw [List.length_map, List.length_range]; omega, fun zk H10 zk0 zk1 X10 D10 => ?_⟩
          have S10 := S9.drawn X10 D10
          clear X10 D10 S9
          rw [List.length_map, List.length_range] at zk1
          obtain ⟨k, hk, rfl⟩ : ∃ k : Nat, k < n ∧ zk = (k : Int) := ⟨zk.toNat, by omega, by omega⟩
          obtain ⟨dx, ra, ob, _⟩ := (S10.seats k hk).ob
          refine ⟨D, _, _, _, rfl, rfl, SqL.of (S10.same _ _ S10.fLs), atI_nat (by rw [List.getElem?_map, List.getElem?_range hk]; rfl), plx (6 + k), dx, _, rfl, ob, sl_hold _ _, ?_⟩
          clear ob
          refine ⟨_, rfl, F7, plx 0, s, ns, 3, rfl, S10.dice, by decide, by decide, fun h H11 h0 h1 X11 D11 => ?_⟩
          have S11 := S10.drawn X11 D11
          clear X11 D11 S10
          refine ⟨_, rfl, F7, plx 0, s, ns, 9, rfl, S11.dice, by decide, by decide, fun z H12 z0 z1 X12 D12 => ⟨_, _, rfl, rfl, ?_⟩⟩
          have S12 := S11.drawn X12 D12
          clear X12 D12 S11
          refine ⟨by show 3 ≤ sizeLine; decide, fun tt ntt => ?_⟩
          have S13 := S12.quiet ((XM.refl S12.same).lay (o := .tup [.int h, .int 1, .int (1 + z)]) ntt)
          have mt := same_upd (o := .tup [.int h, .int 1, .int (1 + z)]) (S12.same.free ntt)
          have kt : kRow.is (upd F7 tt (.tup [.int h, .int 1, .int (1 + z)])) (.ref tt) (h, 1, 1 + z) := ⟨tt, rfl, upd_same⟩
          revert S13 kt mt
          generalize upd F7 tt (.tup [.int h, .int 1, .int (1 + z)]) = F13
          generalize upd H12 tt (.tup [.int h, .int 1, .int (1 + z)]) = H13
          intro S13 mt kt
          clear S12 ntt
          refine ⟨by show 1 ≤ sizeLine; decide, fun l0 nl0 => ?_⟩
          have S14 := S13.quiet ((XM.refl S13.same).tmp (o := .lst [.ref tt]) nl0)
          have hl0 : upd H13 l0 (.lst [.ref tt]) l0 = some (.lst [.ref tt]) := upd_same
          have nl00 := S13.ne nl0 0 (by omega)
          revert S14 hl0
          generalize upd H13 l0 (.lst [V.ref tt]) = H14
          intro S14 hl0
          clear S13 nl0
          refine ⟨_, rfl, F13, plx 0, s, ns, 2, rfl, S14.dice, by decide, by decide, fun z2 H15 z20 z21 X15 D15 => ⟨_, _, rfl, rfl, ?_⟩⟩
          have S15 := S14.drawn X15 D15
          have hl15 := X15.hh _ _ hl0 nl00.symm
          clear X15 D15 S14 hl0
          refine ⟨_, rfl, l0, _, rfl, SqL.of hl15, fun p np => ?_⟩
          have ecut : cutV [V.ref tt] none (some (z2 + 1)) = [V.ref tt] := by
            obtain rfl | rfl : z2 = 0 ∨ z2 = 1 := by omega
            · rfl
            · rfl
          rw [ecut]
          have S16 := (S15.quiet ((XM.refl S15.same).tmp (o := .lst [.ref tt]) np)).fz (fun i hi => S15.ne np i hi) (S15.same.free np) upd_same
          have m16 := same_upd (o := .lst [.ref tt]) (S15.same.free np)
          have k16 : (kL kRow).is (upd F13 p (.lst [.ref tt])) (.ref p) [(h, 1, 1 + z)] := ⟨p, _, rfl, upd_same, .cons (kRow.mono m16 kt) .nil⟩
          have mm : Same F7 (upd F13 p (.lst [.ref tt])) := mt.trans m16
          have A16 := S16.seats k hk
          have gk := G5.seats k hk
          have dr : ∀ r ∈ [((h, 1, 1 + z) : Row)], Drawn 3 9 r := fun r hr => by
            rw [List.mem_singleton.mp hr]
            unfold Drawn
            simp only
            omega
          refine ⟨_, plx (6 + k), (sd k).rs, (sd k).t, .ref p, [(h, 1, 1 + z)], rfl, S16.same, A16, k16, by show 1 ≤ 200; decide, gk.1.can.ok, by have := gk.1.len; omega, fun _ => ?_, fun i hi => (nomatch (badAt_none.mpr (drawn_ok dr)).symm.trans hi)⟩
          intro F17 H17 b us out X17 A17 fw nb fb hb hp
          have mo : ∀ p, mem (sd k).rs p → mem out p := fun p m => (fw.mem p).mpr (mem_append.mpr (.inl m))
          exact key _ _ ⟨F17, _, rfl, S16.seat (x := ⟨out, (sd k).t⟩) hk X17 A17, G5.seat (x := ⟨out, (sd k).t⟩) (G9.of fw gk.1.box dr) gk.2 (Int.le_refl _) mo, more_set mo, mm.trans X17.ff⟩
        rintro _ H9 ⟨F9, sd9, rfl, S9, G9', mo9, m9⟩
        clear S8
        try dsimp only
        -- ask
        refine seq_join (fun σ H' => ∃ F' pl' dk' sd' ls' T', σ = [some (.ref s), some (.ref (pl' 0)), some (.ref D), some (.ref (pl' 4)), some (.ref (pl' 5)), some (.int (0 + (t : Int))), some (.ref E1), some (.int kd), y8, y9, y10, y11, y12, y13, y14] ∧ T3 K CS CL s ns n pl' dk' D F' H' sd' ls' sh ∧ G3 n T' sd' ls' sh ∧ T' ≤ t + 1 ∧ (3 ≤ kd → T' = t) ∧ (∀ i, i < 6 + n → pl' i = plx i) ∧ More n sd sd' ∧ Same F7 F') ?_ fun key => ?_
        rotate_left
        · refine ⟨_, rfl, _, _, rfl, rfl, _, rfl, ?_⟩
          refine iteL (fun c => ?_) (fun c => ?_)
          · exact ⟨_, rfl, _, rfl, _, rfl, F9, s, ns, n, t, plx, dk, D, sd9, ls, sh, rfl, v1, v2, v3, S9, G9', by omega, fun F' H' pl' dk' sd' ls' T' G' ep' mo' m' _ => key _ _ ⟨F', pl', dk', sd', ls', t + 1, by rw [ep' 0 (by omega), ep' 4 (by omega), ep' 5 (by omega)], T', G', Nat.le_refl _, fun h => by omega, ep', mo9.trans mo', m9.trans m'⟩⟩
          · exact key _ _ ⟨F9, plx, dk, sd9, ls, t, rfl, S9, G9', by omega, fun _ => rfl, fun _ _ => rfl, mo9, m9⟩
        rintro _ H10 ⟨F10, pl, dk0, sd0, ls0, T0, rfl, S10, G10, hT0, hT3, ep, mo10, m10⟩
        clear S9 G9' mo9 m9
        -- the lead
        try dsimp only
        refine seq_join (fun σ H' => ∃ v, σ = [some (.ref s), some (.ref (pl 0)), some (.ref D), some (.ref (pl 4)), some (.ref (pl 5)), some (.int (0 + (t : Int))), some (.ref E1), some (.int kd), y8, y9, y10, some v, y12, y13, y14] ∧ T3 K CS CL s ns n pl dk0 D F10 H' sd0 ls0 sh ∧ (v = .non ∨ ∃ i l, ls0[i]? = some l ∧ v = .ref (dk0 i))) ?_ fun key => ?_
        rotate_left
        · refine ⟨_, rfl, Nat.zero_le _, fun e0 ne0 => ?_⟩
          have X1 := (XM.refl (M := M0) S10.same).tmp (o := .lst []) ne0
          have S11 := S10.quiet X1
          have he0 : upd H10 e0 (.lst []) e0 = some (.lst []) := upd_same
          revert S11 he0
          generalize upd H10 e0 (.lst []) = H11
          intro S11 he0
          clear X1
          refine ⟨pl 4, e0, _, rfl, rfl, SqL.of S11.hL, SqL.of he0, _, rfl, ?_⟩
          cases hE : ((List.range ls0.length).map fun i => V.ref (dk0 i)).isEmpty with
          | true => exact iteF (key _ _ ⟨_, rfl, S11, .inl rfl⟩)
          | false =>
            have lp : 0 < ls0.length := by
              cases ls0 with
              | nil => simp at hE
              | cons a b => exact Nat.succ_pos _
            refine iteT ?_
            refine ⟨_, rfl, _, rfl, _, _, rfl, .inl ⟨_, SqL.of S11.hL, rfl⟩, _, _, rfl, rfl, _, rfl, F10, pl 0, s, ns, 3, rfl, S11.dice, by decide, by decide, fun z H12 z0 z1 X12 D12 => ⟨_, _, rfl, rfl, _, _, rfl, ?_⟩⟩
            have S12 := S11.drawn X12 D12
            clear X12 D12
            rw [List.length_map, List.length_range]
            obtain ⟨i, hi, hidx⟩ : ∃ i : Nat, i < ls0.length ∧ (if ((ls0.length : Nat) : Int) - 1 - z > 0 then ((ls0.length : Nat) : Int) - 1 - z else 0) = (i : Int) := by
              by_cases c : ((ls0.length : Nat) : Int) - 1 - z > 0
              · exact ⟨(((ls0.length : Nat) : Int) - 1 - z).toNat, by omega, by rw [if_pos c]; omega⟩
              · exact ⟨0, lp, by rw [if_neg c]; rfl⟩
            rw [hidx]
            exact ⟨pl 4, _, _, _, rfl, rfl, SqL.of S12.hL, atI_nat (by rw [List.getElem?_map, List.getElem?_range hi]; rfl), key _ _ ⟨_, rfl, S12, .inr ⟨i, _, List.getElem?_eq_getElem hi, rfl⟩⟩⟩
        rintro _ H13 ⟨v, rfl, S13, hv⟩
        clear S10
        -- must, begin
        try dsimp only
        refine seq_join (fun σ H' => ∃ F' sd' ls' y8 y9 y13 y14, σ = [some (.ref s), some (.ref (pl 0)), some (.ref D), some (.ref (pl 4)), some (.ref (pl 5)), some (.int (0 + (t : Int))), some (.ref E1), some (.int kd), y8, y9, y10, some v, y12, y13, y14] ∧ T3 K CS CL s ns n pl dk0 D F' H' sd' ls' sh ∧ G3 n T0 sd' ls' sh ∧ More n sd sd' ∧ Same F7 F' ∧ (v = .non ∨ ∃ i l, ls'[i]? = some l ∧ v = .ref (dk0 i))) ?_ fun key => ?_
        rotate_left
        · rcases hv with rfl | ⟨i, l, hl, rfl⟩
          · exact ⟨_, rfl, false, rfl, iteF (iteF (key _ _ ⟨F10, sd0, ls0, _, _, _, _, rfl, S13, G10, mo10, m10, .inl rfl⟩))⟩
          · refine ⟨_, rfl, true, rfl, iteT ⟨_, rfl, rfl, _, rfl, iteI (fun e => ?_) (fun e => key _ _ ⟨F10, sd0, ls0, _, _, _, _, rfl, S13, G10, mo10, m10, .inr ⟨i, l, hl, rfl⟩⟩)⟩⟩
            have e3 : pl 3 = Pl := (ep 3 (by omega)).trans v3
            have ml := List.mem_of_getElem? hl
            have gl := G10.leads l ml
            have eokA := G10.eokA ml
            have n20 := G10.n2
            try dsimp only
            refine seq_join (fun σ H' => ∃ F' u, σ = [some (.ref s), some (.ref (pl 0)), some (.ref D), some (.ref (pl 4)), some (.ref (pl 5)), some (.int (0 + (t : Int))), some (.ref E1), some (.int kd), some u, y9, y10, some (.ref (dk0 i)), y12, y13, y14] ∧ T3 K CS CL s ns n pl dk0 D F' H' sd0 ls0 sh ∧ Same F10 F' ∧
              ((∃ t z, u = .ref t ∧ H' t = some (.tup z)) ∨ ∃ b us ms, u = .ref b ∧ F' b = some (.lst us) ∧ Paired (kRow.is F') us ms ∧ Held (l.an.map (·.rs)) 1 ms ∧ (n : Int) / 2 + 1 ≤ (l.an.length : Int))) ?_ fun keyM => ?_
            rotate_left
            · refine ⟨by rw [← e3]; exact S13.t3, fun H14 g tab => ?_⟩
              rw [← e3] at g tab
              have S14 := S13.grow3 g tab
              obtain ⟨dx, ob⟩ := (S14.lead i l hl).ob
              refine ⟨_, rfl, dk0 i, _, rfl, DGet.k (k := Sum.inr "lead") (S14.same _ _ (S14.dks i l hl)), _, dx, _, rfl, ob, ll_must _ _ _ _, F10, _, _, _, (n : Int), l.an, l.kp, l.bg, rfl, S14.same, S14.lead i l hl, by omega, eokA, fun c => ?_, fun c => ?_⟩
              · refine EW.plain 6 (by decide) (by decide) (by decide) fun H15 t1 sm nt ht => ?_
                exact keyM _ _ ⟨F10, _, rfl, S14.quiet (.of (Ext.ofSame S14.same sm)), Same.refl _, .inl ⟨t1, _, rfl, ht⟩⟩
              · intro F15 H15 b us ms X15 nb fb hb hp held
                exact keyM _ _ ⟨upd F15 b (.lst us), _, rfl, (S14.quiet (.of X15)).fz (fun i hi => S14.ne nb i hi) fb hb, X15.ff.trans (same_upd fb), .inr ⟨b, us, ms, rfl, upd_same, pr_mono (fun _ _ z => kRow.mono (same_upd fb) z) hp, held, c⟩⟩
            rintro _ H14 ⟨F14, u, rfl, S14, m14, hu14⟩
            clear S13
            try dsimp only
            rcases hu14 with ⟨tt, z, rfl, ht⟩ | ⟨b, us, ms, rfl, hb, pb, held, hn2⟩
            · exact ⟨_, rfl, _, .ty "list", _, _, _, rfl, .ty _, tyx_tup ht, kit_ty (r := false) (by decide +kernel), false, rfl, iteF (iteF (key _ _ ⟨F14, sd0, ls0, _, _, _, _, rfl, S14, G10, mo10, m10.trans m14, .inr ⟨i, l, hl, rfl⟩⟩))⟩
            · refine ⟨_, rfl, _, .ty "list", _, _, _, rfl, .ty _, tyx_lst (S14.same _ _ hb), kit_ty (r := true) (by decide +kernel), true, rfl, iteT ?_⟩
              obtain ⟨dx, ob⟩ := (S14.lead i l hl).ob
              refine ⟨_, rfl, dk0 i, _, rfl, DGet.k (k := Sum.inr "lead") (S14.same _ _ (S14.dks i l hl)), _, dx, _, rfl, ob, ll_leads _ _ _ _, F14, _, _, _, (n : Int), l.an, l.kp, l.bg, rfl, S14.lead i l hl, l.bg, rfl, ?_⟩
              clear ob
              cases hbg : l.bg with
              | true => exact iteF (key _ _ ⟨F14, sd0, ls0, _, _, _, _, rfl, S14, G10, mo10, m10.trans m14, .inr ⟨i, l, hl, rfl⟩⟩)
              | false =>
                refine iteT ?_
                obtain ⟨vs5, h5, p5⟩ := S14.hS
                refine ⟨_, rfl, pl 5, rfl, ⟨_, SqL.of h5⟩, fun D2 nD2 => ?_⟩
                refine it_by (walk_list (K := K) (a := pl 5) (xs := vs5)) (fun j H' => ∃ F', T3 K CS CL s ns n pl dk0 D F' H' sd0 ls0 sh ∧ H' D2 = some (.lst []) ∧ F' D2 = none ∧ H' (pl 5) = some (.lst vs5) ∧ Same F14 F')
                  ⟨F14, S14.quiet ((XM.refl S14.same).tmp nD2), upd_same, S14.same.free nD2, by rw [upd_ne (ne_of_none h5 nD2)]; exact h5, Same.refl _⟩ (fun j H' _ ⟨_, _, _, _, z, _⟩ => SqL.of z) ?_ ?_
                · rintro j x _ H15 hj ⟨F15, S15, hD15, fD15, h515, m15⟩ ⟨rfl, hx⟩
                  obtain ⟨x5, hx5, ⟨tq, va, rfl, htq, kva⟩⟩ := pr_get p5 hx
                  have htq15 := S15.same _ _ (m15 _ _ htq)
                  have ks : (kL kRow).is F15 va x5.2 := (kL kRow).mono m15 kva
                  have km : (kL kRow).is F15 (.ref b) ms := ⟨b, us, rfl, m15 _ _ hb, pr_mono (fun _ _ z => kRow.mono m15 z) pb⟩
                  have x5m := List.mem_of_getElem? hx5
                  refine ⟨tq, _, rfl, SqT.of htq15, rfl, _, _, rfl, _, _, rfl, rfl, rfl, ?_⟩
                  refine ⟨_, rfl, _, rfl, dk0 i, _, rfl, DGet.k (k := Sum.inr "term") (S15.same _ _ (S15.dks i l hl)), _, _, rfl, rfl, _, rfl, iteL (fun c => ?_) (fun c => iteF ⟨F15, S15, hD15, fD15, h515, m15⟩)⟩
                  refine ⟨_, rfl, _, rfl, F15, va, .ref b, x5.2, ms, rfl, S15.same, ks, km, (hsh _ x5m).rok, (G10.must9 ml held).rok, fun bb F16 H16 X16 hbb => ⟨bb, rfl, ?_⟩⟩
                  have bt : bb = true := hbb.mpr fun p hp => (held.mem p).mpr (G10.inv.shownSafe x5m ml c hn2 hp)
                  subst bt
                  have Y := XM.of X16
                  exact iteF ⟨F16, S15.quiet Y, Y.hh _ _ hD15 id, by rw [Y.nw _ _ hD15 fun xs z => by cases z]; exact fD15, Y.hh _ _ h515 id, m15.trans X16.ff⟩
                rintro H15 ⟨F15, S15, hD15, fD15, h515, m15⟩
                have km : (kL kRow).is F15 (.ref b) ms := ⟨b, us, rfl, m15 _ _ hb, pr_mono (fun _ _ z => kRow.mono m15 z) pb⟩
                refine ⟨Nat.zero_le _, fun e0 ne0 => ?_⟩
                have X1 := (XM.refl (M := M0) S15.same).tmp (o := .lst []) ne0
                have S16 := S15.quiet X1
                have he0 : upd H15 e0 (.lst []) e0 = some (.lst []) := upd_same
                have hD16 := X1.hh _ _ hD15 id
                revert S16 he0 hD16
                generalize upd H15 e0 (.lst []) = H16
                intro S16 he0 hD16
                clear X1 S15 ne0 S14 h5 p5 hD15 h515
                refine ⟨D2, e0, _, rfl, rfl, SqL.of hD16, SqL.of he0, _, rfl, iteF ?_⟩
                obtain ⟨me, hme, eme⟩ : ∃ me : Nat, me < n ∧ l.me = (me : Int) := ⟨l.me.toNat, by have := gl.me; omega, by have := gl.me; omega⟩
                have Am := S16.seats me hme
                obtain ⟨dx, ra, ob, _⟩ := Am.ob
                have gme := G10.seats me hme
                have gms := G10.must9 ml held
                refine ⟨_, rfl, _, rfl, dk0 i, _, rfl, DGet.k (k := Sum.inr "me") (S16.same _ _ (S16.dks i l hl)), D, _, _, _, rfl, rfl, SqL.of (S16.same _ _ S16.fLs), by rw [eme]; exact atI_nat (by rw [List.getElem?_map, List.getElem?_range hme]; rfl), pl (6 + me), dx, _, rfl, ob, sl_hold _ _, _, rfl, F15, pl (6 + me), (sd0 me).rs, (sd0 me).t, .ref b, ms, rfl, S16.same, Am, km, by have := gms.len; omega, gme.1.can.ok, by have := gme.1.len; omega, fun _ => ?_, fun i hi => (nomatch gms.bad.symm.trans hi)⟩
                clear ob
                intro F17 H17 b2 us2 out X17 A17 fw nb2 fb2 hb2 hp2
                have mo : ∀ p, mem (sd0 me).rs p → mem out p := fun p m => (fw.mem p).mpr (mem_append.mpr (.inl m))
                have g17 := G9.of fw gme.1.box gms.box
                have S17 := (S16.seat (x := ⟨out, (sd0 me).t⟩) hme X17 A17).fz (fun i hi => S16.ne nb2 i hi) fb2 hb2
                have G17 := G10.seat (x := ⟨out, (sd0 me).t⟩) (k := me) g17 gme.2 (Int.le_refl _) mo
                have k17 : (kL kRow).is (upd F17 b2 (.lst us2)) (.ref b2) out := ⟨b2, us2, rfl, upd_same, pr_mono (fun _ _ z => kRow.mono (same_upd fb2) z) hp2⟩
                have m17 := m14.trans (m15.trans (X17.ff.trans (same_upd (o := .lst us2) fb2)))
                have L17 := S17.lead i l hl
                obtain ⟨dx, ob⟩ := L17.ob
                refine ⟨_, rfl, dk0 i, _, rfl, DGet.k (k := Sum.inr "lead") (S17.same _ _ (S17.dks i l hl)), _, dx, _, rfl, ob, ll_begin _ _ _ _, _, rfl, upd F17 b2 (.lst us2), _, _, _, (n : Int), l.an, l.kp, l.bg, .ref b2, out, rfl, S17.same, L17, by omega, eokA, k17, by have := g17.len; omega, fun i hi => (nomatch g17.bad.symm.trans hi), fun _ => ⟨fun z => by omega, fun _ => ⟨fun ⟨q, h1, h2⟩ => absurd ((fw.mem q).mpr (mem_append.mpr (.inr ((held.mem q).mpr h1)))) h2, fun _ F18 H18 X18 A18 => ?_⟩⟩⟩
                have S18 := S17.leadX (r := 0) (l' := ⟨l.term, l.me, l.an, l.kp, true, l.late⟩) hl (by decide) X18 rfl rfl rfl A18
                exact key _ _ ⟨F18, _, _, _, _, _, _, rfl, S18, G17.begin hl hn2, mo10.trans (more_set mo), m10.trans (m17.trans X18.ff), .inr ⟨i, _, get_set (T3.il hl), rfl⟩⟩
        rintro _ H14 ⟨F14, sd1, ls1, w8, w9, w13, w14, rfl, S14, G14, mo14, m14, hv14⟩
        clear S13
        try dsimp only
        refine seq_join (fun σ H' => ∃ F' sd' ls' sh' y8 y9 y10 y13 y14, σ = [some (.ref s), some (.ref (pl 0)), some (.ref D), some (.ref (pl 4)), some (.ref (pl 5)), some (.int (0 + (t : Int))), some (.ref E1), some (.int kd), y8, y9, y10, some v, y12, y13, y14] ∧ T3 K CS CL s ns n pl dk0 D F' H' sd' ls' sh' ∧ G3 n (t + 1) sd' ls' sh' ∧ More n sd sd' ∧ Same F7 F' ∧ ∀ x ∈ sh', G9 x.2) ?_ fun key => ?_
        rotate_left
        · rcases hv14 with rfl | ⟨i, l, hl, rfl⟩
          · exact ⟨_, rfl, false, rfl, iteF (iteF (key _ _ ⟨F14, sd1, ls1, sh, _, _, _, _, _, rfl, S14, G14.le hT0, mo14, m14, hsh⟩))⟩
          · refine ⟨_, rfl, true, rfl, iteT ⟨_, rfl, _, _, rfl, rfl, _, rfl, iteL (fun c => ?_) (fun c => iteF (key _ _ ⟨F14, sd1, ls1, sh, _, _, _, _, _, rfl, S14, G14.le hT0, mo14, m14, hsh⟩))⟩⟩
            obtain ⟨dx, ob⟩ := (S14.lead i l hl).ob
            refine ⟨_, rfl, dk0 i, _, rfl, DGet.k (k := Sum.inr "lead") (S14.same _ _ (S14.dks i l hl)), _, dx, _, rfl, ob, ll_leads _ _ _ _, F14, _, _, _, (n : Int), l.an, l.kp, l.bg, rfl, S14.lead i l hl, l.bg, rfl, ?_⟩
            clear ob
            cases hbg : l.bg with
            | false => exact iteF (key _ _ ⟨F14, sd1, ls1, sh, _, _, _, _, _, rfl, S14, G14.le hT0, mo14, m14, hsh⟩)
            | true =>
              obtain rfl : T0 = t := hT3 (by omega)
              have tsh := G14.tsh
              refine iteT ⟨_, rfl, _, rfl, _, rfl, F14, s, ns, n, T0, pl, dk0, D, sd1, ls1, sh, i, l, rfl, (ep 1 (by omega)).trans v1, (ep 2 (by omega)).trans v2, (ep 3 (by omega)).trans v3, S14, G14, by omega, hl, fun F15 H15 sd2 l2 S15 G15 mo15 m15 et eb ea => ?_⟩
              have hl2 : (ls1.set i l2)[i]? = some l2 := get_set (T3.il hl)
              have mm15 := m14.trans m15
              have mo2 := mo14.trans mo15
              clear S14 G14 mo14 m14 mo15 m15
              generalize ls1.set i l2 = ls2 at S15 G15 hl2
              have ml2 := List.mem_of_getElem? hl2
              have n20 := G15.n2
              obtain ⟨dx, ob⟩ := (S15.lead i l2 hl2).ob
              refine ⟨_, rfl, dk0 i, _, rfl, DGet.k (k := Sum.inr "lead") (S15.same _ _ (S15.dks i l2 hl2)), _, dx, _, rfl, ob, ll_shown _ _ _ _, F15, _, _, _, (n : Int), l2.an, l2.kp, l2.bg, rfl, S15.same, S15.lead i l2 hl2, by omega, G15.eokK ml2, fun z => (nomatch (eb.trans hbg).symm.trans z), fun _ => ?_⟩
              clear ob
              intro F16 H16 b us rs X16 nb fb hb hp held
              have S16 := (S15.quiet (.of X16)).fz (fun i hi => S15.ne nb i hi) fb hb
              have g16 := G15.shown9 ml2 held
              have hb16 : upd F16 b (.lst us) b = some (.lst us) := upd_same
              have pb16 := pr_mono (fun _ _ z => kRow.mono (same_upd (o := .lst us) fb) z) hp
              have m16 := mm15.trans (X16.ff.trans (same_upd (o := .lst us) fb))
              revert S16 hb16 pb16 m16
              generalize upd F16 b (.lst us) = F17
              intro S16 hb16 pb16 m16
              clear S15 X16 nb fb hb hp mm15
              obtain ⟨vs5, h5, p5⟩ := S16.hS
              refine ⟨_, rfl, .inl ⟨rfl, _, SqL.of h5⟩, _, rfl, dk0 i, _, rfl, DGet.k (k := Sum.inr "term") (S16.same _ _ (S16.dks i l2 hl2)), _, rfl, by show 2 ≤ sizeLine; decide, fun tt ntt => ?_⟩
              have S17 := S16.quiet ((XM.refl S16.same).lay (o := .tup [.int l2.term, .ref b]) ntt)
              have mt := same_upd (o := .tup [.int l2.term, .ref b]) (S16.same.free ntt)
              have kt : kTel.is (upd F17 tt (.tup [.int l2.term, .ref b])) (.ref tt) (l2.term, rs) := ⟨tt, .ref b, rfl, upd_same, ⟨b, us, rfl, mt _ _ hb16, pr_mono (fun _ _ z => kRow.mono mt z) pb16⟩⟩
              have kb : (kL kRow).is (upd F17 tt (.tup [.int l2.term, .ref b])) (.ref b) rs := ⟨b, us, rfl, mt _ _ hb16, pr_mono (fun _ _ z => kRow.mono mt z) pb16⟩
              have h517 : upd H16 tt (.tup [.int l2.term, .ref b]) (pl 5) = some (.lst vs5) := by rw [upd_ne (ne_of_none h5 ntt)]; exact h5
              have p517 := pr_mono (fun _ _ z => kTel.mono mt z) p5
              have m17 := m16.trans mt
              revert S17 kt kb h517 p517 m17
              generalize upd F17 tt (.tup [V.int l2.term, .ref b]) = F18
              generalize upd H16 tt (.tup [V.int l2.term, .ref b]) = H18
              intro S17 kt kb h517 p517 m17
              clear S16 h5 p5 m16 mt ntt hb16 pb16
              refine ⟨_, _, _, rfl, rfl, h517, by rw [pr_len p517, sizeLine_eq]; omega, ?_⟩
              have S18 := S17.shown (pr_snoc p517 kt)
              have G18 := G15.show ml2 (fun p z => (held.mem p).mp z) (by omega)
              have hsh18 : ∀ x ∈ sh ++ [(l2.term, rs)], G9 x.2 := fun x hx => by
                rcases List.mem_append.mp hx with z | z
                · exact hsh x z
                · rw [List.mem_singleton.mp z]; exact g16
              revert S18
              generalize upd H18 (pl 5) (.lst (vs5 ++ [V.ref tt])) = H19
              intro S18
              clear S17 h517
              try dsimp only
              refine ⟨_, rfl, pl 4, rfl, ⟨_, SqL.of S18.hL⟩, for_list (K := K) (a := pl 4) (xs := (List.range ls2.length).map fun i => V.ref (dk0 i)) (fun j σ H' => ∃ F' y10, σ = [some (.ref s), some (.ref (pl 0)), some (.ref D), some (.ref (pl 4)), some (.ref (pl 5)), some (.int (0 + (T0 : Int))), some (.ref E1), some (.int kd), w8, some (.ref b), y10, some (.ref (dk0 i)), y12, w13, w14] ∧ T3 K CS CL s ns n pl dk0 D F' H' sd2 ls2 (sh ++ [(l2.term, rs)]) ∧ Same F18 F')
                ⟨F18, _, rfl, S18, Same.refl _⟩ (fun j σ H' _ ⟨F', _, _, S', _⟩ => SqL.of S'.hL) ?_ ?_⟩
              · rintro j x σ H20 hj ⟨F20, y10', rfl, S20, m20⟩
                have jl : j < ls2.length := by
                  have := (List.getElem?_eq_some_iff.mp hj).1
                  rwa [List.length_map, List.length_range] at this
                rw [List.getElem?_map, List.getElem?_range jl] at hj
                cases hj
                have hl3 : ls2[j]? = some ls2[j] := List.getElem?_eq_getElem jl
                generalize ls2[j] = l3 at hl3
                have ml3 := List.mem_of_getElem? hl3
                refine ⟨_, rfl, dk0 j, _, rfl, DGet.k (k := Sum.inr "term") (S20.same _ _ (S20.dks j l3 hl3)), _, rfl, dk0 i, _, rfl, DGet.k (k := Sum.inr "term") (S20.same _ _ (S20.dks i l2 hl2)), _, _, rfl, rfl, _, rfl, iteL (fun c => ?_) (fun c => iteF ⟨F20, _, rfl, S20, m20⟩)⟩
                obtain ⟨dx, ob⟩ := (S20.lead j l3 hl3).ob
                refine ⟨_, rfl, dk0 j, _, rfl, DGet.k (k := Sum.inr "lead") (S20.same _ _ (S20.dks j l3 hl3)), _, dx, _, rfl, ob, ll_leads _ _ _ _, F20, _, _, _, (n : Int), l3.an, l3.kp, l3.bg, rfl, S20.lead j l3 hl3, l3.bg, rfl, ?_⟩
                cases hbg3 : l3.bg with
                | false => exact iteF (iteF ⟨F20, _, rfl, S20, m20⟩)
                | true =>
                  have hn3 := G15.inv.beg l3 ml3 hbg3
                  refine iteT ⟨_, rfl, _, rfl, dk0 j, _, rfl, DGet.k (k := Sum.inr "lead") (S20.same _ _ (S20.dks j l3 hl3)), _, dx, _, rfl, ob, ll_must _ _ _ _, F20, _, _, _, (n : Int), l3.an, l3.kp, l3.bg, rfl, S20.same, S20.lead j l3 hl3, by omega, G15.eokA ml3, fun z => absurd z (Int.not_lt.mpr hn3), fun _ => ?_⟩
                  intro F21 H21 b3 us3 ms X21 nb3 fb3 hb3 hp3 held3
                  have S21 := (S20.quiet (.of X21)).fz (fun i hi => S20.ne nb3 i hi) fb3 hb3
                  have g3 := G15.must9 ml3 held3
                  have k3 : (kL kRow).is (upd F21 b3 (.lst us3)) (.ref b3) ms := ⟨b3, us3, rfl, upd_same, pr_mono (fun _ _ z => kRow.mono (same_upd fb3) z) hp3⟩
                  have m21 := m20.trans (X21.ff.trans (same_upd (o := .lst us3) fb3))
                  refine ⟨upd F21 b3 (.lst us3), .ref b, .ref b3, rs, ms, rfl, S21.same, (kL kRow).mono m21 kb, k3, g16.rok, g3.rok, fun bb F22 H22 X22 hbb => ⟨bb, rfl, ?_⟩⟩
                  have bt : bb = true := hbb.mpr fun p hp => (held3.mem p).mpr (G15.inv.safe ml2 ml3 c hn3 ((held.mem p).mp hp))
                  subst bt
                  exact iteF ⟨F22, _, rfl, S21.quiet (.of X22), m21.trans X22.ff⟩
              · rintro σ H20 ⟨F20, y10', rfl, S20, m20⟩
                exact key _ _ ⟨F20, sd2, ls2, _, _, _, _, _, _, rfl, S20, G18, mo2, m17.trans m20, hsh18⟩
        rintro _ H20 ⟨F20, sd2, ls2, sh2, w8', w9', w10', w13', w14', rfl, S20, G20, mo20, m20, hsh20⟩
        try dsimp only
        refine ⟨_, rfl, _, _, rfl, .inl ⟨_, SqL.of (S20.same _ _ S20.fLs), rfl⟩, ?_⟩
        rw [List.length_map, List.length_range]
        have n20 := G20.n2
        have n60 := G20.n6
        refine ⟨(n : Int), rfl, by omega, by omega, fun D3 nD3 => ?_⟩
        refine it_by (walk_range (lo := 0) (n := ((n : Int)).toNat)) (fun j H' => ∃ F', T3 K CS CL s ns n pl dk0 D F' H' sd2 ls2 sh2 ∧ H' D3 = some (.lst []) ∧ F' D3 = none ∧ Same F20 F')
          ⟨F20, S20.quiet ((XM.refl S20.same).tmp nD3), upd_same, S20.same.free nD3, Same.refl _⟩ (fun _ _ _ _ => trivial) ?_ ?_
        · rintro j x _ H21 hj ⟨F21, S21, hD21, fD21, m21⟩ ⟨rfl, rfl⟩
          rw [Int.toNat_natCast] at hj
          refine ⟨rfl, ?_⟩
          have hE21 := S21.same _ _ (m21 _ _ (m20 _ _ kE))
          obtain ⟨y, hy, ky⟩ := pr_get' pac7 (by rw [List.getElem?_map, List.getElem?_range hj]; rfl)
          obtain ⟨dx, ra, ob, _⟩ := (S21.seats j hj).ob
          refine ⟨_, rfl, _, rfl, E1, acc, _, _, rfl, rfl, SqL.of hE21, by rw [Int.zero_add]; exact atI_nat hy, ?_⟩
          refine ⟨_, rfl, _, rfl, D, _, _, _, rfl, rfl, SqL.of (S21.same _ _ S21.fLs), by rw [Int.zero_add]; exact atI_nat (by rw [List.getElem?_map, List.getElem?_range hj]; rfl), pl (6 + j), dx, _, rfl, ob, sl_holds _ _, F21, pl (6 + j), (sd2 j).rs, (sd2 j).t, rfl, S21.same, S21.seats j hj, fun F22 H22 a vs out X22 na fa ha hp eo => ?_⟩
          subst eo
          have Y := XM.of X22
          have S22 := (S21.quiet Y).fz (fun i hi => S21.ne na i hi) fa ha
          have hD22 := Y.hh _ _ hD21 id
          have aD : D3 ≠ a := ne_of_none hD21 na
          have fD22 : upd F22 a (.lst vs) D3 = none := by rw [upd_ne aD, Y.nw _ _ hD21 fun xs z => by cases z]; exact fD21
          have m22 := X22.ff.trans (same_upd (o := .lst vs) fa)
          refine ⟨upd F22 a (.lst vs), y, .ref a, _, _, rfl, S22.same, (kL kRow).mono (m20.trans (m21.trans m22)) ky, ⟨a, vs, rfl, upd_same, pr_mono (fun _ _ z => kRow.mono (same_upd fa) z) hp⟩, (G5.seats j hj).1.rok, (G20.seats j hj).1.rok, fun bb F23 H23 X23 hbb => ⟨bb, rfl, ?_⟩⟩
          have bt : bb = true := hbb.mpr fun p hp => mo20 j hj p hp
          subst bt
          have Y3 := XM.of X23
          exact iteF ⟨F23, S22.quiet Y3, Y3.hh _ _ hD22 id, by rw [Y3.nw _ _ hD22 fun xs z => by cases z]; exact fD22, m21.trans (m22.trans X23.ff)⟩
        · rintro H21 ⟨F21, S21, hD21, fD21, m21⟩
          refine ⟨Nat.zero_le _, fun e0 ne0 => ?_⟩
          have X1 := (XM.refl (M := M0) S21.same).tmp (o := .lst []) ne0
          refine ⟨D3, e0, _, rfl, rfl, SqL.of (X1.hh _ _ hD21 id), SqL.of upd_same, _, rfl, iteF ?_⟩
          exact ⟨_, pl, dk0, sd2, ls2, sh2, _, _, _, _, _, _, _, _, _, _, rfl, S21.quiet X1, G20, (ep 1 (by omega)).trans v1, (ep 2 (by omega)).trans v2, (ep 3 (by omega)).trans v3, hsh20⟩
      · rintro σ H5 ⟨F5, plx, dk, sd, ls, sh, y5, y6, y7, y8, y9, y10, y11, y12, y13, y14, rfl, S5, G5, v1, v2, v3, hsh⟩
        exact q _
end
end Rw
namespace Rw
open PySem PySem.Spec PyProof.Rows L2
/-! ### what the head tells -/
def HasFn (K : PySem.W.Frag) (x : Str) (st : Stmt) : Prop := ∃ (f : Addr) (oc : Value) (od an : Option Addr) (osl : Array (Option Value)) (kV doc pm cdv ct : Value),
  PySem.W.nsIn K mainGlobals x = some (some (.ref f)) ∧ K.lookup f = some ⟨oc, od, .func (PySem.W.fnOf x x (defArgs st) (defBody st) (defScope st) .none kV doc pm an cdv ct), osl⟩ ∧ PySem.W.codeIn K cdv x = true ∧ PySem.W.keepIn K (.ref f) = true
theorem has_mk {K : PySem.W.Frag} {x : Str} {st : Stmt} {f : Addr} {oc : Value} {od an : Option Addr} {osl : Array (Option Value)} {kV doc pm cdv ct : Value}
    (a : PySem.W.nsIn K mainGlobals x = some (some (.ref f))) (l : K.lookup f = some ⟨oc, od, .func (PySem.W.fnOf x x (defArgs st) (defBody st) (defScope st) .none kV doc pm an cdv ct), osl⟩) (c : PySem.W.codeIn K cdv x = true) (k : PySem.W.keepIn K (.ref f) = true) : HasFn K x st :=
  ⟨f, oc, od, an, osl, kV, doc, pm, cdv, ct, a, l, c, k⟩
def tabOkIn (K : PySem.W.Frag) (x : Str) : Bool := match PySem.W.tabIn K x with
  | some (_, P) => (K.lookup P).isNone
  | none => false
theorem tab_ok {K : PySem.W.Frag} {x : Str} (h : tabOkIn K x = true) : ∃ c P, PySem.W.tabIn K x = some (c, P) ∧ K.lookup P = none := by
  unfold tabOkIn at h
  split at h
  · rename_i c P e
    exact ⟨c, P, e, Option.isNone_iff_eq_none.mp h⟩
  · cases h
def HasInt (K : PySem.W.Frag) (x : Str) (z : Int) : Prop := ∃ t, PySem.W.nsIn K mainGlobals x = some (some (.int z t))
theorem int_mk {K : PySem.W.Frag} {x : Str} {z : Int} {t : Tok} (a : PySem.W.nsIn K mainGlobals x = some (some (.int z t))) : HasInt K x z := ⟨t, a⟩
theorem HasFn.fn {K : PySem.W.Frag} {x : Str} {st : Stmt} {h : Heap} {mg : Str → Option Value} (H : HasFn K x st) (X : K.In h) (G : h.Ns mainGlobals mg) : ∃ (f : Addr) (fd : FuncData), Fun K x x st f fd ∧ mg x = some (.ref f) := by
  obtain ⟨f, oc, od, an, osl, kV, doc, pm, cdv, ct, a, l, c, k⟩ := H
  exact ⟨f, _, fun_mk (st := st) l c k, PySem.W.mg_of X G a⟩
theorem HasInt.mg {K : PySem.W.Frag} {x : Str} {z : Int} {h : Heap} {mg : Str → Option Value} (H : HasInt K x z) (X : K.In h) (G : h.Ns mainGlobals mg) : ∃ t, mg x = some (.int z t) := by
  obtain ⟨t, a⟩ := H
  exact ⟨t, PySem.W.mg_of X G a⟩
def HasMeth (K : PySem.W.Frag) (C : Addr) (m q : Str) (st : Stmt) : Prop := ∃ (f : Addr) (oc : Value) (od an : Option Addr) (osl : Array (Option Value)) (kV doc pm cdv ct : Value),
  PySem.W.findIn K (.ref C) m = some (some (.ref f)) ∧ PySem.W.isFn K (.ref f) = true ∧ K.lookup f = some ⟨oc, od, .func (PySem.W.fnOf m q (defArgs st) (defBody st) (defScope st) .none kV doc pm an cdv ct), osl⟩ ∧ PySem.W.codeIn K cdv q = true ∧ PySem.W.keepIn K (.ref f) = true
theorem meth_mk {K : PySem.W.Frag} {C : Addr} {m q : Str} {st : Stmt} {f : Addr} {oc : Value} {od an : Option Addr} {osl : Array (Option Value)} {kV doc pm cdv ct : Value} (a : PySem.W.findIn K (.ref C) m = some (some (.ref f))) (i : PySem.W.isFn K (.ref f) = true)
    (l : K.lookup f = some ⟨oc, od, .func (PySem.W.fnOf m q (defArgs st) (defBody st) (defScope st) .none kV doc pm an cdv ct), osl⟩) (c : PySem.W.codeIn K cdv q = true) (k : PySem.W.keepIn K (.ref f) = true) : HasMeth K C m q st :=
  ⟨f, oc, od, an, osl, kV, doc, pm, cdv, ct, a, i, l, c, k⟩
structure IsSeat (K : PySem.W.Frag) (C : Addr) : Prop where
  aC : PySem.W.nsIn K mainGlobals "Seat" = some (some (.ref C))
  pg : PySem.W.plainGet K C Str.empty = true
  hd : PySem.W.hasDictIn K C = true
  po : PySem.W.plainOver K C = true
  sa : PySem.W.findIn K (.ref C) "__setattr__" = some (some (.builtin "object.__setattr__"))
  mks : PySem.W.makesIn K C = true
  kc : PySem.W.keepIn K (.ref C) = true
  n_rows : PySem.W.findIn K (.ref C) "_rows" = some none
  n_term : PySem.W.findIn K (.ref C) "_term" = some none
  m_holds : HasMeth K C "holds" "Seat.holds" s_Seat_holds
  m_hold : HasMeth K C "hold" "Seat.hold" s_Seat_hold
  m_ask : HasMeth K C "ask" "Seat.ask" s_Seat_ask
  m_keep : HasMeth K C "keep" "Seat.keep" s_Seat_keep
  m_init : HasMeth K C "__init__" "Seat.__init__" s_Seat___init__
theorem isSeat_mk {K : PySem.W.Frag} {C : Addr} (I : IsSeat K C) : ∃ C, IsSeat K C := ⟨C, I⟩
structure IsLead (K : PySem.W.Frag) (C : Addr) : Prop where
  aC : PySem.W.nsIn K mainGlobals "Lead" = some (some (.ref C))
  pg : PySem.W.plainGet K C Str.empty = true
  hd : PySem.W.hasDictIn K C = true
  po : PySem.W.plainOver K C = true
  sa : PySem.W.findIn K (.ref C) "__setattr__" = some (some (.builtin "object.__setattr__"))
  mks : PySem.W.makesIn K C = true
  kc : PySem.W.keepIn K (.ref C) = true
  n_many : PySem.W.findIn K (.ref C) "_many" = some none
  n_answers : PySem.W.findIn K (.ref C) "_answers" = some none
  n_told : PySem.W.findIn K (.ref C) "_told" = some none
  n_begun : PySem.W.findIn K (.ref C) "_begun" = some none
  m__most : HasMeth K C "_most" "Lead._most" s_Lead__most
  m__check_begun : HasMeth K C "_check_begun" "Lead._check_begun" s_Lead__check_begun
  m_leads : HasMeth K C "leads" "Lead.leads" s_Lead_leads
  m_heard : HasMeth K C "heard" "Lead.heard" s_Lead_heard
  m_must : HasMeth K C "must" "Lead.must" s_Lead_must
  m_begin : HasMeth K C "begin" "Lead.begin" s_Lead_begin
  m_kept : HasMeth K C "kept" "Lead.kept" s_Lead_kept
  m_shown : HasMeth K C "shown" "Lead.shown" s_Lead_shown
  m_init : HasMeth K C "__init__" "Lead.__init__" s_Lead___init__
theorem isLead_mk {K : PySem.W.Frag} {C : Addr} (I : IsLead K C) : ∃ C, IsLead K C := ⟨C, I⟩
def tabNeB (K : PySem.W.Frag) (x y : Str) : Bool := match PySem.W.tabIn K x, PySem.W.tabIn K y with
  | some (_, P), some (_, P') => !decide (P = P')
  | _, _ => false
theorem tab_ne {K : PySem.W.Frag} {x y : Str} {c P c' P' : Addr} (h : tabNeB K x y = true) (a : PySem.W.tabIn K x = some (c, P)) (b : PySem.W.tabIn K y = some (c', P')) : P ≠ P' := by
  unfold tabNeB at h
  rw [a, b] at h
  intro e
  simp [e] at h
/-- a class of refusals with its own dict, over ValueError -/
def oexB (K : PySem.W.Frag) (C : Addr) : Bool := match K.lookup C with
  | some { cls := .type t, dict := _, data := .cls c, slots := z } => t == "type" && (c.hasDict && (!c.hasDel && ((match c.mro with | .ref D :: m => D == C && PySem.HandSPX.refsVE m | _ => false) &&
      (match z.toList with | [_, _, _, _, some (.builtin n), _] => n == "ValueError.__new__" | _ => false))))
  | _ => false
theorem oexB_ok {K : PySem.W.Frag} {C : Addr} (h : oexB K C = true) : ∃ nm q N bs bm sn sub ab col dd k0 k1 k2 k3 k5, K.lookup C = some (excClassObj nm q C N bs bm true sn sub ab col dd k0 k1 k2 k3 k5 "ValueError.__new__") ∧ PySem.HandSPX.refsVE bm = true := by
  unfold oexB at h
  split at h
  · rename_i t dd c z ho
    simp only [Bool.and_eq_true, beq_iff_eq, Bool.not_eq_true'] at h
    obtain ⟨rfl, h1, h2, h3, h4⟩ := h
    split at h3
    · rename_i D m em
      split at h4
      · rename_i k0 k1 k2 k3 n k5 ez
        simp only [Bool.and_eq_true, beq_iff_eq] at h3 h4
        obtain ⟨rfl, hm⟩ := h3
        subst h4
        obtain ⟨l⟩ := z
        obtain ⟨nm, bs, mro, ns, qn, hd, sn, sub, ab, col, del⟩ := c
        simp only at em ez h1 h2
        subst em ez h1 h2
        exact ⟨nm, qn, ns, bs, m, sn, sub, ab, col, dd, k0, k1, k2, k3, k5, ho, hm⟩
      · cases h4
    · cases h3
  · cases h
/-- the refusals without a number -/
def exPlainB (K : PySem.W.Frag) (i : Nat) : Bool := PySem.W.excIn K (exC K i) [.type "ValueError", .type "Exception", .type "BaseException", .type "object"] "ValueError.__new__" && (PySem.W.keepIn K (.ref (exC K i)) && (decide (PySem.W.subIn K (.ref (exC K i)) (.type "BaseException") = some true) && decide (PySem.W.typeIn K (.ref (exC K i)) = some (.type "type"))))
theorem exMk_of {K : PySem.W.Frag} {mg : Str → Option Value} {i : Nat} (T : ToldC K mg) (hi : i < 9) (h : exPlainB K i = true) : ExMk K mg i := by
  unfold exPlainB at h
  simp only [Bool.and_eq_true, decide_eq_true_eq] at h
  exact ⟨h.1, T.g i hi, h.2.1, h.2.2.1, h.2.2.2⟩
theorem exC_of {K : PySem.W.Frag} {C : Addr} (i : Nat) {x : Str} (hx : exN.getD i "" = x) (a : PySem.W.nsIn K mainGlobals x = some (some (.ref C))) : exC K i = C := by
  unfold exC exAddr
  rw [hx, a]
  rfl
/-- a refusal that keeps a number -/
def HasEx0 (K : PySem.W.Frag) : Prop := ∃ (C fI : Addr) (oc : Value) (od an : Option Addr) (osl : Array (Option Value)) (kV doc pm cdv ct : Value), PySem.W.nsIn K mainGlobals "BadStretches" = some (some (.ref C)) ∧ OexC K C ∧ PySem.W.findIn K (.ref C) "__init__" = some (some (.ref fI)) ∧
  PySem.W.typeIn K (.ref fI) = some (.type "function") ∧ K.lookup fI = some ⟨oc, od, .func (PySem.W.fnOf "__init__" "BadStretches.__init__" (defArgs s_BadStretches___init__) (defBody s_BadStretches___init__) (defScope s_BadStretches___init__) .none kV doc pm an cdv ct), osl⟩ ∧
  PySem.W.codeIn K cdv "BadStretches.__init__" = true ∧ PySem.W.keepIn K (.ref fI) = true ∧ PySem.W.findIn K (.ref C) "at" = some none
theorem ex0_mk {K : PySem.W.Frag} {C fI : Addr} {oc : Value} {od an : Option Addr} {osl : Array (Option Value)} {kV doc pm cdv ct : Value} 
    (a : PySem.W.nsIn K mainGlobals "BadStretches" = some (some (.ref C))) (lc : oexB K C = true) (sa : PySem.W.findIn K (.ref C) "__setattr__" = some (some (.builtin "object.__setattr__")))
    (ec : PySem.W.subIn K (.ref C) (.type "BaseException") = some true) (ty : PySem.W.typeIn K (.ref C) = some (.type "type")) (kc : PySem.W.keepIn K (.ref C) = true) (i : PySem.W.findIn K (.ref C) "__init__" = some (some (.ref fI))) (t : PySem.W.typeIn K (.ref fI) = some (.type "function"))
    (l : K.lookup fI = some ⟨oc, od, .func (PySem.W.fnOf "__init__" "BadStretches.__init__" (defArgs s_BadStretches___init__) (defBody s_BadStretches___init__) (defScope s_BadStretches___init__) .none kV doc pm an cdv ct), osl⟩) (c : PySem.W.codeIn K cdv "BadStretches.__init__" = true) (k : PySem.W.keepIn K (.ref fI) = true)
    (n : PySem.W.findIn K (.ref C) "at" = some none) : HasEx0 K :=
  ⟨C, fI, oc, od, an, osl, kV, doc, pm, cdv, ct, a, ⟨oexB_ok lc, sa, ec, ty, kc⟩, i, t, l, c, k, n⟩
structure Head (K : PySem.W.Frag) : Prop where
  fis_number : HasFn K "is_number" s_is_number
  fis_house : HasFn K "is_house" s_is_house
  fis_row : HasFn K "is_row" s_is_row
  ffirst_wrong : HasFn K "first_wrong" s_first_wrong
  fcheck_rows : HasFn K "check_rows" s_check_rows
  fchanges_of : HasFn K "changes_of" s_changes_of
  freaching : HasFn K "reaching" s_reaching
  ffewest : HasFn K "fewest" s_fewest
  fheld_by_many : HasFn K "held_by_many" s_held_by_many
  fwithout : HasFn K "without" s_without
  f_law_dice : HasFn K "_law_dice" s_law_dice
  f_law_next : HasFn K "_law_next" s_law_next
  fcheck_many : HasFn K "check_many" s_check_many
  fwithin : HasFn K "within" s_within
  fcheck_one_of : HasFn K "check_one_of" s_check_one_of
  f_law_told : HasFn K "_law_told" s_law_told
  f_law_ask : HasFn K "_law_ask" s_law_ask
  f_law_bring : HasFn K "_law_bring" s_law_bring
  flaw : HasFn K "law" s_law
  last : HasInt K "LAST_HOUSE" 7
  most : HasInt K "MOST_ROWS" 200
  leasth : HasInt K "LEAST_HOUSES" 2
  mosth : HasInt K "MOST_HOUSES" 6
  first : HasInt K "FIRST_TERM" 1
  t_law_ask : tabOkIn K "_law_ask" = true
  t_law_bring : tabOkIn K "_law_bring" = true
  tlaw : tabOkIn K "law" = true
  zisinstance : PySem.W.nsIn K mainGlobals "isinstance" = some none
  zint : PySem.W.nsIn K mainGlobals "int" = some none
  zbool : PySem.W.nsIn K mainGlobals "bool" = some none
  ztuple : PySem.W.nsIn K mainGlobals "tuple" = some none
  zlist : PySem.W.nsIn K mainGlobals "list" = some none
  zlen : PySem.W.nsIn K mainGlobals "len" = some none
  zenumerate : PySem.W.nsIn K mainGlobals "enumerate" = some none
  zsorted : PySem.W.nsIn K mainGlobals "sorted" = some none
  zrange : PySem.W.nsIn K mainGlobals "range" = some none
  zmin : PySem.W.nsIn K mainGlobals "min" = some none
  zmax : PySem.W.nsIn K mainGlobals "max" = some none
  zValueError : PySem.W.nsIn K mainGlobals "ValueError" = some none
  isSeat : ∃ C, IsSeat K C
  isLead : ∃ C, IsLead K C
  ex0 : HasEx0 K
  ex1 : exPlainB K 1 = true
  ex6 : exPlainB K 6 = true
  ex7 : exPlainB K 7 = true
  tne1 : tabNeB K "_law_ask" "_law_bring" = true
  tne2 : tabNeB K "_law_ask" "law" = true
  tne3 : tabNeB K "_law_bring" "law" = true
  exall : exAllB K = true
  base : BaseI K (exD K) (.type "type")
theorem tab_conv {base : Heap} {mg : Str → Option Value} {c P : Addr} (h : LamX.TabB base mg c P) : LamX.TabB base mg c P := ⟨h.code, h.bm, h.gP⟩
set_option maxHeartbeats 8000000 in
theorem all_ok {P : Program} {w : World} {K : PySem.W.Frag} {h base : Heap} {mg : Str → Option Value} {fa : Addr} {P_law_ask c_law_ask : Addr} {P_law_bring c_law_bring : Addr} {Plaw claw : Addr} (D : Head K) (X : K.In h) (G : h.Ns mainGlobals mg) (lim : ∃ t, mg "LIMIT" = some (.int LIM t)) (TB_law_ask : LamX.TabB base mg c_law_ask P_law_ask) (ht_law_ask : PySem.W.tabIn K "_law_ask" = some (c_law_ask, P_law_ask)) (TB_law_bring : LamX.TabB base mg c_law_bring P_law_bring) (ht_law_bring : PySem.W.tabIn K "_law_bring" = some (c_law_bring, P_law_bring)) (TBlaw : LamX.TabB base mg claw Plaw) (htlaw : PySem.W.tabIn K "law" = some (claw, Plaw)) {fd : FuncData} (F : FunC K "law" "law" s_law fa claw fd) : FnOk P w K mg base CX0 11 fa fd ["_law_script"] (spLaw23 K P_law_ask P_law_bring Plaw) := by
  have T0 : TxA mg := ⟨PySem.W.mg_none_of X G D.zisinstance, PySem.W.mg_none_of X G D.zint, PySem.W.mg_none_of X G D.zbool, PySem.W.mg_none_of X G D.ztuple, PySem.W.mg_none_of X G D.zlen, PySem.W.mg_none_of X G D.zenumerate, D.last.mg X G, lim, D.most.mg X G⟩
  have TB : TxB mg := ⟨PySem.W.mg_none_of X G D.zsorted⟩
  have TL : TxL mg := ⟨PySem.W.mg_none_of X G D.zint, PySem.W.mg_none_of X G D.zlen, PySem.W.mg_none_of X G D.zrange, PySem.W.mg_none_of X G D.zmin⟩
  have TV : TxV mg := ⟨PySem.W.mg_none_of X G D.zmax, PySem.W.mg_none_of X G D.zlen, PySem.W.mg_none_of X G D.zisinstance, PySem.W.mg_none_of X G D.zlist, PySem.W.mg_none_of X G D.zrange⟩
  have hmax : mg "max" = none := PySem.W.mg_none_of X G D.zmax
  have c_is_number : Cal P w K mg base 1 "is_number" ["value", "low", "high"] spIsNumber := by
    obtain ⟨f, fd, F1, g⟩ := D.fis_number.fn X G
    exact ⟨f, fd, ok_is_number F1 T0, g, F1.kp, F1.binds (ps := ["value", "low", "high"]) fun _ _ _ _ _ _ us hl => match us, hl with | [_, _, _], _ => rfl⟩
  have c_is_house : Cal P w K mg base 2 "is_house" ["value"] spIsHouse := by
    obtain ⟨f, fd, F1, g⟩ := D.fis_house.fn X G
    exact ⟨f, fd, ok_is_house F1 T0 c_is_number, g, F1.kp, F1.binds (ps := ["value"]) fun _ _ _ _ _ _ us hl => match us, hl with | [_], _ => rfl⟩
  have c_is_row : Cal P w K mg base 3 "is_row" ["row"] spIsRow := by
    obtain ⟨f, fd, F1, g⟩ := D.fis_row.fn X G
    exact ⟨f, fd, ok_is_row F1 T0 c_is_number c_is_house, g, F1.kp, F1.binds (ps := ["row"]) fun _ _ _ _ _ _ us hl => match us, hl with | [_], _ => rfl⟩
  have c_first_wrong : Cal P w K mg base 4 "first_wrong" ["rows"] spFirstWrong := by
    obtain ⟨f, fd, F1, g⟩ := D.ffirst_wrong.fn X G
    exact ⟨f, fd, ok_first_wrong F1 T0 c_is_row, g, F1.kp, F1.binds (ps := ["rows"]) fun _ _ _ _ _ _ us hl => match us, hl with | [_], _ => rfl⟩
  have c_check_rows : Cal P w K mg base 5 "check_rows" ["rows"] spCheckRows := by
    obtain ⟨f, fd, F1, g⟩ := D.fcheck_rows.fn X G
    exact ⟨f, fd, ok_check_rows F1 c_first_wrong, g, F1.kp, F1.binds (ps := ["rows"]) fun _ _ _ _ _ _ us hl => match us, hl with | [_], _ => rfl⟩
  have c_changes_of : Cal P w K mg base 1 "changes_of" ["weighed"] spChangesOf := by
    obtain ⟨f, fd, F1, g⟩ := D.fchanges_of.fn X G
    exact ⟨f, fd, ok_changes_of F1 , g, F1.kp, F1.binds (ps := ["weighed"]) fun _ _ _ _ _ _ us hl => match us, hl with | [_], _ => rfl⟩
  have c_reaching : Cal P w K mg base 2 "reaching" ["weighed", "least"] spReaching := by
    obtain ⟨f, fd, F1, g⟩ := D.freaching.fn X G
    exact ⟨f, fd, ok_reaching F1 TB c_changes_of, g, F1.kp, F1.binds (ps := ["weighed", "least"]) fun _ _ _ _ _ _ us hl => match us, hl with | [_, _], _ => rfl⟩
  have c_fewest : Cal P w K mg base 3 "fewest" ["rows"] spFewest := by
    obtain ⟨f, fd, F1, g⟩ := D.ffewest.fn X G
    exact ⟨f, fd, ok_fewest F1 c_reaching, g, F1.kp, F1.binds (ps := ["rows"]) fun _ _ _ _ _ _ us hl => match us, hl with | [_], _ => rfl⟩
  have c_held_by_many : Cal P w K mg base 4 "held_by_many" ["sets", "least"] spHeld := by
    obtain ⟨f, fd, F1, g⟩ := D.fheld_by_many.fn X G
    exact ⟨f, fd, ok_held_by_many F1 c_reaching c_fewest, g, F1.kp, F1.binds (ps := ["sets", "least"]) fun _ _ _ _ _ _ us hl => match us, hl with | [_, _], _ => rfl⟩
  have c_without : Cal P w K mg base 4 "without" ["one", "other"] spWithout := by
    obtain ⟨f, fd, F1, g⟩ := D.fwithout.fn X G
    exact ⟨f, fd, ok_without F1 c_reaching c_fewest, g, F1.kp, F1.binds (ps := ["one", "other"]) fun _ _ _ _ _ _ us hl => match us, hl with | [_, _], _ => rfl⟩
  have c__law_dice : Cal P w K mg base 1 "_law_dice" ["_law_script"] (spDice K) := by
    obtain ⟨f, fd, F1, g⟩ := D.f_law_dice.fn X G
    exact ⟨f, fd, ok_law_dice F1 TL, g, F1.kp, F1.binds (ps := ["_law_script"]) fun _ _ _ _ _ _ us hl => match us, hl with | [_], _ => rfl⟩
  have c__law_next : Cal P w K mg base 1 "_law_next" ["_law_dice_here", "_law_many"] (spNext K) := by
    obtain ⟨f, fd, F1, g⟩ := D.f_law_next.fn X G
    exact ⟨f, fd, ok_law_next F1 TL, g, F1.kp, F1.binds (ps := ["_law_dice_here", "_law_many"]) fun _ _ _ _ _ _ us hl => match us, hl with | [_, _], _ => rfl⟩
  have c_check_many : Cal P w K mg base 2 "check_many" ["many"] spCheckMany := by
    obtain ⟨f, fd, F1, g⟩ := D.fcheck_many.fn X G
    exact ⟨f, fd, ok_check_many F1 (D.leasth.mg X G) (D.mosth.mg X G) c_is_number, g, F1.kp, F1.binds (ps := ["many"]) fun _ _ _ _ _ _ us hl => match us, hl with | [_], _ => rfl⟩
  have c_within : Cal P w K mg base 6 "within" ["one", "other"] spWithin := by
    obtain ⟨f, fd, F1, g⟩ := D.fwithin.fn X G
    exact ⟨f, fd, ok_within F1 c_check_rows c_without, g, F1.kp, F1.binds (ps := ["one", "other"]) fun _ _ _ _ _ _ us hl => match us, hl with | [_, _], _ => rfl⟩
  have TC : ToldC K mg := toldC_mk X G D.exall (PySem.W.mg_none_of X G D.zisinstance) (PySem.W.mg_none_of X G D.zValueError)
  have XC : ExCal P w K mg base 0 "at" := by
    obtain ⟨C0, fI, oc, od, an, osl, kV, doc, pm, cdv, ct, a, ox, i, t, l, c1, k, n⟩ := D.ex0
    have F1 := fun_mk (st := s_BadStretches___init__) l c1 k
    have e : exC K 0 = C0 := exC_of 0 rfl a
    exact ⟨fI, _, by rw [e]; exact ox, by rw [e]; exact i, t, ok_exInit F1 TC.gD D.base, F1.binds (ps := ["self", "at"]) (fun _ _ _ _ _ _ us hl => match us, hl with | [_, _], _ => rfl), by rw [e]; exact n, TC.g 0 (by decide)⟩
  have cx_is_row : Cal P w K mg base 3 "is_row" ["row"] spIsRowX := by
    obtain ⟨f, fd, F1, g⟩ := D.fis_row.fn X G
    exact ⟨f, fd, ok_is_rowX F1 T0 c_is_number c_is_house, g, F1.kp, F1.binds (ps := ["row"]) fun _ _ _ _ _ _ us hl => match us, hl with | [_], _ => rfl⟩
  have cx_first_wrong : Cal P w K mg base 4 "first_wrong" ["rows"] spFirstWrongX := by
    obtain ⟨f, fd, F1, g⟩ := D.ffirst_wrong.fn X G
    exact ⟨f, fd, ok_first_wrongX F1 T0 cx_is_row, g, F1.kp, F1.binds (ps := ["rows"]) fun _ _ _ _ _ _ us hl => match us, hl with | [_], _ => rfl⟩
  have cx_check_rows : CalX P w K mg base 5 "check_rows" ["rows"] (spCheckRowsX K) := by
    obtain ⟨f, fd, F1, g⟩ := D.fcheck_rows.fn X G
    exact ⟨f, fd, ok_check_rowsX F1 XC cx_first_wrong, g, F1.kp, F1.binds (ps := ["rows"]) fun _ _ _ _ _ _ us hl => match us, hl with | [_], _ => rfl⟩
  have X1 : ExMk K mg 1 := exMk_of TC (by decide) D.ex1
  have X6 : ExMk K mg 6 := exMk_of TC (by decide) D.ex6
  have X7 : ExMk K mg 7 := exMk_of TC (by decide) D.ex7
  have cx_check_one_of : CalX P w K mg base 2 "check_one_of" ["which", "many"] (spCheckOneX K) := by
    obtain ⟨f, fd, F1, g⟩ := D.fcheck_one_of.fn X G
    exact ⟨f, fd, ok_check_oneX F1 X1 c_is_number, g, F1.kp, F1.binds (ps := ["which", "many"]) fun _ _ _ _ _ _ us hl => match us, hl with | [_, _], _ => rfl⟩
  obtain ⟨CS, IS⟩ := D.isSeat
  obtain ⟨CL, IL⟩ := D.isLead
  have T : TxS K mg CS := ⟨⟨IS.pg, IS.hd, IS.po, IS.sa⟩, IS.n_rows, IS.n_term, PySem.W.mg_none_of X G D.zlist, hmax, D.first.mg X G⟩
  have TQ : TxQ K mg CL := ⟨⟨IL.pg, IL.hd, IL.po, IL.sa⟩, IL.n_many, IL.n_answers, IL.n_told, IL.n_begun, PySem.W.mg_none_of X G D.zlist, PySem.W.mg_none_of X G D.zlen⟩
  have gSS := PySem.W.mg_of X G IS.aC
  have gSL := PySem.W.mg_of X G IL.aC
  have mCS_holds : CalM P w K mg base CS 1 "holds" ["self"] (spHolds K CS) := by
    obtain ⟨f, oc, od, an, osl, kV, doc, pm, cdv, ct, a, i, l, c1, k⟩ := IS.m_holds
    have F1 := fun_mk (st := s_Seat_holds) l c1 k
    exact ⟨f, _, ok_Seat_holds F1 T, ⟨a, i, k⟩, F1.binds (ps := ["self"]) fun _ _ _ _ _ _ us hl => match us, hl with | [_], _ => rfl⟩
  have mCS_hold : CalMX P w K mg base CS 6 "hold" ["self", "rows"] (spHold K CS) := by
    obtain ⟨f, oc, od, an, osl, kV, doc, pm, cdv, ct, a, i, l, c1, k⟩ := IS.m_hold
    have F1 := fun_mk (st := s_Seat_hold) l c1 k
    exact ⟨f, _, ok_Seat_hold F1 T cx_check_rows c_fewest mCS_holds, ⟨a, i, k⟩, F1.binds (ps := ["self", "rows"]) fun _ _ _ _ _ _ us hl => match us, hl with | [_, _], _ => rfl⟩
  have mCS_ask : CalMX P w K mg base CS 2 "ask" ["self", "term"] (spAsk K CS) := by
    obtain ⟨f, oc, od, an, osl, kV, doc, pm, cdv, ct, a, i, l, c1, k⟩ := IS.m_ask
    have F1 := fun_mk (st := s_Seat_ask) l c1 k
    exact ⟨f, _, ok_Seat_ask F1 T X7 mCS_holds, ⟨a, i, k⟩, F1.binds (ps := ["self", "term"]) fun _ _ _ _ _ _ us hl => match us, hl with | [_, _], _ => rfl⟩
  have mCS_keep : CalMX P w K mg base CS 7 "keep" ["self", "term", "rows"] (spKeep K CS) := by
    obtain ⟨f, oc, od, an, osl, kV, doc, pm, cdv, ct, a, i, l, c1, k⟩ := IS.m_keep
    have F1 := fun_mk (st := s_Seat_keep) l c1 k
    exact ⟨f, _, ok_Seat_keep F1 T X7 cx_check_rows mCS_hold, ⟨a, i, k⟩, F1.binds (ps := ["self", "term", "rows"]) fun _ _ _ _ _ _ us hl => match us, hl with | [_, _, _], _ => rfl⟩
  have mCL__most : CalM P w K mg base CL 1 "_most" ["self"] (spMost CL) := by
    obtain ⟨f, oc, od, an, osl, kV, doc, pm, cdv, ct, a, i, l, c1, k⟩ := IL.m__most
    have F1 := fun_mk (st := s_Lead__most) l c1 k
    exact ⟨f, _, ok_Lead__most F1 TQ, ⟨a, i, k⟩, F1.binds (ps := ["self"]) fun _ _ _ _ _ _ us hl => match us, hl with | [_], _ => rfl⟩
  have mCL__check_begun : CalMX P w K mg base CL 1 "_check_begun" ["self"] (spCheckBegun K CL) := by
    obtain ⟨f, oc, od, an, osl, kV, doc, pm, cdv, ct, a, i, l, c1, k⟩ := IL.m__check_begun
    have F1 := fun_mk (st := s_Lead__check_begun) l c1 k
    exact ⟨f, _, ok_Lead__check_begun F1 TQ X6, ⟨a, i, k⟩, F1.binds (ps := ["self"]) fun _ _ _ _ _ _ us hl => match us, hl with | [_], _ => rfl⟩
  have mCL_leads : CalM P w K mg base CL 1 "leads" ["self"] (spLeads CL) := by
    obtain ⟨f, oc, od, an, osl, kV, doc, pm, cdv, ct, a, i, l, c1, k⟩ := IL.m_leads
    have F1 := fun_mk (st := s_Lead_leads) l c1 k
    exact ⟨f, _, ok_Lead_leads F1 TQ, ⟨a, i, k⟩, F1.binds (ps := ["self"]) fun _ _ _ _ _ _ us hl => match us, hl with | [_], _ => rfl⟩
  have mCL_heard : CalMX P w K mg base CL 6 "heard" ["self", "seat", "rows"] (spHeard K CL) := by
    obtain ⟨f, oc, od, an, osl, kV, doc, pm, cdv, ct, a, i, l, c1, k⟩ := IL.m_heard
    have F1 := fun_mk (st := s_Lead_heard) l c1 k
    exact ⟨f, _, ok_Lead_heard F1 TQ cx_check_one_of cx_check_rows c_fewest, ⟨a, i, k⟩, F1.binds (ps := ["self", "seat", "rows"]) fun _ _ _ _ _ _ us hl => match us, hl with | [_, _, _], _ => rfl⟩
  have mCL_must : CalMX P w K mg base CL 5 "must" ["self"] (spMust K CL) := by
    obtain ⟨f, oc, od, an, osl, kV, doc, pm, cdv, ct, a, i, l, c1, k⟩ := IL.m_must
    have F1 := fun_mk (st := s_Lead_must) l c1 k
    exact ⟨f, _, ok_Lead_must F1 TQ X6 mCL__most c_held_by_many, ⟨a, i, k⟩, F1.binds (ps := ["self"]) fun _ _ _ _ _ _ us hl => match us, hl with | [_], _ => rfl⟩
  have mCL_begin : CalMX P w K mg base CL 6 "begin" ["self", "rows"] (spBegin K CL) := by
    obtain ⟨f, oc, od, an, osl, kV, doc, pm, cdv, ct, a, i, l, c1, k⟩ := IL.m_begin
    have F1 := fun_mk (st := s_Lead_begin) l c1 k
    exact ⟨f, _, ok_Lead_begin F1 TQ X6 cx_check_rows mCL_must c_without, ⟨a, i, k⟩, F1.binds (ps := ["self", "rows"]) fun _ _ _ _ _ _ us hl => match us, hl with | [_, _], _ => rfl⟩
  have mCL_kept : CalMX P w K mg base CL 6 "kept" ["self", "seat", "rows"] (spLKept2 K CL) := by
    obtain ⟨f, oc, od, an, osl, kV, doc, pm, cdv, ct, a, i, l, c1, k⟩ := IL.m_kept
    have F1 := fun_mk (st := s_Lead_kept) l c1 k
    exact ⟨f, _, ok_Lead_kept F1 TQ cx_check_one_of cx_check_rows c_fewest mCL__check_begun, ⟨a, i, k⟩, F1.binds (ps := ["self", "seat", "rows"]) fun _ _ _ _ _ _ us hl => match us, hl with | [_, _, _], _ => rfl⟩
  have mCL_shown : CalMX P w K mg base CL 5 "shown" ["self"] (spShown K CL) := by
    obtain ⟨f, oc, od, an, osl, kV, doc, pm, cdv, ct, a, i, l, c1, k⟩ := IL.m_shown
    have F1 := fun_mk (st := s_Lead_shown) l c1 k
    exact ⟨f, _, ok_Lead_shown F1 TQ mCL__most c_held_by_many mCL__check_begun, ⟨a, i, k⟩, F1.binds (ps := ["self"]) fun _ _ _ _ _ _ us hl => match us, hl with | [_], _ => rfl⟩
  obtain ⟨fI, oc, od, an, osl, kV, doc, pm, cdv, ct, a, i, l, c1, k⟩ := IS.m_init
  have FI := fun_mk (st := s_Seat___init__) l c1 k
  have GI := ok_Seat___init__ (P := P) (w := w) (base := base) FI T
  obtain ⟨fI2, oc2, od2, an2, osl2, kV2, doc2, pm2, cdv2, ct2, a2, i2, l2, c2, k2⟩ := IL.m_init
  have FI2 := fun_mk (st := s_Lead___init__) l2 c2 k2
  have GI2 := ok_Lead___init__ (P := P) (w := w) (base := base) FI2 TQ c_check_many
  obtain ⟨ft, fdt, Ft, gt⟩ := D.f_law_told.fn X G
  have c__law_ask : Cal P w K mg base 7 "_law_ask" ["_law_d", "_law_seats", "_law_leads"] (spAsk23 K CS CL P_law_ask P_law_bring Plaw) := by
    obtain ⟨f, oc, od, an, osl, kV, doc, pm, cdv, ct, a, l, c1, k⟩ := D.f_law_ask
    have e : cdv = .ref c_law_ask := PySem.W.law_code X G ht_law_ask (PySem.W.mg_of X G a) (X _ _ l) rfl
    subst e
    exact ⟨f, _, ok_law_ask ⟨⟨oc, od, kV, doc, pm, an, ct, osl, rfl, l, c1⟩⟩ ⟨TB_law_ask.code, TB_law_ask.bm, TB_law_ask.gP⟩ T TQ TV TC Ft gt c__law_next ⟨IL.mks, a2, i2, IL.kc⟩ gSL GI2 (FI2.binds (ps := ["self", "many"]) fun _ _ _ _ _ _ us hl => match us, hl with | [_, _], _ => rfl) mCS_ask mCL_heard, PySem.W.mg_of X G a, k,
      (fun_mk (st := s_law_ask) l c1 k).binds (ps := ["_law_d", "_law_seats", "_law_leads"]) fun _ _ _ _ _ _ us hl => match us, hl with | [_, _, _], _ => rfl⟩
  have c__law_bring : Cal P w K mg base 10 "_law_bring" ["_law_d", "_law_seats", "_law_lead"] (spBring23 K CS CL P_law_ask P_law_bring Plaw) := by
    obtain ⟨f, oc, od, an, osl, kV, doc, pm, cdv, ct, a, l, c1, k⟩ := D.f_law_bring
    have e : cdv = .ref c_law_bring := PySem.W.law_code X G ht_law_bring (PySem.W.mg_of X G a) (X _ _ l) rfl
    subst e
    exact ⟨f, _, ok_law_bring ⟨⟨oc, od, kV, doc, pm, an, ct, osl, rfl, l, c1⟩⟩ ⟨TB_law_bring.code, TB_law_bring.bm, TB_law_bring.gP⟩ T TQ TV TC Ft gt c__law_next mCS_holds mCS_keep mCL_leads mCL_kept, PySem.W.mg_of X G a, k,
      (fun_mk (st := s_law_bring) l c1 k).binds (ps := ["_law_d", "_law_seats", "_law_lead"]) fun _ _ _ _ _ _ us hl => match us, hl with | [_, _, _], _ => rfl⟩
  exact ok_law F ⟨TBlaw.code, TBlaw.bm, TBlaw.gP⟩ T TQ TV TC Ft gt ⟨c__law_dice, c__law_next, c_within, c__law_ask, c__law_bring, mCS_holds, mCS_hold, mCL_must, mCL_shown, mCL_begin, mCL_leads⟩ ⟨IS.mks, a, i, IS.kc⟩ gSS GI (FI.binds (ps := ["self"]) fun _ _ _ _ _ _ us hl => match us, hl with | [_], _ => rfl)
theorem walk {l : PySem.W.OpenLaw} {q : Program} {loose : List Str} {lv : List (Str × PySem.W.WData)} {YP : World → Heap → Prop} {d : DefRec} {K : Params → PySem.W.Frag} (hn : l.most = some 63) (hdf : d.params.defaults = []) (hnm : d.name = "law")
    (hY : ∀ (w : World) (h : Heap), YP w h → (K w.params).In h) (hrec_law_ask : ((recsOf q).find? (fun e => e.name == ("_law_ask" : Str))).isSome = true) (hrec_law_bring : ((recsOf q).find? (fun e => e.name == ("_law_bring" : Str))).isSome = true) (hreclaw : ((recsOf q).find? (fun e => e.name == ("law" : Str))).isSome = true) (hlv : (("LIMIT" : Str), PySem.W.WData.int LIM) ∈ lv) (D : ∀ w : World, Head (K w.params)) :
    PySem.W.WalkO q loose (PySem.W.XL q lv) YP l.row.toRowW d [] (fun f vs => PySem.call f vs) := by
  refine Att.attach_callB hn hdf fun w s₀ s₁ mg mb fa o pm cd doc a vs ns G Y ho hd hcd hmg hobj hints hlen hbits hg => ?_
  have KX := hY w _ Y
  have Dw := D w
  rw [hnm] at hmg
  obtain ⟨f, oc, od, an, osl, kV, doc', pm', cdv, ct, a1, l1, c1, k1⟩ := Dw.flaw
  have e := hmg.symm.trans (PySem.W.mg_of KX G.T.g a1)
  cases e
  have lim : ∃ t, mg "LIMIT" = some (.int LIM t) := by
    obtain ⟨v, hv, hr⟩ := G.X.2.val _ hlv
    cases hr
    exact ⟨_, hv⟩
  obtain ⟨c_law_ask, P_law_ask, t_law_ask, n_law_ask⟩ := tab_ok Dw.t_law_ask
  obtain ⟨d_law_ask, hd_law_ask⟩ := Option.isSome_iff_exists.mp hrec_law_ask
  obtain ⟨hc_law_ask, hP_law_ask⟩ := PySem.W.tab_of G.T KX hd_law_ask t_law_ask
  obtain ⟨c_law_bring, P_law_bring, t_law_bring, n_law_bring⟩ := tab_ok Dw.t_law_bring
  obtain ⟨d_law_bring, hd_law_bring⟩ := Option.isSome_iff_exists.mp hrec_law_bring
  obtain ⟨hc_law_bring, hP_law_bring⟩ := PySem.W.tab_of G.T KX hd_law_bring t_law_bring
  obtain ⟨claw, Plaw, tlaw, nlaw⟩ := tab_ok Dw.tlaw
  obtain ⟨dlaw, hdlaw⟩ := Option.isSome_iff_exists.mp hreclaw
  obtain ⟨hclaw, hPlaw⟩ := PySem.W.tab_of G.T KX hdlaw tlaw
  have one : ∀ {φ : Addr × Addr → Prop} (h_law_ask : φ (c_law_ask, P_law_ask)) (h_law_bring : φ (c_law_bring, P_law_bring)) (hlaw : φ (claw, Plaw)), ∀ p ∈ [(c_law_ask, P_law_ask), (c_law_bring, P_law_bring), (claw, Plaw)], φ p := fun h_law_ask h_law_bring hlaw p hp => by
    simp only [List.mem_cons, List.not_mem_nil, or_false] at hp
    rcases hp with rfl | rfl | rfl
    · exact h_law_ask
    · exact h_law_bring
    · exact hlaw
  have ecd : cdv = .ref claw := PySem.W.law_code KX G.T.g tlaw (PySem.W.mg_of KX G.T.g a1) (KX _ _ l1) rfl
  subst ecd
  exact LamX.law_callTs (cs := [(c_law_ask, P_law_ask), (c_law_bring, P_law_bring), (claw, Plaw)]) (k := 11) (x := "_law_script") (CX := CX0) (sp := spLaw23 (K w.params) P_law_ask P_law_bring Plaw) KX G.T.g G.T.b G.T.builtins G.T.nolimit hg (one hP_law_ask hP_law_bring hPlaw) (one n_law_ask n_law_bring nlaw) (one hc_law_ask hc_law_bring hclaw) G.T.bmain hobj hints (Nat.le_trans hlen (by decide)) ⟨rfl, by decide, by decide⟩
    (fun base _ _ hT => all_ok Dw KX G.T.g lim (tab_conv (hT _ List.mem_cons_self)) t_law_ask (tab_conv (hT _ (List.mem_cons_of_mem _ List.mem_cons_self))) t_law_bring (tab_conv (hT _ (List.mem_cons_of_mem _ (List.mem_cons_of_mem _ List.mem_cons_self)))) tlaw ⟨⟨oc, od, kV, doc', pm', an, ct, osl, rfl, l1, c1⟩⟩) (fun s u => .of_eq rfl) (fun H hH hS => ⟨a, ns, rfl, hS, hH _ List.mem_cons_self, hH _ (List.mem_cons_of_mem _ List.mem_cons_self), hH _ (List.mem_cons_of_mem _ (List.mem_cons_of_mem _ List.mem_cons_self)), tab_ne Dw.tne1 t_law_ask t_law_bring, tab_ne Dw.tne2 t_law_ask tlaw, tab_ne Dw.tne3 t_law_bring tlaw, fun _ => rfl⟩) fun H e s' z => z
end Rw
open PySem PySem.W PyProof.Rows in
set_option maxRecDepth 100000 in
set_option maxHeartbeats 0 in
theorem PySem.Challenge.cw_doneranges_k23_whole_what_was_shown_is_n_holds : PySem.Challenge.rw_doneranges_k23_whole_what_was_shown_is_n.Holds := by
  w_on; o_law; k_head; (case hw => w_witness2)
  k_fill
  refine Rw.walk (l := PySem.Challenge.rw_doneranges_k23_whole_what_was_shown_is_n) rfl rfl rfl (fun w h Y => PySem.W.km_in_of Y) ?rec_law_ask ?rec_law_bring ?reclaw List.mem_cons_self ?D
  case rec_law_ask => decide +kernel
  case rec_law_bring => decide +kernel
  case reclaw => decide +kernel
  case D =>
    intro w
    constructor
    case fis_number => refine' Rw.has_mk ?a ?l ?c ?k; (case a => k_is); (case l => k_is); (case c => k_is); (case k => k_is)
    case fis_house => refine' Rw.has_mk ?a ?l ?c ?k; (case a => k_is); (case l => k_is); (case c => k_is); (case k => k_is)
    case fis_row => refine' Rw.has_mk ?a ?l ?c ?k; (case a => k_is); (case l => k_is); (case c => k_is); (case k => k_is)
    case ffirst_wrong => refine' Rw.has_mk ?a ?l ?c ?k; (case a => k_is); (case l => k_is); (case c => k_is); (case k => k_is)
    case fcheck_rows => refine' Rw.has_mk ?a ?l ?c ?k; (case a => k_is); (case l => k_is); (case c => k_is); (case k => k_is)
    case fchanges_of => refine' Rw.has_mk ?a ?l ?c ?k; (case a => k_is); (case l => k_is); (case c => k_is); (case k => k_is)
    case freaching => refine' Rw.has_mk ?a ?l ?c ?k; (case a => k_is); (case l => k_is); (case c => k_is); (case k => k_is)
    case ffewest => refine' Rw.has_mk ?a ?l ?c ?k; (case a => k_is); (case l => k_is); (case c => k_is); (case k => k_is)
    case fheld_by_many => refine' Rw.has_mk ?a ?l ?c ?k; (case a => k_is); (case l => k_is); (case c => k_is); (case k => k_is)
    case fwithout => refine' Rw.has_mk ?a ?l ?c ?k; (case a => k_is); (case l => k_is); (case c => k_is); (case k => k_is)
    case f_law_dice => refine' Rw.has_mk ?a ?l ?c ?k; (case a => k_is); (case l => k_is); (case c => k_is); (case k => k_is)
    case f_law_next => refine' Rw.has_mk ?a ?l ?c ?k; (case a => k_is); (case l => k_is); (case c => k_is); (case k => k_is)
    case fcheck_many => refine' Rw.has_mk ?a ?l ?c ?k; (case a => k_is); (case l => k_is); (case c => k_is); (case k => k_is)
    case fwithin => refine' Rw.has_mk ?a ?l ?c ?k; (case a => k_is); (case l => k_is); (case c => k_is); (case k => k_is)
    case fcheck_one_of => refine' Rw.has_mk ?a ?l ?c ?k; (case a => k_is); (case l => k_is); (case c => k_is); (case k => k_is)
    case f_law_told => refine' Rw.has_mk ?a ?l ?c ?k; (case a => k_is); (case l => k_is); (case c => k_is); (case k => k_is)
    case f_law_ask => refine' Rw.has_mk ?a ?l ?c ?k; (case a => k_is); (case l => k_is); (case c => k_is); (case k => k_is)
    case f_law_bring => refine' Rw.has_mk ?a ?l ?c ?k; (case a => k_is); (case l => k_is); (case c => k_is); (case k => k_is)
    case flaw => refine' Rw.has_mk ?a ?l ?c ?k; (case a => k_is); (case l => k_is); (case c => k_is); (case k => k_is)
    case last => refine' Rw.int_mk ?a; (case a => k_is)
    case most => refine' Rw.int_mk ?a; (case a => k_is)
    case leasth => refine' Rw.int_mk ?a; (case a => k_is)
    case mosth => refine' Rw.int_mk ?a; (case a => k_is)
    case first => refine' Rw.int_mk ?a; (case a => k_is)
    case t_law_ask => kernel_rfl
    case t_law_bring => kernel_rfl
    case tlaw => kernel_rfl
    case zisinstance => k_is
    case zint => k_is
    case zbool => k_is
    case ztuple => k_is
    case zlist => k_is
    case zlen => k_is
    case zenumerate => k_is
    case zsorted => k_is
    case zrange => k_is
    case zmin => k_is
    case zmax => k_is
    case zValueError => k_is
    case isSeat =>
      refine' Rw.isSeat_mk ?I
      (case I => constructor; (case aC => k_is); (case pg => k_is); (case hd => k_is); (case po => k_is); (case sa => k_is); (case mks => k_is); (case kc => k_is); (case n_rows => k_is); (case n_term => k_is); (case m_holds => refine' Rw.meth_mk ?a ?i ?l ?c ?k; (case a => k_is); (case i => k_is); (case l => k_is); (case c => k_is); (case k => k_is)); (case m_hold => refine' Rw.meth_mk ?a ?i ?l ?c ?k; (case a => k_is); (case i => k_is); (case l => k_is); (case c => k_is); (case k => k_is)); (case m_ask => refine' Rw.meth_mk ?a ?i ?l ?c ?k; (case a => k_is); (case i => k_is); (case l => k_is); (case c => k_is); (case k => k_is)); (case m_keep => refine' Rw.meth_mk ?a ?i ?l ?c ?k; (case a => k_is); (case i => k_is); (case l => k_is); (case c => k_is); (case k => k_is)); (case m_init => refine' Rw.meth_mk ?a ?i ?l ?c ?k; (case a => k_is); (case i => k_is); (case l => k_is); (case c => k_is); (case k => k_is)))
    case isLead =>
      refine' Rw.isLead_mk ?I
      (case I => constructor; (case aC => k_is); (case pg => k_is); (case hd => k_is); (case po => k_is); (case sa => k_is); (case mks => k_is); (case kc => k_is); (case n_many => k_is); (case n_answers => k_is); (case n_told => k_is); (case n_begun => k_is); (case m__most => refine' Rw.meth_mk ?a ?i ?l ?c ?k; (case a => k_is); (case i => k_is); (case l => k_is); (case c => k_is); (case k => k_is)); (case m__check_begun => refine' Rw.meth_mk ?a ?i ?l ?c ?k; (case a => k_is); (case i => k_is); (case l => k_is); (case c => k_is); (case k => k_is)); (case m_leads => refine' Rw.meth_mk ?a ?i ?l ?c ?k; (case a => k_is); (case i => k_is); (case l => k_is); (case c => k_is); (case k => k_is)); (case m_heard => refine' Rw.meth_mk ?a ?i ?l ?c ?k; (case a => k_is); (case i => k_is); (case l => k_is); (case c => k_is); (case k => k_is)); (case m_must => refine' Rw.meth_mk ?a ?i ?l ?c ?k; (case a => k_is); (case i => k_is); (case l => k_is); (case c => k_is); (case k => k_is)); (case m_begin => refine' Rw.meth_mk ?a ?i ?l ?c ?k; (case a => k_is); (case i => k_is); (case l => k_is); (case c => k_is); (case k => k_is)); (case m_kept => refine' Rw.meth_mk ?a ?i ?l ?c ?k; (case a => k_is); (case i => k_is); (case l => k_is); (case c => k_is); (case k => k_is)); (case m_shown => refine' Rw.meth_mk ?a ?i ?l ?c ?k; (case a => k_is); (case i => k_is); (case l => k_is); (case c => k_is); (case k => k_is)); (case m_init => refine' Rw.meth_mk ?a ?i ?l ?c ?k; (case a => k_is); (case i => k_is); (case l => k_is); (case c => k_is); (case k => k_is)))
    case ex0 => refine' Rw.ex0_mk ?a ?lc ?sa ?ec ?ty ?kc ?i ?t ?l ?c ?k ?n; (case a => k_is); (case lc => kernel_rfl); (case sa => k_is); (case ec => k_is); (case ty => k_is); (case kc => k_is); (case i => k_is); (case t => k_is); (case l => k_is); (case c => k_is); (case k => k_is); (case n => k_is)
    case ex1 => kernel_rfl
    case ex6 => kernel_rfl
    case ex7 => kernel_rfl
    case tne1 => kernel_rfl
    case tne2 => kernel_rfl
    case tne3 => kernel_rfl
    case exall => kernel_rfl
    case base => constructor; (case rd => kernel_rfl); (case ga => kernel_rfl); (case fi => kernel_rfl)
#print axioms PySem.Challenge.cw_doneranges_k23_whole_what_was_shown_is_n_holds
