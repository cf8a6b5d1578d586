import PyProof.Rows.All
import Wide.All
import OpenK.AllK
import Wide.FinOn
import KE.KStateDown
import HandS.ForMost
import HandS.Evl
import HandS.Conv
import HandS.Zip
import HandS.TupAny
import HandS.TupMul
import HandS.Gcd
import HandS.IsInst
import HandS.Style
import HandS.RaiseMore
import HandS.Walk
import HandS.Wide
import HandS.WideBits
import HandS.Defaults
import HandS.HeadEnd
import HandS.MakeKwOnly
import HandS.Head0
import HandS.Head1
import HandS.Head2
import HandS.Head3
import HandS.HeadHook1
import HandS.HeadHook2
import PySem.Challenge.RW_sumroads_k11_whole_rows
set_option Elab.async false
set_option linter.all false
set_option maxRecDepth 100000
set_option maxHeartbeats 4000000
/-! Fw: weakest preconditions of the layer's readings over data (PyData), with a known heap beside the real one. -/
namespace Fw
open PySem PySem.Spec PyProof.Rows L2 Evl

section
variable {K : PySem.W.Frag}
mutual
theorem dp_mono {H H' : Hp} (e : Ex H H') : ∀ (d : PyData) {v : V}, Dp K H v d → Dp K H' v d
  | .none, _, h => by cases h; exact .non
  | .bool _, _, h => by cases h; exact .bl _
  | .int _, _, h => by cases h; exact .int _
  | .str _, _, h => by cases h; exact .str _
  | .list ds, _, h => by
    cases h with
    | lst h a => exact .lst (ex_l e h) (dpAll_mono e ds a)
  | .tuple ds, _, h => by
    cases h with
    | tup h a => exact .tup (ex_t e h) (dpAll_mono e ds a)
  | .dict _, _, h => by cases h
theorem dpAll_mono {H H' : Hp} (e : Ex H H') : ∀ (ds : List PyData) {vs : List V}, DpAll K H vs ds → DpAll K H' vs ds
  | [], _, h => by cases h; exact .nil
  | d :: ds, _, h => by
    cases h with
    | cons h t => exact .cons (dp_mono e d h) (dpAll_mono e ds t)
end
theorem dpAll_len {H : Hp} : ∀ {vs : List V} {ds : List PyData}, DpAll K H vs ds → vs.length = ds.length
  | _, _, .nil => rfl
  | _, _, .cons _ t => by rw [List.length_cons, List.length_cons, dpAll_len t]
theorem dpAll_get {H : Hp} : ∀ {vs : List V} {ds : List PyData} {i : Nat} {d : PyData}, DpAll K H vs ds → ds[i]? = some d → ∃ v, vs[i]? = some v ∧ Dp K H v d
  | _, _, _, _, .nil, h => by simp at h
  | _, _, 0, _, .cons (v := v) h _, e => by
    have e' := Option.some.inj e
    subst e'
    exact ⟨v, rfl, h⟩
  | _, _, i + 1, _, .cons _ t, e => by
    obtain ⟨v, h1, h2⟩ := dpAll_get (i := i) t e
    exact ⟨v, h1, h2⟩
theorem dpAll_app {H : Hp} : ∀ {vs : List V} {ds : List PyData} {ws : List V} {es : List PyData}, DpAll K H vs ds → DpAll K H ws es → DpAll K H (vs ++ ws) (ds ++ es)
  | _, _, _, _, .nil, h => h
  | _, _, _, _, .cons h t, h2 => .cons h (dpAll_app t h2)
theorem dpAll_take {H : Hp} : ∀ (n : Nat) {vs : List V} {ds : List PyData}, DpAll K H vs ds → DpAll K H (vs.take n) (ds.take n)
  | 0, _, _, _ => .nil
  | _ + 1, _, _, .nil => .nil
  | n + 1, _, _, .cons h t => .cons h (dpAll_take n t)
theorem dpAll_drop {H : Hp} : ∀ (n : Nat) {vs : List V} {ds : List PyData}, DpAll K H vs ds → DpAll K H (vs.drop n) (ds.drop n)
  | 0, _, _, h => h
  | _ + 1, _, _, .nil => .nil
  | n + 1, _, _, .cons _ t => dpAll_drop n t
theorem dpAll_rev {H : Hp} : ∀ {vs : List V} {ds : List PyData}, DpAll K H vs ds → DpAll K H vs.reverse ds.reverse
  | _, _, .nil => .nil
  | _, _, .cons h t => by
    rw [List.reverse_cons, List.reverse_cons]
    exact dpAll_app (dpAll_rev t) (.cons h .nil)
theorem dpAll_set {H : Hp} {v : V} {d : PyData} (hv : Dp K H v d) : ∀ (n : Nat) {vs : List V} {ds : List PyData}, DpAll K H vs ds → DpAll K H (vs.set n v) (ds.set n d)
  | _, _, _, .nil => .nil
  | 0, _, _, .cons _ t => .cons hv t
  | n + 1, _, _, .cons h t => .cons h (dpAll_set hv n t)
theorem dpAll_rep {H : Hp} {vs : List V} {ds : List PyData} (h : DpAll K H vs ds) : ∀ n : Nat, DpAll K H (List.replicate n vs).flatten (List.replicate n ds).flatten
  | 0 => .nil
  | n + 1 => by
    rw [List.replicate_succ, List.replicate_succ, List.flatten_cons, List.flatten_cons]
    exact dpAll_app h (dpAll_rep h n)
theorem dpAll_ints {H : Hp} : ∀ {ns : List Int} {vs : List V}, DpAll K H vs (ns.map .int) → vs = ns.map V.int
  | [], _, h => by cases h; rfl
  | n :: ns, _, h => by
    cases h with
    | cons h t =>
      cases h
      rw [dpAll_ints t]
      rfl
theorem dpAll_bools {H : Hp} : ∀ {ns : List Bool} {vs : List V}, DpAll K H vs (ns.map .bool) → vs = ns.map V.bl
  | [], _, h => by cases h; rfl
  | n :: ns, _, h => by
    cases h with
    | cons h t =>
      cases h
      rw [dpAll_bools t]
      rfl
theorem dp_tup {H : Hp} {v : V} {ds : List PyData} (h : Dp K H v (.tuple ds)) : ∃ a xs, v = .ref a ∧ SqT K H a xs ∧ DpAll K H xs ds := by
  cases h with
  | tup h a => exact ⟨_, _, rfl, h, a⟩
theorem dp_lst {H : Hp} {v : V} {ds : List PyData} (h : Dp K H v (.list ds)) : ∃ a xs, v = .ref a ∧ SqL K H a xs ∧ DpAll K H xs ds := by
  cases h with
  | lst h a => exact ⟨_, _, rfl, h, a⟩
theorem dp_int {H : Hp} {v : V} {i : Int} (h : Dp K H v (.int i)) : v = .int i := by cases h; rfl
theorem dp_bl {H : Hp} {v : V} {i : Bool} (h : Dp K H v (.bool i)) : v = .bl i := by cases h; rfl
theorem dp_str {H : Hp} {v : V} {i : Str} (h : Dp K H v (.str i)) : v = .str i := by cases h; rfl
theorem dp_non {H : Hp} {v : V} (h : Dp K H v .none) : v = .non := by cases h; rfl

/-! ### data without lists -/
mutual
def flatD : PyData → Bool
  | .list _ => false
  | .dict _ => false
  | .tuple xs => flatAllD xs
  | _ => true
def flatAllD : List PyData → Bool
  | [] => true
  | x :: xs => flatD x && flatAllD xs
end
def del (H : Hp) (l : Addr) : Hp := fun a => if a = l then none else H a
theorem del_same {H : Hp} {l : Addr} : del H l l = none := if_pos rfl
theorem del_ne {H : Hp} {l a : Addr} (h : a ≠ l) : del H l a = H a := if_neg h
theorem sqT_del {H : Hp} {l a : Addr} {vs xs : List V} (hl : H l = some (.lst vs)) (h : SqT K H a xs) : SqT K (del H l) a xs := by
  have ne : ∀ {o : HO}, H a = some o → (∀ z, o ≠ .lst z) → a ≠ l := fun e n z => by
    rw [z, hl] at e
    exact n _ (Option.some.inj e).symm
  rcases h with (h | ⟨o, h⟩) | h
  · refine .inl (.inl ?_)
    rw [del_ne (ne h (fun _ q => nomatch q))]
    exact h
  · refine .inl (.inr ⟨o, ?_⟩)
    rw [del_ne (ne h (fun _ q => nomatch q))]
    exact h
  · exact .inr h
mutual
theorem dp_del {H : Hp} {l : Addr} {vs : List V} (hl : H l = some (.lst vs)) : ∀ (d : PyData) {v : V}, flatD d = true → Dp K H v d → Dp K (del H l) v d
  | .none, _, _, h => by cases h; exact .non
  | .bool _, _, _, h => by cases h; exact .bl _
  | .int _, _, _, h => by cases h; exact .int _
  | .str _, _, _, h => by cases h; exact .str _
  | .list ds, _, f, h => by cases f
  | .tuple ds, _, f, h => by
    cases h with
    | tup h a => exact .tup (sqT_del hl h) (dpAll_del hl ds (by simpa [flatD] using f) a)
  | .dict _, _, _, h => by cases h
theorem dpAll_del {H : Hp} {l : Addr} {vs : List V} (hl : H l = some (.lst vs)) : ∀ (ds : List PyData) {us : List V}, flatAllD ds = true → DpAll K H us ds → DpAll K (del H l) us ds
  | [], _, _, h => by cases h; exact .nil
  | d :: ds, _, f, h => by
    cases h with
    | cons h t =>
      have f' : flatD d = true ∧ flatAllD ds = true := by simpa [flatAllD] using f
      exact .cons (dp_del hl d f'.1 h) (dpAll_del hl ds f'.2 t)
end
end

/-! ### the state: the known heap, the real heap, one list of two ints that may change -/
def PotB (a b : Int) : Prop := 0 ≤ a ∧ 0 ≤ b ∧ b < 4294967296
def PotOk (Hk H : Hp) : Option Addr → Prop
  | none => True
  | some p => Hk p = none ∧ ∃ a b, H p = some (.lst [.int a, .int b]) ∧ PotB a b
structure Go (p : Option Addr) (Hk H Hk' H' : Hp) : Prop where
  kk : Ex Hk Hk'
  kr : Ex Hk' H'
  rr : ∀ a o, p ≠ some a → H a = some o → H' a = some o
  nk : ∀ a, H a ≠ none → Hk a = none → Hk' a = none
  po : PotOk Hk' H' p
section
variable {p : Option Addr} {Hk H Hk1 H1 Hk2 H2 : Hp}
theorem Go.refl (e : Ex Hk H) (po : PotOk Hk H p) : Go p Hk H Hk H := ⟨Ex.refl _, e, fun _ _ _ h => h, fun _ _ h => h, po⟩
theorem Go.live (g : Go p Hk H Hk1 H1) {a : Addr} (h1 : H a ≠ none) : H1 a ≠ none := fun z => by
  by_cases e : p = some a
  · subst e
    obtain ⟨_, _, _, h, _⟩ := g.po
    rw [z] at h
    cases h
  · cases q : H a with
    | none => exact h1 q
    | some o =>
      rw [g.rr a o e q] at z
      cases z
theorem Go.trans (g : Go p Hk H Hk1 H1) (g2 : Go p Hk1 H1 Hk2 H2) : Go p Hk H Hk2 H2 :=
  ⟨g.kk.trans g2.kk, g2.kr, fun a o n h => g2.rr a o n (g.rr a o n h), fun a h1 h2 => g2.nk a (g.live h1) (g.nk a h1 h2), g2.po⟩
theorem Go.new {q : Addr} {o : HO} (e : Ex Hk H) (po : PotOk Hk H p) (hq : H q = none) : Go p Hk H (upd Hk q o) (upd H q o) := by
  have hk : Hk q = none := fresh_back e hq
  refine ⟨Ex.new hk, fun a u h => ?_, fun a u _ h => ?_, fun a h1 h2 => ?_, ?_⟩
  · by_cases z : a = q
    · subst z
      rw [upd_same] at h
      rw [upd_same]
      exact h
    · rw [upd_ne z] at h
      rw [upd_ne z]
      exact e a u h
  · rw [upd_ne (ne_of_none h hq)]
    exact h
  · have z : a ≠ q := fun z => h1 (by rw [z]; exact hq)
    rw [upd_ne z]
    exact h2
  · cases p with
    | none => exact True.intro
    | some p =>
      obtain ⟨h1, a, b, h2, h3⟩ := po
      have z : p ≠ q := ne_of_none h2 hq
      refine ⟨?_, a, b, ?_, h3⟩
      · rw [upd_ne z]
        exact h1
      · rw [upd_ne z]
        exact h2
theorem Go.lift (po : PotOk Hk H p) (g : Go none Hk H Hk1 H1) : Go p Hk H Hk1 H1 :=
  ⟨g.kk, g.kr, fun a o _ h => g.rr a o (fun z => nomatch z) h, g.nk, by
    cases p with
    | none => exact True.intro
    | some p =>
      obtain ⟨h1, a, b, h2, h3⟩ := po
      exact ⟨g.nk p (fun z => by rw [z] at h2; cases h2) h1, a, b, g.rr p _ (fun z => nomatch z) h2, h3⟩⟩
end

/-! ### the slots -/
inductive Slot where
  | no
  | pot
  | dat (d : PyData)
  | own (ds : List PyData)
def SlOk (K : PySem.W.Frag) (p : Option Addr) (H0 Hk H : Hp) (ov : Option V) : Slot → Prop
  | .no => True
  | .pot => ∃ a, p = some a ∧ ov = some (.ref a)
  | .dat d => ∃ v, ov = some v ∧ Dp K Hk v d
  | .own ds => ∃ l vs, ov = some (.ref l) ∧ H0 l = none ∧ Hk l = none ∧ p ≠ some l ∧ H l = some (.lst vs) ∧ DpAll K Hk vs ds
structure En (K : PySem.W.Frag) (p : Option Addr) (H0 Hk H : Hp) (σ : List (Option V)) (env : List Slot) : Prop where
  len : σ.length = env.length
  slot : ∀ (i : Nat) (sl : Slot), env[i]? = some sl → ∃ ov, σ[i]? = some ov ∧ SlOk K p H0 Hk H ov sl
  apart : ∀ (i j : Nat) (l : Addr) (ds es : List PyData), env[i]? = some (.own ds) → env[j]? = some (.own es) → σ[i]? = some (some (.ref l)) → σ[j]? = some (some (.ref l)) → i = j
section
variable {K : PySem.W.Frag} {p : Option Addr} {H0 Hk H Hk1 H1 : Hp} {σ : List (Option V)} {env : List Slot}
theorem SlOk.go (g : Go p Hk H Hk1 H1) {ov : Option V} : ∀ {sl : Slot}, SlOk K p H0 Hk H ov sl → SlOk K p H0 Hk1 H1 ov sl
  | .no, _ => True.intro
  | .pot, h => h
  | .dat d, h => let ⟨v, e, r⟩ := h; ⟨v, e, dp_mono g.kk d r⟩
  | .own ds, h => let ⟨l, vs, e, h0, hk, hp, hl, r⟩ := h
    ⟨l, vs, e, h0, g.nk l (fun z => by rw [z] at hl; cases hl) hk, hp, g.rr l _ hp hl, dpAll_mono g.kk ds r⟩
theorem En.go (h : En K p H0 Hk H σ env) (g : Go p Hk H Hk1 H1) : En K p H0 Hk1 H1 σ env :=
  ⟨h.len, fun i sl e => let ⟨ov, e1, r⟩ := h.slot i sl e; ⟨ov, e1, r.go g⟩, h.apart⟩
theorem En.set_any (h : En K p H0 Hk H σ env) {i : Nat} {ov : Option V} {sl : Slot} (r : SlOk K p H0 Hk H ov sl) (hn : ∀ ds, sl ≠ .own ds) : En K p H0 Hk H (σ.set i ov) (env.set i sl) := by
  refine ⟨by rw [List.length_set, List.length_set, h.len], fun j s e => ?_, fun j k l ds es e1 e2 e3 e4 => ?_⟩
  · by_cases z : i = j
    · subst z
      rw [List.getElem?_set] at e
      simp only [if_true] at e
      split at e
      · rename_i hlt
        have e' := Option.some.inj e
        subst e'
        exact ⟨ov, by rw [List.getElem?_set]; simp [h.len, hlt], r⟩
      · cases e
    · rw [List.getElem?_set_ne z] at e
      rw [List.getElem?_set_ne z]
      exact h.slot j s e
  · have n : ∀ {m : Nat} {ds : List PyData}, (env.set i sl)[m]? = some (.own ds) → i ≠ m ∧ env[m]? = some (.own ds) := fun {m ds} e => by
      by_cases z : i = m
      · subst z
        rw [List.getElem?_set] at e
        simp only [if_true] at e
        split at e
        · exact absurd (Option.some.inj e) (hn ds)
        · cases e
      · rw [List.getElem?_set_ne z] at e
        exact ⟨z, e⟩
    obtain ⟨n1, f1⟩ := n e1
    obtain ⟨n2, f2⟩ := n e2
    rw [List.getElem?_set_ne n1] at e3
    rw [List.getElem?_set_ne n2] at e4
    exact h.apart j k l ds es f1 f2 e3 e4
theorem En.set (h : En K p H0 Hk H σ env) {i : Nat} {v : V} {d : PyData} (r : Dp K Hk v d) : En K p H0 Hk H (σ.set i (some v)) (env.set i (.dat d)) :=
  h.set_any ⟨v, rfl, r⟩ (fun _ q => nomatch q)
theorem En.wipe1 (h : En K p H0 Hk H σ env) (i : Nat) : En K p H0 Hk H (σ.set i none) (env.set i .no) :=
  h.set_any True.intro (fun _ q => nomatch q)
/-- a new list that the def may change -/
theorem En.set_own (h : En K p H0 Hk H σ env) {i : Nat} {l : Addr} {vs : List V} {ds : List PyData} (h0 : H0 l = none) (hl : H l = none) (hk : Hk l = none) (hp : p ≠ some l) (r : DpAll K Hk vs ds) : En K p H0 Hk (upd H l (.lst vs)) (σ.set i (some (.ref l))) (env.set i (.own ds)) := by
  have old : ∀ {j : Nat} {s : Slot} {ov : Option V}, SlOk K p H0 Hk H ov s → SlOk K p H0 Hk (upd H l (.lst vs)) ov s := fun {j s ov} q => by
    cases s with
    | no => exact True.intro
    | pot => exact q
    | dat d => exact q
    | own es =>
      obtain ⟨m, ws, a1, a2, a3, a4, a5, a6⟩ := q
      refine ⟨m, ws, a1, a2, a3, a4, ?_, a6⟩
      rw [upd_ne (ne_of_none a5 hl)]
      exact a5
  refine ⟨by rw [List.length_set, List.length_set, h.len], fun j s e => ?_, fun j k m ds' es e1 e2 e3 e4 => ?_⟩
  · by_cases z : i = j
    · subst z
      rw [List.getElem?_set] at e
      simp only [if_true] at e
      split at e
      · rename_i hlt
        have e' := Option.some.inj e
        subst e'
        exact ⟨some (.ref l), by rw [List.getElem?_set]; simp [h.len, hlt], l, vs, rfl, h0, hk, hp, upd_same, r⟩
      · cases e
    · rw [List.getElem?_set_ne z] at e
      rw [List.getElem?_set_ne z]
      obtain ⟨ov, e1, q⟩ := h.slot j s e
      exact ⟨ov, e1, old (j := j) q⟩
  · -- the new one is no one of the old
    have live : ∀ {m' : Addr} {j : Nat} {ds : List PyData}, env[j]? = some (.own ds) → σ[j]? = some (some (.ref m')) → m' ≠ l := fun {m' j ds} e f => by
      obtain ⟨ov, g1, m2, ws, a1, a2, a3, a4, a5, a6⟩ := h.slot j _ e
      rw [f] at g1
      have g2 := Option.some.inj g1
      rw [← g2] at a1
      have g3 : m' = m2 := by
        have := Option.some.inj a1
        injection this
      rw [g3]
      exact ne_of_none a5 hl
    by_cases z : i = j
    · by_cases z2 : i = k
      · rw [← z, ← z2]
      · subst z
        rw [List.getElem?_set_ne z2] at e2 e4
        have hj : m = l := by
          rw [List.getElem?_set] at e3
          simp only [if_true] at e3
          split at e3
          · have := Option.some.inj (Option.some.inj e3)
            injection this with q
            exact q.symm
          · cases e3
        exact absurd hj (live e2 e4)
    · by_cases z2 : i = k
      · subst z2
        rw [List.getElem?_set_ne z] at e1 e3
        have hj : m = l := by
          rw [List.getElem?_set] at e4
          simp only [if_true] at e4
          split at e4
          · have := Option.some.inj (Option.some.inj e4)
            injection this with q
            exact q.symm
          · cases e4
        exact absurd hj (live e1 e3)
      · rw [List.getElem?_set_ne z] at e1 e3
        rw [List.getElem?_set_ne z2] at e2 e4
        exact h.apart j k m ds' es e1 e2 e3 e4
/-- a list made since: the def's own -/
theorem En.add_own (h : En K p H0 Hk H σ env) (h' : En K p H0 Hk1 H1 σ env) {i : Nat} {l : Addr} {vs : List V} {ds : List PyData} (h0 : H0 l = none) (hl : H l = none) (h1 : H1 l = some (.lst vs)) (hk : Hk1 l = none) (hp : p ≠ some l) (r : DpAll K Hk1 vs ds) : En K p H0 Hk1 H1 (σ.set i (some (.ref l))) (env.set i (.own ds)) := by
  have live : ∀ {m' : Addr} {j : Nat} {ds : List PyData}, env[j]? = some (.own ds) → σ[j]? = some (some (.ref m')) → m' ≠ l := fun {m' j ds} e f => by
    obtain ⟨ov, g1, m2, ws, a1, a2, a3, a4, a5, a6⟩ := h.slot j _ e
    rw [f] at g1
    have g2 := Option.some.inj g1
    rw [← g2] at a1
    have g3 : m' = m2 := by
      have := Option.some.inj a1
      injection this
    rw [g3]
    exact ne_of_none a5 hl
  have isl : ∀ {m : Addr}, (σ.set i (some (V.ref l)))[i]? = some (some (V.ref m)) → m = l := fun {m} e3 => by
    rw [List.getElem?_set] at e3
    simp only [if_true] at e3
    split at e3
    · have := Option.some.inj (Option.some.inj e3)
      injection this with q
      exact q.symm
    · cases e3
  refine ⟨by rw [List.length_set, List.length_set, h.len], fun j s e => ?_, fun j k m ds' es e1 e2 e3 e4 => ?_⟩
  · by_cases z : i = j
    · subst z
      rw [List.getElem?_set] at e
      simp only [if_true] at e
      split at e
      · rename_i hlt
        have e' := Option.some.inj e
        subst e'
        exact ⟨some (.ref l), by rw [List.getElem?_set]; simp [h.len, hlt], l, vs, rfl, h0, hk, hp, h1, r⟩
      · cases e
    · rw [List.getElem?_set_ne z] at e
      rw [List.getElem?_set_ne z]
      exact h'.slot j s e
  · by_cases z : i = j
    · by_cases z2 : i = k
      · rw [← z, ← z2]
      · subst z
        rw [List.getElem?_set_ne z2] at e2 e4
        exact absurd (isl e3) (live e2 e4)
    · by_cases z2 : i = k
      · subst z2
        rw [List.getElem?_set_ne z] at e1 e3
        exact absurd (isl e4) (live e1 e3)
      · rw [List.getElem?_set_ne z] at e1 e3
        rw [List.getElem?_set_ne z2] at e2 e4
        exact h.apart j k m ds' es e1 e2 e3 e4
/-- an own list is changed -/
theorem En.put_own (h : En K p H0 Hk H σ env) {i : Nat} {l : Addr} {ws : List V} {ds es : List PyData} (e : env[i]? = some (.own ds)) (f : σ[i]? = some (some (.ref l))) (r : DpAll K Hk ws es) : En K p H0 Hk (upd H l (.lst ws)) σ (env.set i (.own es)) := by
  obtain ⟨ov, g1, l2, vs2, a1, a2, a3, a4, a5, a6⟩ := h.slot i _ e
  rw [f] at g1
  have g2 := Option.some.inj g1
  rw [← g2] at a1
  have g3 : l = l2 := by
    have := Option.some.inj a1
    injection this
  subst g3
  have hlt : i < env.length := (List.getElem?_eq_some_iff.mp e).1
  refine ⟨by rw [List.length_set, h.len], fun j s e' => ?_, fun j k m ds' es' e1 e2 e3 e4 => ?_⟩
  · by_cases z : i = j
    · subst z
      rw [List.getElem?_set] at e'
      simp only [if_true, hlt] at e'
      have e'' := Option.some.inj e'
      subst e''
      exact ⟨_, f, l, ws, rfl, a2, a3, a4, upd_same, r⟩
    · rw [List.getElem?_set_ne z] at e'
      obtain ⟨ov', e1, q⟩ := h.slot j s e'
      refine ⟨ov', e1, ?_⟩
      cases s with
      | no => exact True.intro
      | pot => exact q
      | dat d => exact q
      | own es2 =>
        obtain ⟨m, ws2, b1, b2, b3, b4, b5, b6⟩ := q
        refine ⟨m, ws2, b1, b2, b3, b4, ?_, b6⟩
        have hm : m ≠ l := fun y => z (h.apart i j l ds es2 e e' f (by rw [e1, b1, y]))
        rw [upd_ne hm]
        exact b5
  · have n : ∀ {m : Nat} {ds0 : List PyData}, (env.set i (.own es))[m]? = some (.own ds0) → ∃ ds1, env[m]? = some (.own ds1) := fun {m ds0} e => by
      by_cases z : i = m
      · subst z
        exact ⟨ds, by assumption⟩
      · rw [List.getElem?_set_ne z] at e
        exact ⟨_, e⟩
    obtain ⟨d1, f1⟩ := n e1
    obtain ⟨d2, f2⟩ := n e2
    exact h.apart j k m d1 d2 f1 f2 e3 e4
/-- an own list is known from now on -/
theorem En.publish (h : En K p H0 Hk H σ env) {i : Nat} {l : Addr} {vs : List V} {ds : List PyData} (e : env[i]? = some (.own ds)) (f : σ[i]? = some (some (.ref l))) (hk : Hk l = none) (hl : H l = some (.lst vs)) (r : DpAll K Hk vs ds) :
    En K p H0 (upd Hk l (.lst vs)) H σ (env.set i (.dat (.list ds))) := by
  have hlt : i < env.length := (List.getElem?_eq_some_iff.mp e).1
  have x : Ex Hk (upd Hk l (.lst vs)) := Ex.new hk
  refine ⟨by rw [List.length_set, h.len], fun j s e' => ?_, fun j k m ds' es' e1 e2 e3 e4 => ?_⟩
  · by_cases z : i = j
    · subst z
      rw [List.getElem?_set] at e'
      simp only [if_true, hlt] at e'
      have e'' := Option.some.inj e'
      subst e''
      exact ⟨_, f, .ref l, rfl, .lst (SqL.of upd_same) (dpAll_mono x ds r)⟩
    · rw [List.getElem?_set_ne z] at e'
      obtain ⟨ov', e1, q⟩ := h.slot j s e'
      refine ⟨ov', e1, ?_⟩
      cases s with
      | no => exact True.intro
      | pot => exact q
      | dat d => exact let ⟨v, e, r⟩ := q; ⟨v, e, dp_mono x d r⟩
      | own es2 =>
        obtain ⟨m, ws2, b1, b2, b3, b4, b5, b6⟩ := q
        have hm : m ≠ l := fun y => z (h.apart i j l ds es2 e e' f (by rw [e1, b1, y]))
        refine ⟨m, ws2, b1, b2, ?_, b4, b5, dpAll_mono x es2 b6⟩
        rw [upd_ne hm]
        exact b3
  · have n : ∀ {m : Nat} {ds0 : List PyData}, (env.set i (.dat (.list ds)))[m]? = some (.own ds0) → env[m]? = some (.own ds0) := fun {m ds0} e => by
      by_cases z : i = m
      · subst z
        rw [List.getElem?_set] at e
        simp only [if_true, hlt] at e
        cases (Option.some.inj e)
      · rw [List.getElem?_set_ne z] at e
        exact e
    exact h.apart j k m ds' es' (n e1) (n e2) e3 e4
def wipeE (env : List Slot) : List Nat → List Slot
  | [] => env
  | v :: vs => (wipeE env vs).set v .no
theorem En.wipe (h : En K p H0 Hk H σ env) : ∀ vs : List Nat, En K p H0 Hk H (L2.wipe σ vs) (wipeE env vs)
  | [] => h
  | v :: vs => (En.wipe h vs).wipe1 v
end
end Fw
namespace Fw
open PySem PySem.Spec PyProof.Rows L2 Evl
section
variable (K : PySem.W.Frag) (p : Option Addr)
def WpE (te : TE) (env : List Slot) (Φ : PyData → Prop) : Prop := ∀ (H0 : Hp) (σ : List (Option V)) (Hk H : Hp) (Q : VK), Ex Hk H → PotOk Hk H p → En K p H0 Hk H σ env →
  (∀ v d Hk' H', Go p Hk H Hk' H' → Dp K Hk' v d → Φ d → Q v H') → te σ H Q
def WpT (tt : TT) (env : List Slot) (Φ : Bool → Prop) : Prop := ∀ (H0 : Hp) (σ : List (Option V)) (Hk H : Hp) (Q : Bool → Hp → Prop), Ex Hk H → PotOk Hk H p → En K p H0 Hk H σ env →
  (∀ b Hk' H', Go p Hk H Hk' H' → Φ b → Q b H') → tt σ H Q
def WpA (ta : TA) (env : List Slot) (Φ : List PyData → Prop) : Prop := ∀ (H0 : Hp) (σ : List (Option V)) (Hk H : Hp) (Q : List V → Hp → Prop), Ex Hk H → PotOk Hk H p → En K p H0 Hk H σ env →
  (∀ vs ds Hk' H', Go p Hk H Hk' H' → DpAll K Hk' vs ds → Φ ds → Q vs H') → ta σ H Q
def WpO (to : TO) (env : List Slot) (Φ : Option Int → Prop) : Prop := ∀ (H0 : Hp) (σ : List (Option V)) (Hk H : Hp) (Q : Option Int → Hp → Prop), Ex Hk H → PotOk Hk H p → En K p H0 Hk H σ env →
  (∀ o Hk' H', Go p Hk H Hk' H' → Φ o → Q o H') → to σ H Q
/-- an operation on two values, a call of a built-in on values -/
def OpD (r : R2) (x y : PyData) (Φ : PyData → Prop) : Prop := ∀ (vx vy : V) (Hk H : Hp) (Q : VK), Ex Hk H → PotOk Hk H p → Dp K Hk vx x → Dp K Hk vy y →
  (∀ v d Hk' H', Go p Hk H Hk' H' → Dp K Hk' v d → Φ d → Q v H') → r vx vy H Q
def CbD (r : List V → Hp → VK → Prop) (xs : List PyData) (Φ : PyData → Prop) : Prop := ∀ (vs : List V) (Hk H : Hp) (Q : VK), Ex Hk H → PotOk Hk H p → DpAll K Hk vs xs →
  (∀ v d Hk' H', Go p Hk H Hk' H' → Dp K Hk' v d → Φ d → Q v H') → r vs H Q
def UnD (r : V → Hp → VK → Prop) (x : PyData) (Φ : PyData → Prop) : Prop := ∀ (vx : V) (Hk H : Hp) (Q : VK), Ex Hk H → PotOk Hk H p → Dp K Hk vx x →
  (∀ v d Hk' H', Go p Hk H Hk' H' → Dp K Hk' v d → Φ d → Q v H') → r vx H Q
def ItOk (J : It) (Hk : Hp) (xs : List PyData) : Prop := ∀ Hk1 H1, Ex Hk Hk1 → Ex Hk1 H1 → PotOk Hk1 H1 p →
  (∀ i, i < xs.length → J.go i H1) ∧ J.stop xs.length H1 ∧ ∀ i x H', i < xs.length → J.yld i H1 x H' → ∃ d Hk2, xs[i]? = some d ∧ Dp K Hk2 x d ∧ Go p Hk1 H1 Hk2 H'
def WpI (wi : TI) (env : List Slot) (Ψ : List PyData → Prop) : Prop := ∀ (H0 : Hp) (σ : List (Option V)) (Hk H : Hp) (R : It → Hp → Prop), Ex Hk H → PotOk Hk H p → En K p H0 Hk H σ env →
  (∀ J xs Hk' H', Go p Hk H Hk' H' → ItOk K p J Hk' xs → Ψ xs → R J H') → wi σ H R
/-- a target: only the slots js may change -/
def WpG (js : List Nat) (g : TG) (d : PyData) (env : List Slot) (Ψ : List Slot → Prop) : Prop := ∀ (H0 : Hp) (σ : List (Option V)) (Hk H : Hp) (v : V) (Q : List (Option V) → Hp → Prop), Ex Hk H → PotOk Hk H p → En K p H0 Hk H σ env → Dp K Hk v d →
  (∀ σ' env', En K p H0 Hk H σ' env' → (σ'.length = σ.length ∧ ∀ j, j ∉ js → σ'[j]? = σ[j]?) → Ψ env' → Q σ' H) → g v σ H Q
def WpGs (js : List Nat) (g : TGs) (ds : List PyData) (env : List Slot) (Ψ : List Slot → Prop) : Prop := ∀ (H0 : Hp) (σ : List (Option V)) (Hk H : Hp) (vs : List V) (Q : List (Option V) → Hp → Prop), Ex Hk H → PotOk Hk H p → En K p H0 Hk H σ env → DpAll K Hk vs ds →
  (∀ σ' env', En K p H0 Hk H σ' env' → (σ'.length = σ.length ∧ ∀ j, j ∉ js → σ'[j]? = σ[j]?) → Ψ env' → Q σ' H) → g vs σ H Q
structure Outs where
  nx : List Slot → Prop
  rt : PyData → Prop
  bk : List Slot → Prop
  ct : List Slot → Prop
  rf : List PyData → Prop := fun _ => False
structure EndsOk (H0 Hk0 : Hp) (D : Ends) (O : Outs) : Prop where
  nx : ∀ env σ Hk H, Go p Hk0 H0 Hk H → En K p H0 Hk H σ env → O.nx env → D.nx σ H
  rt : ∀ v d Hk H, Go p Hk0 H0 Hk H → Dp K Hk v d → O.rt d → D.rt v H
  bk : ∀ env σ Hk H, Go p Hk0 H0 Hk H → En K p H0 Hk H σ env → O.bk env → D.bk σ H
  ct : ∀ env σ Hk H, Go p Hk0 H0 Hk H → En K p H0 Hk H σ env → O.ct env → D.ct σ H
  rf : ∀ l vs ds Hk H, Go p Hk0 H0 Hk H → H0 l = none → Hk l = none → H l = some (.lst vs) → DpAll K Hk vs ds → O.rf ds → D.rt (.ref l) H
def WpS (ts : TS) (env : List Slot) (O : Outs) : Prop := ∀ (H0 Hk0 : Hp) (σ : List (Option V)) (Hk H : Hp) (D : Ends), Go p Hk0 H0 Hk H → En K p H0 Hk H σ env → EndsOk K p H0 Hk0 D O → ts D σ H
end

section
variable {K : PySem.W.Frag} {p : Option Addr} {env : List Slot} {Φ : PyData → Prop} {ta tb te : TE} {tt tu : TT}
theorem WpE.mono {Φ' : PyData → Prop} (h : WpE K p te env Φ) (m : ∀ d, Φ d → Φ' d) : WpE K p te env Φ' := fun H0 σ Hk H Q e po en q => h H0 σ Hk H Q e po en fun v d Hk' H' g r f => q v d Hk' H' g r (m d f)
theorem WpT.mono {Φ Φ' : Bool → Prop} (h : WpT K p tt env Φ) (m : ∀ d, Φ d → Φ' d) : WpT K p tt env Φ' := fun H0 σ Hk H Q e po en q => h H0 σ Hk H Q e po en fun v Hk' H' g f => q v Hk' H' g (m v f)
/-! ### expressions -/
theorem e_var {i : Nat} {d : PyData} (h : env[i]? = some (.dat d)) (q : Φ d) : WpE K p (tVar i) env Φ := fun H0 σ Hk H Q e po en k => by
  obtain ⟨ov, h1, v, h2, r⟩ := en.slot i _ h
  rw [h2] at h1
  exact ⟨v, h1, k v d Hk H (Go.refl e po) r q⟩
theorem e_c {v : V} {d : PyData} (hd : ∀ Hk, Dp K Hk v d) (q : Φ d) : WpE K p (tC v) env Φ := fun H0 σ Hk H Q e po en k => k v d Hk H (Go.refl e po) (hd Hk) q
theorem e_int {i : Int} (q : Φ (.int i)) : WpE K p (tC (.int i)) env Φ := e_c (fun _ => .int i) q
theorem e_bl {i : Bool} (q : Φ (.bool i)) : WpE K p (tC (.bl i)) env Φ := e_c (fun _ => .bl i) q
theorem e_str {i : Str} (q : Φ (.str i)) : WpE K p (tC (.str i)) env Φ := e_c (fun _ => .str i) q
theorem e_non (q : Φ .none) : WpE K p (tC .non) env Φ := e_c (fun _ => .non) q
theorem e_op {r : R2} (h : WpE K p ta env fun x => WpE K p tb env fun y => OpD K p r x y Φ) : WpE K p (tOp r ta tb) env Φ := fun H0 σ Hk H Q e po en k =>
  h H0 σ Hk H _ e po en fun vx x Hk1 H1 g1 rx h1 => h1 H0 σ Hk1 H1 _ g1.kr g1.po (en.go g1) fun vy y Hk2 H2 g2 ry h2 =>
    h2 vx vy Hk2 H2 Q g2.kr g2.po (dp_mono g2.kk x rx) ry fun v d Hk3 H3 g3 r f => k v d Hk3 H3 ((g1.trans g2).trans g3) r f
theorem e_un {r : V → Hp → VK → Prop} (h : WpE K p ta env fun x => UnD K p r x Φ) : WpE K p (tUn r ta) env Φ := fun H0 σ Hk H Q e po en k =>
  h H0 σ Hk H _ e po en fun vx x Hk1 H1 g1 rx h1 => h1 vx Hk1 H1 Q g1.kr g1.po rx fun v d Hk3 H3 g3 r f => k v d Hk3 H3 (g1.trans g3) r f
theorem e_if (h : WpT K p tt env fun b => if b = true then WpE K p ta env Φ else WpE K p tb env Φ) : WpE K p (tIf tt ta tb) env Φ := fun H0 σ Hk H Q e po en k =>
  h H0 σ Hk H _ e po en fun b Hk1 H1 g1 h1 => by
    cases b with
    | true => exact (show WpE K p ta env Φ from h1) H0 σ Hk1 H1 Q g1.kr g1.po (en.go g1) fun v d Hk3 H3 g3 r f => k v d Hk3 H3 (g1.trans g3) r f
    | false => exact (show WpE K p tb env Φ from h1) H0 σ Hk1 H1 Q g1.kr g1.po (en.go g1) fun v d Hk3 H3 g3 r f => k v d Hk3 H3 (g1.trans g3) r f
theorem e_andV (h : WpE K p ta env fun x => ∃ c, x = .bool c ∧ if c = true then WpE K p tb env Φ else Φ (.bool false)) : WpE K p (tAndV ta tb) env Φ := fun H0 σ Hk H Q e po en k =>
  h H0 σ Hk H _ e po en fun vx x Hk1 H1 g1 rx ⟨c, ex, h1⟩ => by
    subst ex
    rw [dp_bl rx]
    refine ⟨c, rfl, ?_⟩
    cases c with
    | true => exact (show WpE K p tb env Φ from h1) H0 σ Hk1 H1 Q g1.kr g1.po (en.go g1) fun v d Hk3 H3 g3 r f => k v d Hk3 H3 (g1.trans g3) r f
    | false => exact k _ _ _ _ g1 (.bl false) h1
theorem e_orV (h : WpE K p ta env fun x => ∃ c, x = .bool c ∧ if c = true then Φ (.bool true) else WpE K p tb env Φ) : WpE K p (tOrV ta tb) env Φ := fun H0 σ Hk H Q e po en k =>
  h H0 σ Hk H _ e po en fun vx x Hk1 H1 g1 rx ⟨c, ex, h1⟩ => by
    subst ex
    rw [dp_bl rx]
    refine ⟨c, rfl, ?_⟩
    cases c with
    | false => exact (show WpE K p tb env Φ from h1) H0 σ Hk1 H1 Q g1.kr g1.po (en.go g1) fun v d Hk3 H3 g3 r f => k v d Hk3 H3 (g1.trans g3) r f
    | true => exact k _ _ _ _ g1 (.bl true) h1
theorem e_notV (h : WpE K p ta env fun x => ∃ c, x = .bool c ∧ Φ (.bool !c)) : WpE K p (tNotV ta) env Φ := fun H0 σ Hk H Q e po en k =>
  h H0 σ Hk H _ e po en fun vx x Hk1 H1 g1 rx ⟨c, ex, h1⟩ => by
    subst ex
    rw [dp_bl rx]
    exact ⟨c, rfl, k _ _ _ _ g1 (.bl _) h1⟩
theorem e_tup {ta : TA} (h : WpA K p ta env fun ds => ds.length ≤ 100000 ∧ Φ (.tuple ds)) : WpE K p (tTup ta) env Φ := fun H0 σ Hk H Q e po en k =>
  h H0 σ Hk H _ e po en fun vs ds Hk1 H1 g1 r ⟨hz, f⟩ => ⟨sz_of (by rw [dpAll_len r]; exact hz), fun q hq =>
    k _ _ _ _ (g1.trans (Go.new g1.kr g1.po hq)) (.tup (SqT.of upd_same) (dpAll_mono (Ex.new (fresh_back g1.kr hq)) ds r)) f⟩
theorem e_lst {ta : TA} (h : WpA K p ta env fun ds => ds.length ≤ 100000 ∧ Φ (.list ds)) : WpE K p (tLst ta) env Φ := fun H0 σ Hk H Q e po en k =>
  h H0 σ Hk H _ e po en fun vs ds Hk1 H1 g1 r ⟨hz, f⟩ => ⟨sz_of (by rw [dpAll_len r]; exact hz), fun q hq =>
    k _ _ _ _ (g1.trans (Go.new g1.kr g1.po hq)) (.lst (SqL.of upd_same) (dpAll_mono (Ex.new (fresh_back g1.kr hq)) ds r)) f⟩
theorem e_cb {r : List V → Hp → VK → Prop} {ta : TA} (h : WpA K p ta env fun ds => CbD K p r ds Φ) : WpE K p (tCB r ta) env Φ := fun H0 σ Hk H Q e po en k =>
  h H0 σ Hk H _ e po en fun vs ds Hk1 H1 g1 rx h1 => h1 vs Hk1 H1 Q g1.kr g1.po rx fun v d Hk3 H3 g3 r f => k v d Hk3 H3 (g1.trans g3) r f
theorem e_sl {r : V → Option Int → Option Int → Hp → VK → Prop} {tl th : TO} (h : WpE K p te env fun x => WpO K p tl env fun l => WpO K p th env fun u => UnD K p (fun v => r v l u) x Φ) : WpE K p (tSl r te tl th) env Φ := fun H0 σ Hk H Q e po en k =>
  h H0 σ Hk H _ e po en fun vx x Hk1 H1 g1 rx h1 => h1 H0 σ Hk1 H1 _ g1.kr g1.po (en.go g1) fun l Hk2 H2 g2 h2 => h2 H0 σ Hk2 H2 _ g2.kr g2.po ((en.go g1).go g2) fun u Hk3 H3 g3 h3 =>
    h3 vx Hk3 H3 Q g3.kr g3.po (dp_mono g3.kk x (dp_mono g2.kk x rx)) fun v d Hk4 H4 g4 r f => k v d Hk4 H4 (((g1.trans g2).trans g3).trans g4) r f
theorem o_none {Φ : Option Int → Prop} (q : Φ none) : WpO K p tNoPart env Φ := fun H0 σ Hk H Q e po en k => k none Hk H (Go.refl e po) q
theorem o_some {Φ : Option Int → Prop} (h : WpE K p te env fun x => ∃ i, x = .int i ∧ Φ (some i)) : WpO K p (tPart te) env Φ := fun H0 σ Hk H Q e po en k =>
  h H0 σ Hk H _ e po en fun vx x Hk1 H1 g1 rx ⟨i, ex, f⟩ => by
    subst ex
    rw [dp_int rx]
    exact ⟨i, rfl, k _ _ _ g1 f⟩
theorem a_nil {Φ : List PyData → Prop} (q : Φ []) : WpA K p tNil env Φ := fun H0 σ Hk H Q e po en k => k [] [] Hk H (Go.refl e po) .nil q
theorem a_cons {tr : TA} {Φ : List PyData → Prop} (h : WpE K p te env fun x => WpA K p tr env fun ds => Φ (x :: ds)) : WpA K p (tCons te tr) env Φ := fun H0 σ Hk H Q e po en k =>
  h H0 σ Hk H _ e po en fun vx x Hk1 H1 g1 rx h1 => h1 H0 σ Hk1 H1 _ g1.kr g1.po (en.go g1) fun vs ds Hk2 H2 g2 r f => k _ _ _ _ (g1.trans g2) (.cons (dp_mono g2.kk x rx) r) f
/-! ### tests -/
theorem t_B {Φ : Bool → Prop} (h : WpE K p te env fun x => ∃ c, x = .bool c ∧ Φ c) : WpT K p (tB te) env Φ := fun H0 σ Hk H Q e po en k =>
  h H0 σ Hk H _ e po en fun vx x Hk1 H1 g1 rx ⟨c, ex, f⟩ => by
    subst ex
    rw [dp_bl rx]
    exact ⟨c, rfl, k _ _ _ g1 f⟩
theorem t_test {Φ : Bool → Prop} (h : WpE K p te env fun x => ∃ c, x = .bool c ∧ Φ c) : WpT K p (tTest te) env Φ := t_B h
theorem t_and {Φ : Bool → Prop} (h : WpT K p tt env fun c => if c = true then WpT K p tu env Φ else Φ false) : WpT K p (tAnd tt tu) env Φ := fun H0 σ Hk H Q e po en k =>
  h H0 σ Hk H _ e po en fun c Hk1 H1 g1 h1 => by
    cases c with
    | true => exact (show WpT K p tu env Φ from h1) H0 σ Hk1 H1 Q g1.kr g1.po (en.go g1) fun v Hk3 H3 g3 f => k v Hk3 H3 (g1.trans g3) f
    | false => exact k _ _ _ g1 h1
theorem t_or {Φ : Bool → Prop} (h : WpT K p tt env fun c => if c = true then Φ true else WpT K p tu env Φ) : WpT K p (tOr tt tu) env Φ := fun H0 σ Hk H Q e po en k =>
  h H0 σ Hk H _ e po en fun c Hk1 H1 g1 h1 => by
    cases c with
    | false => exact (show WpT K p tu env Φ from h1) H0 σ Hk1 H1 Q g1.kr g1.po (en.go g1) fun v Hk3 H3 g3 f => k v Hk3 H3 (g1.trans g3) f
    | true => exact k _ _ _ g1 h1
theorem t_not {Φ : Bool → Prop} (h : WpT K p tt env fun c => Φ (!c)) : WpT K p (tNot tt) env Φ := fun H0 σ Hk H Q e po en k => h H0 σ Hk H _ e po en fun c Hk1 H1 g1 h1 => k _ _ _ g1 h1
theorem t_yes {Φ : Bool → Prop} (q : Φ true) : WpT K p tYes env Φ := fun H0 σ Hk H Q e po en k => k true Hk H (Go.refl e po) q
theorem e_chain {r r' : R2} {tc : TE} (h : WpE K p ta env fun x => WpE K p tb env fun y => OpD K p r x y fun z => ∃ c, z = .bool c ∧ if c = true then WpE K p tc env fun w => OpD K p r' y w Φ else Φ (.bool false)) : WpE K p (tChain r r' ta tb tc) env Φ := fun H0 σ Hk H Q e po en k =>
  h H0 σ Hk H _ e po en fun vx x Hk1 H1 g1 rx h1 => h1 H0 σ Hk1 H1 _ g1.kr g1.po (en.go g1) fun vy y Hk2 H2 g2 ry h2 =>
    h2 vx vy Hk2 H2 _ g2.kr g2.po (dp_mono g2.kk x rx) ry fun v d Hk3 H3 g3 rz ⟨c, ex, h3⟩ => by
      subst ex
      rw [dp_bl rz]
      refine ⟨c, rfl, ?_⟩
      cases c with
      | false => exact k _ _ _ _ ((g1.trans g2).trans g3) (.bl false) h3
      | true =>
        exact (show WpE K p tc env _ from h3) H0 σ Hk3 H3 _ g3.kr g3.po (((en.go g1).go g2).go g3) fun vw w Hk4 H4 g4 rw' h4 =>
          h4 vy vw Hk4 H4 Q g4.kr g4.po (dp_mono g4.kk y (dp_mono g3.kk y ry)) rw' fun v d Hk5 H5 g5 r f => k v d Hk5 H5 ((((g1.trans g2).trans g3).trans g4).trans g5) r f
/-! ### operations on values -/
theorem op_I0 {x y : PyData} {f : Int → Int → V} {g : Int → Int → PyData} (hf : ∀ i j Hk, Dp K Hk (f i j) (g i j)) (h : ∃ i j, x = .int i ∧ y = .int j ∧ Φ (g i j)) : OpD K p (rI0 f) x y Φ := fun vx vy Hk H Q e po rx ry k => by
  obtain ⟨i, j, rfl, rfl, q⟩ := h
  rw [dp_int rx, dp_int ry]
  exact ⟨i, j, rfl, rfl, k _ _ _ _ (Go.refl e po) (hf i j Hk) q⟩
theorem op_I {x y : PyData} {C : Int → Int → Prop} {f : Int → Int → V} {g : Int → Int → PyData} (hf : ∀ i j Hk, Dp K Hk (f i j) (g i j)) (h : ∃ i j, x = .int i ∧ y = .int j ∧ C i j ∧ Φ (g i j)) : OpD K p (rI C f) x y Φ := fun vx vy Hk H Q e po rx ry k => by
  obtain ⟨i, j, rfl, rfl, c, q⟩ := h
  rw [dp_int rx, dp_int ry]
  exact ⟨i, j, rfl, rfl, c, k _ _ _ _ (Go.refl e po) (hf i j Hk) q⟩
theorem od_add {i j : Int} (h : Φ (.int (i + j))) : OpD K p (rI0 fun i j => V.int (i + j)) (.int i) (.int j) Φ := op_I0 (g := fun i j => .int (i + j)) (fun i j _ => .int _) ⟨i, j, rfl, rfl, h⟩
theorem od_sub {i j : Int} (h : Φ (.int (i - j))) : OpD K p (rI0 fun i j => V.int (i - j)) (.int i) (.int j) Φ := op_I0 (g := fun i j => .int (i - j)) (fun i j _ => .int _) ⟨i, j, rfl, rfl, h⟩
theorem od_mul {i j : Int} (c : CMul i j) (h : Φ (.int (i * j))) : OpD K p (rI CMul fun i j => V.int (i * j)) (.int i) (.int j) Φ := op_I (g := fun i j => .int (i * j)) (fun i j _ => .int _) ⟨i, j, rfl, rfl, c, h⟩
theorem od_mulW {i j : Int} (c : CMulW i j) (h : Φ (.int (i * j))) : OpD K p (rI CMulW fun i j => V.int (i * j)) (.int i) (.int j) Φ := op_I (g := fun i j => .int (i * j)) (fun i j _ => .int _) ⟨i, j, rfl, rfl, c, h⟩
theorem od_fdivN {i j : Int} (c : CDivN i j) (h : Φ (.int (i.fdiv j))) : OpD K p (rI CDivN fun i j => V.int (i.fdiv j)) (.int i) (.int j) Φ := op_I (g := fun i j => .int (i.fdiv j)) (fun i j _ => .int _) ⟨i, j, rfl, rfl, c, h⟩
theorem od_fdiv {i j : Int} (c : CDiv i j) (h : Φ (.int (i / j))) : OpD K p (rI CDiv fun i j => V.int (i / j)) (.int i) (.int j) Φ := op_I (g := fun i j => .int (i / j)) (fun i j _ => .int _) ⟨i, j, rfl, rfl, c, h⟩
theorem od_modN {i j : Int} (c : j ≠ 0) (h : Φ (.int (i.fmod j))) : OpD K p (rI (fun _ j => j ≠ 0) fun i j => V.int (i.fmod j)) (.int i) (.int j) Φ := op_I (g := fun i j => .int (i.fmod j)) (fun i j _ => .int _) ⟨i, j, rfl, rfl, c, h⟩
theorem od_mod {i j : Int} (c : 0 < j) (h : Φ (.int (i % j))) : OpD K p (rI (fun _ j => 0 < j) fun i j => V.int (i % j)) (.int i) (.int j) Φ := op_I (g := fun i j => .int (i % j)) (fun i j _ => .int _) ⟨i, j, rfl, rfl, c, h⟩
theorem od_pow {i j : Int} (c : CPow i j) (h : Φ (.int (i ^ j.toNat))) : OpD K p (rI CPow fun i j => V.int (i ^ j.toNat)) (.int i) (.int j) Φ := op_I (g := fun i j => .int (i ^ j.toNat)) (fun i j _ => .int _) ⟨i, j, rfl, rfl, c, h⟩
theorem od_lt {i j : Int} (h : Φ (.bool (decide (i < j)))) : OpD K p (rI0 fun i j => V.bl (decide (i < j))) (.int i) (.int j) Φ := op_I0 (g := fun i j => .bool (decide (i < j))) (fun i j _ => .bl _) ⟨i, j, rfl, rfl, h⟩
theorem od_le {i j : Int} (h : Φ (.bool (decide (i ≤ j)))) : OpD K p (rI0 fun i j => V.bl (decide (i ≤ j))) (.int i) (.int j) Φ := op_I0 (g := fun i j => .bool (decide (i ≤ j))) (fun i j _ => .bl _) ⟨i, j, rfl, rfl, h⟩
theorem od_gt {i j : Int} (h : Φ (.bool (decide (j < i)))) : OpD K p (rI0 fun i j => V.bl (decide (j < i))) (.int i) (.int j) Φ := op_I0 (g := fun i j => .bool (decide (j < i))) (fun i j _ => .bl _) ⟨i, j, rfl, rfl, h⟩
theorem od_ge {i j : Int} (h : Φ (.bool (decide (j ≤ i)))) : OpD K p (rI0 fun i j => V.bl (decide (j ≤ i))) (.int i) (.int j) Φ := op_I0 (g := fun i j => .bool (decide (j ≤ i))) (fun i j _ => .bl _) ⟨i, j, rfl, rfl, h⟩
theorem od_eqI {i j : Int} (h : Φ (.bool (decide (i = j)))) : OpD K p rEq (.int i) (.int j) Φ := fun vx vy Hk H Q e po rx ry k => by
  rw [dp_int rx, dp_int ry]
  refine ⟨rfl, k _ (.bool (decide (i = j))) _ _ (Go.refl e po) ?_ h⟩
  have : decide (V.int i = V.int j) = decide (i = j) := decide_eq_decide.mpr ⟨fun z => V.int.inj z, fun z => by rw [z]⟩
  rw [this]
  exact .bl _
theorem od_neI {i j : Int} (h : Φ (.bool (!decide (i = j)))) : OpD K p rNe (.int i) (.int j) Φ := fun vx vy Hk H Q e po rx ry k => by
  rw [dp_int rx, dp_int ry]
  refine ⟨rfl, k _ (.bool (!decide (i = j))) _ _ (Go.refl e po) ?_ h⟩
  have : decide (V.int i = V.int j) = decide (i = j) := decide_eq_decide.mpr ⟨fun z => V.int.inj z, fun z => by rw [z]⟩
  rw [this]
  exact .bl _
theorem od_eqS {i j : Str} (h : Φ (.bool (decide (i = j)))) : OpD K p rEq (.str i) (.str j) Φ := fun vx vy Hk H Q e po rx ry k => by
  rw [dp_str rx, dp_str ry]
  refine ⟨rfl, k _ (.bool (decide (i = j))) _ _ (Go.refl e po) ?_ h⟩
  have : decide (V.str i = V.str j) = decide (i = j) := decide_eq_decide.mpr ⟨fun z => V.str.inj z, fun z => by rw [z]⟩
  rw [this]
  exact .bl _
theorem od_neS {i j : Str} (h : Φ (.bool (!decide (i = j)))) : OpD K p rNe (.str i) (.str j) Φ := fun vx vy Hk H Q e po rx ry k => by
  rw [dp_str rx, dp_str ry]
  refine ⟨rfl, k _ (.bool (!decide (i = j))) _ _ (Go.refl e po) ?_ h⟩
  have : decide (V.str i = V.str j) = decide (i = j) := decide_eq_decide.mpr ⟨fun z => V.str.inj z, fun z => by rw [z]⟩
  rw [this]
  exact .bl _
theorem od_eqD {x y : PyData} (sx : SeqAt.shaped x = true) (sy : SeqAt.shaped y = true) (h : Φ (.bool (PyData.eqv x y))) : OpD K p (rEqD K) x y Φ := fun vx vy Hk H Q e po rx ry k =>
  ⟨x, y, dp_mono e x rx, dp_mono e y ry, sx, sy, k _ _ _ _ (Go.refl e po) (.bl _) h⟩
theorem od_neD {x y : PyData} (sx : SeqAt.shaped x = true) (sy : SeqAt.shaped y = true) (h : Φ (.bool (!PyData.eqv x y))) : OpD K p (rNeD K) x y Φ := fun vx vy Hk H Q e po rx ry k =>
  ⟨x, y, dp_mono e x rx, dp_mono e y ry, sx, sy, k _ _ _ _ (Go.refl e po) (.bl _) h⟩
theorem od_isB {a b : Bool} (h : Φ (.bool (decide (a = b)))) : OpD K p rIsB (.bool a) (.bool b) Φ := fun vx vy Hk H Q e po rx ry k => by
  rw [dp_bl rx, dp_bl ry]
  exact ⟨a, b, rfl, rfl, k _ _ _ _ (Go.refl e po) (.bl _) h⟩
theorem od_notB {a b : Bool} (h : Φ (.bool (!decide (a = b)))) : OpD K p rNotB (.bool a) (.bool b) Φ := fun vx vy Hk H Q e po rx ry k => by
  rw [dp_bl rx, dp_bl ry]
  exact ⟨a, b, rfl, rfl, k _ _ _ _ (Go.refl e po) (.bl _) h⟩
theorem ud_neg {i : Int} (h : Φ (.int (-i))) : UnD K p (rU fun i => V.int (-i)) (.int i) Φ := fun vx Hk H Q e po rx k => by
  rw [dp_int rx]
  exact ⟨i, rfl, k _ _ _ _ (Go.refl e po) (.int _) h⟩
theorem atI_map {α β : Type} {f : α → β} {xs : List α} {i : Int} {x : α} (h : atI xs i = some x) : atI (xs.map f) i = some (f x) := by
  unfold atI at h ⊢
  rw [List.length_map]
  cases q : ixN xs.length i with
  | none =>
    rw [q] at h
    cases h
  | some j =>
    rw [q] at h
    show (xs.map f)[j]? = some (f x)
    rw [List.getElem?_map, (show xs[j]? = some x from h)]
    rfl
theorem dpAll_at {Hk : Hp} {vs : List V} {ds : List PyData} {i : Int} {d : PyData} (r : DpAll K Hk vs ds) (h : atI ds i = some d) : ∃ v, atI vs i = some v ∧ Dp K Hk v d := by
  unfold atI at h ⊢
  rw [dpAll_len r]
  cases q : ixN ds.length i with
  | none =>
    rw [q] at h
    cases h
  | some j =>
    rw [q] at h
    exact dpAll_get r (show ds[j]? = some d from h)
theorem od_ixT {ds : List PyData} {i : Int} {d : PyData} (ha : atI ds i = some d) (h : Φ d) : OpD K p (rIxT K) (.tuple ds) (.int i) Φ := fun vx vy Hk H Q e po rx ry k => by
  obtain ⟨a, xs, rfl, hT, r⟩ := dp_tup rx
  rw [dp_int ry]
  obtain ⟨v, hv, rv⟩ := dpAll_at r ha
  exact ⟨a, xs, i, v, rfl, rfl, ex_t e hT, hv, k _ _ _ _ (Go.refl e po) rv h⟩
theorem od_ixL {ds : List PyData} {i : Int} {d : PyData} (ha : atI ds i = some d) (h : Φ d) : OpD K p (rIxL K) (.list ds) (.int i) Φ := fun vx vy Hk H Q e po rx ry k => by
  obtain ⟨a, xs, rfl, hT, r⟩ := dp_lst rx
  rw [dp_int ry]
  obtain ⟨v, hv, rv⟩ := dpAll_at r ha
  exact ⟨a, xs, i, v, rfl, rfl, ex_l e hT, hv, k _ _ _ _ (Go.refl e po) rv h⟩
theorem od_catT {ds es : List PyData} (hz : ds.length + es.length ≤ 100000) (h : Φ (.tuple (ds ++ es))) : OpD K p (rCatA K) (.tuple ds) (.tuple es) Φ := fun vx vy Hk H Q e po rx ry k => by
  obtain ⟨a, xs, rfl, hT, r⟩ := dp_tup rx
  obtain ⟨b, ys, rfl, hU, u⟩ := dp_tup ry
  have l1 := dpAll_len r
  have l2 := dpAll_len u
  refine ⟨a, b, xs, ys, rfl, rfl, ex_t e hT, ex_t e hU, sz_of (by omega), fun z => ?_, fun _ z => ?_, fun _ _ q hq => ?_⟩
  · have : ds = [] := List.length_eq_zero_iff.mp (by rw [← l1, z]; rfl)
    subst this
    exact k _ _ _ _ (Go.refl e po) ry h
  · have : es = [] := List.length_eq_zero_iff.mp (by rw [← l2, z]; rfl)
    subst this
    rw [List.append_nil] at h
    exact k _ _ _ _ (Go.refl e po) rx h
  · exact k _ _ _ _ (Go.new e po hq) (.tup (SqT.of upd_same) (dpAll_mono (Ex.new (fresh_back e hq)) _ (dpAll_app r u))) h
/-- what is cut out -/
def cutD (xs : List PyData) (lo hi : Option Int) : List PyData := (xs.drop (HT.sIx xs.length 0 lo)).take (HT.sIx xs.length xs.length hi - HT.sIx xs.length 0 lo)
theorem ud_slT {ds : List PyData} {lo hi : Option Int} (h : Φ (.tuple (cutD ds lo hi))) : UnD K p (fun v => rSlA K v lo hi) (.tuple ds) Φ := fun vx Hk H Q e po rx k => by
  obtain ⟨a, xs, rfl, hT, r⟩ := dp_tup rx
  have l1 := dpAll_len r
  refine ⟨a, xs, rfl, ex_t e hT, fun ⟨z1, z2⟩ => ?_, fun _ q hq => ?_⟩
  · have : cutD ds lo hi = ds := by
      unfold cutD
      rw [l1] at z1 z2
      rw [z1, z2, List.drop_zero, Nat.sub_zero]
      exact List.take_length
    rw [this] at h
    exact k _ _ _ _ (Go.refl e po) rx h
  · refine k _ _ _ _ (Go.new e po hq) (.tup (SqT.of upd_same) (dpAll_mono (Ex.new (fresh_back e hq)) _ ?_)) h
    unfold cutV cutD
    rw [l1]
    exact dpAll_take _ (dpAll_drop _ r)
theorem sqL_lst {Hk : Hp} {a : Addr} {xs : List V} (h : SqL K Hk a xs) : SqL K Hk a xs := h
/-! ### built-ins on values -/
theorem cb_len_tup {r : List V → Hp → VK → Prop} (hr : r = fun xs H Q => ∃ p ys, xs = [.ref p] ∧ (SqL K H p ys ∨ SqT K H p ys) ∧ Q (.int ys.length) H) {ds : List PyData} (h : Φ (.int ds.length)) : CbD K p r [.tuple ds] Φ := fun vs Hk H Q e po rx k => by
  subst hr
  cases rx with
  | cons rx rr =>
    cases rr
    obtain ⟨a, xs, rfl, hT, r⟩ := dp_tup rx
    refine ⟨a, xs, rfl, .inr (ex_t e hT), ?_⟩
    rw [dpAll_len r]
    exact k _ _ _ _ (Go.refl e po) (.int _) h
theorem cb_len_lst {r : List V → Hp → VK → Prop} (hr : r = fun xs H Q => ∃ p ys, xs = [.ref p] ∧ (SqL K H p ys ∨ SqT K H p ys) ∧ Q (.int ys.length) H) {ds : List PyData} (h : Φ (.int ds.length)) : CbD K p r [.list ds] Φ := fun vs Hk H Q e po rx k => by
  subst hr
  cases rx with
  | cons rx rr =>
    cases rr
    obtain ⟨a, xs, rfl, hT, r⟩ := dp_lst rx
    refine ⟨a, xs, rfl, .inl (ex_l e hT), ?_⟩
    rw [dpAll_len r]
    exact k _ _ _ _ (Go.refl e po) (.int _) h
theorem cb_sum {ns : List Int} (h : Φ (.int ns.sum)) : CbD K p (rSum K) [.list (ns.map .int)] Φ := fun vs Hk H Q e po rx k => by
  cases rx with
  | cons rx rr =>
    cases rr
    obtain ⟨a, xs, rfl, hT, r⟩ := dp_lst rx
    have := dpAll_ints r
    subst this
    exact ⟨a, ns, rfl, ex_l e hT, k _ _ _ _ (Go.refl e po) (.int _) h⟩
theorem cb_sumT {r : List V → Hp → VK → Prop} (ns : List Int) (h : Φ (.int ns.sum)) {x : PyData} (hx : x = .list (ns.map .int)) : CbD K p (rSum K) [x] Φ := by
  rw [hx]
  exact cb_sum h
theorem cb_all {bs : List Bool} (h : Φ (.bool (bs.all id))) : CbD K p (rAll K) [.list (bs.map .bool)] Φ := fun vs Hk H Q e po rx k => by
  cases rx with
  | cons rx rr =>
    cases rr
    obtain ⟨a, xs, rfl, hT, r⟩ := dp_lst rx
    have := dpAll_bools r
    subst this
    exact ⟨a, bs, rfl, ex_l e hT, k _ _ _ _ (Go.refl e po) (.bl _) h⟩
theorem cb_abs {i : Int} (h : Φ (.int (if i < 0 then -i else i))) : CbD K p (fun xs H Q => ∃ i, xs = [V.int i] ∧ Q (.int (if i < 0 then -i else i)) H) [.int i] Φ := fun vs Hk H Q e po rx k => by
  cases rx with
  | cons rx rr =>
    cases rr
    rw [dp_int rx]
    exact ⟨i, rfl, k _ _ _ _ (Go.refl e po) (.int _) h⟩
theorem cb_int {i : Int} (h : Φ (.int i)) : CbD K p (fun xs H Q => (∃ i, xs = [V.int i] ∧ Q (.int i) H) ∨ ∃ k, xs = [V.bl k] ∧ Q (.int (if k then 1 else 0)) H) [.int i] Φ := fun vs Hk H Q e po rx k => by
  cases rx with
  | cons rx rr =>
    cases rr
    rw [dp_int rx]
    exact .inl ⟨i, rfl, k _ _ _ _ (Go.refl e po) (.int _) h⟩
theorem cb_max2 {i j : Int} (h : Φ (.int (if j > i then j else i))) : CbD K p (fun xs H Q => ∃ i j, xs = [V.int i, V.int j] ∧ Q (.int (if j > i then j else i)) H) [.int i, .int j] Φ := fun vs Hk H Q e po rx k => by
  cases rx with
  | cons rx rr =>
    cases rr with
    | cons ry rr =>
      cases rr
      rw [dp_int rx, dp_int ry]
      exact ⟨i, j, rfl, k _ _ _ _ (Go.refl e po) (.int _) h⟩
theorem cb_gcd {i j : Int} (h : Φ (.int ((Nat.gcd i.natAbs j.natAbs : Nat) : Int))) : CbD K p rGcd [.int i, .int j] Φ := fun vs Hk H Q e po rx k => by
  cases rx with
  | cons rx rr =>
    cases rr with
    | cons ry rr =>
      cases rr
      rw [dp_int rx, dp_int ry]
      exact ⟨i, j, rfl, k _ _ _ _ (Go.refl e po) (.int _) h⟩
theorem cb_list {ds : List PyData} {x : PyData} (hx : x = .tuple ds ∨ x = .list ds) (h : Φ (.list ds)) : CbD K p (fun xs H Q => ∃ p ys, xs = [V.ref p] ∧ (SqL K H p ys ∨ SqT K H p ys) ∧ ∀ l, H l = none → Q (.ref l) (upd H l (.lst ys))) [x] Φ := fun vs Hk H Q e po rx k => by
  cases rx with
  | cons rx rr =>
    cases rr
    rcases hx with rfl | rfl
    · obtain ⟨a, xs, rfl, hT, r⟩ := dp_tup rx
      exact ⟨a, xs, rfl, .inr (ex_t e hT), fun q hq => k _ _ _ _ (Go.new e po hq) (.lst (SqL.of upd_same) (dpAll_mono (Ex.new (fresh_back e hq)) _ r)) h⟩
    · obtain ⟨a, xs, rfl, hT, r⟩ := dp_lst rx
      exact ⟨a, xs, rfl, .inl (ex_l e hT), fun q hq => k _ _ _ _ (Go.new e po hq) (.lst (SqL.of upd_same) (dpAll_mono (Ex.new (fresh_back e hq)) _ r)) h⟩
theorem cb_tuple {ds : List PyData} {x : PyData} (hx : x = .tuple ds ∨ x = .list ds) (h : Φ (.tuple ds)) : CbD K p (fun xs H Q => ∃ p ys, xs = [V.ref p] ∧ ((SqL K H p ys ∧ ∀ l, H l = none → Q (.ref l) (upd H l (.tup ys))) ∨ (SqT K H p ys ∧ Q (.ref p) H))) [x] Φ := fun vs Hk H Q e po rx k => by
  cases rx with
  | cons rx rr =>
    cases rr
    rcases hx with rfl | rfl
    · obtain ⟨a, xs, rfl, hT, r⟩ := dp_tup rx
      exact ⟨a, xs, rfl, .inr ⟨ex_t e hT, k _ _ _ _ (Go.refl e po) rx h⟩⟩
    · obtain ⟨a, xs, rfl, hT, r⟩ := dp_lst rx
      exact ⟨a, xs, rfl, .inl ⟨ex_l e hT, fun q hq => k _ _ _ _ (Go.new e po hq) (.tup (SqT.of upd_same) (dpAll_mono (Ex.new (fresh_back e hq)) _ r)) h⟩⟩
end
end Fw
/-! enumerate of a tuple; a tuple times 1; repr of data; a call by names alone -/
namespace FwE
open PySem PySem.Spec PyProof.Rows L2
section
variable {prog : Program} {w : World} {A : Around}
theorem tupDraws {it l : Addr} {items : Array Value} (hne : l ≠ it) (hh : A.handled = none) : Draws prog w A it [it, l] items.size (fun i x => items[i]? = some x) (fun i h => h.IsTupleIter it l i ∧ h.IsTuple l items) where
  live := fun i h st => by
    obtain ⟨⟨o, ho, _⟩, _⟩ := st
    exact ⟨o, ho⟩
  frame := fun i h h' st k => by
    obtain ⟨h1, o, ho, hc, n, hd⟩ := st
    exact ⟨h1.at fun o q => k it (by simp) o q, o, k l (by simp) _ ho, hc, n, hd⟩
  item := fun i s Q E hi st hQ => by
    obtain ⟨h1, h2⟩ := st
    have hx : items[i]? = some items[i] := by simp [hi]
    refine RZ.nextOf_tuple_item h1 h2 hx fun h' a sb => hQ items[i] h' s.toks hx ⟨a, ?_⟩ sb
    obtain ⟨o, ho, hc, n, hd⟩ := h2
    exact ⟨o, (sb.2 l hne).trans ho, hc, n, hd⟩
  done := fun s Q E st hE => RZ.nextOf_tuple_end hh st.1 st.2 (by simp) hE
theorem meetsNewT (l : Addr) (items : Array Value) (n : Nat) (dct : Option Addr) (sl : Array (Option Value)) :
    Meets (Builtin.«enumerate.__new__» ⟨[.type "enumerate", .ref l], []⟩) (fun _ R s =>
      s.heap.get? l = some { cls := .type "tuple", dict := dct, data := .seq items n, slots := sl } ∧ ∀ h', IsEnum h' (s.heap.objs.size + 1) s.heap.objs.size 0 .none → h'.IsTupleIter s.heap.objs.size l 0 →
        h'.objs.size = s.heap.objs.size + 2 → (∀ b o, s.heap.get? b = some o → h'.get? b = some o) → R (.ok (.ret (.ref (s.heap.objs.size + 1)))) { s with heap := h' }) :=
  .of_wp fun prog w A R s h => by
    obtain ⟨hp, g, d, tk, os⟩ := s
    obtain ⟨hl, h⟩ := h
    have hsub := sub_enumerate
    have hL : Heap.IsTuple (Shared.heap ⟨hp, g, d, tk, os⟩) l items := ⟨_, hl, rfl, n, rfl⟩
    have fin : R (.ok (.ret (.ref (hp.push { cls := .type "tuple_iterator", data := .fields #[.ref l, .int 0 0] }).objs.size)))
        ⟨(hp.push { cls := .type "tuple_iterator", data := .fields #[.ref l, .int 0 0] }).push { cls := .type "enumerate", data := .fields #[.none, .bool false, .ref hp.objs.size, rawInt 0, .none, .none] }, g, d, tk, os⟩ := by
      have hz : (hp.push { cls := .type "tuple_iterator", data := .fields #[.ref l, .int 0 0] }).objs.size = hp.objs.size + 1 := Heap.size_push ..
      have he : IsEnum ((hp.push { cls := .type "tuple_iterator", data := .fields #[.ref l, .int 0 0] }).push { cls := .type "enumerate", data := .fields #[.none, .bool false, .ref hp.objs.size, rawInt 0, .none, .none] }) (hp.objs.size + 1) hp.objs.size 0 .none := by
        have q := Heap.get?_push_size (hp.push { cls := .type "tuple_iterator", data := .fields #[.ref l, .int 0 0] }) (o := { cls := .type "enumerate", data := .fields #[.none, .bool false, .ref hp.objs.size, rawInt 0, .none, .none] }) rfl
        rw [hz] at q
        exact q
      rw [hz]
      exact h _ he ⟨_, Heap.get?_push_of_some _ (Heap.get?_push_size _ rfl), rfl, rfl⟩ (by rw [Heap.size_push, hz]) fun b o x => Heap.get?_push_of_some _ (Heap.get?_push_of_some _ x)
    wp_walk using AutoSeq1.wpAny_loadPart' hl
    refine wpAny_stack_any fun st => wpAny_pure ?_
    split
    · rename_i c _ _ _ _ _
      cases (c == Value.type "enumerate")
      all_goals
        wp_walk using AutoSeq1.wpAny_loadPart' hl, wpAny_pyIter_tuple hL
        exact ⟨_, rfl, fin⟩
    · wp_walk using AutoSeq1.wpAny_loadPart' hl, wpAny_pyIter_tuple hL
      exact ⟨_, rfl, fin⟩
theorem callEnumT {E : Value → Shared → Prop} {s : Shared} {l : Addr} {items : Array Value} {Q : Value → Shared → Prop} (hL : s.heap.IsTuple l items)
    (h : ∀ h', IsEnum h' (s.heap.objs.size + 1) s.heap.objs.size 0 .none → h'.IsTupleIter s.heap.objs.size l 0 → h'.objs.size = s.heap.objs.size + 2 → (∀ b o, s.heap.get? b = some o → h'.get? b = some o) → Q (.ref (s.heap.objs.size + 1)) { s with heap := h' }) :
    wpAny (model prog w) A (call (.type "enumerate") [.ref l]) Q E s := by
  obtain ⟨⟨c, dct, dt, sl⟩, hl, hc, n, hd⟩ := hL
  simp only at hc hd
  subst hc hd
  refine callType_new F.called_enumerate (by decide) (F.typeCall_enumerate_1 _) (F.newCall_enumerate_1 _) (fun obj => F.args_object_init_2 obj _) F.entry_enumerate_new (meetsNewT l items n dct sl) ⟨hl, fun h' a b c d => ?_⟩
  exact ⟨⟨_, a, rfl⟩, h h' a b c d⟩
end
/-- the tuple at a, each item in a new pair -/
def IteT (K : PySem.W.Frag) (a : Addr) : It :=
  ⟨fun i H => ∃ (xs : List V) (x : V), SqT K H a xs ∧ xs[i]? = some x, fun i H v H' => ∃ T x, v = .ref T ∧ H T = none ∧ H' = upd H T (.tup [.int (i : Nat), x]) ∧ ∀ xs, SqT K H a xs → xs[i]? = some x, fun i H => ∃ xs : List V, SqT K H a xs ∧ xs.length ≤ i⟩
theorem turnEnumT {P : Program} {w : World} {K : PySem.W.Frag} {elts : List Expr} {kk : Nat} {tpos : Pos} (a e it : Addr) (hae : a ≠ e) (hai : a ≠ it) :
    Turn P w K (.Tuple elts kk tpos) (IteT K a) [e, it] e (fun i h => (∃ old, IsEnum h e it ((i : Nat) : Int) old) ∧ h.IsTupleIter it a i ∧ e ≠ it) where
  mem := by simp
  obj := fun i h st b hb => by
    obtain ⟨⟨old, he⟩, ⟨o, ho, hc, hd⟩, _⟩ := st
    rcases (show b = e ∨ b = it by simpa using hb) with z | z
    · rw [z]; exact ⟨_, he, fun v q => nomatch q⟩
    · rw [z]; exact ⟨o, ho, fun v q => by rw [hd] at q; cases q⟩
  keep := fun i h h' st k => let ⟨⟨old, he⟩, hi, hne⟩ := st; ⟨⟨old, k e (by simp) _ he⟩, hi.at fun o q => k it (by simp) o q, hne⟩
  item := by
    intro X hP hw hK hc i pins s σ H E I hf st hg
    subst hP hw hK
    obtain ⟨⟨old, he⟩, hit, hne⟩ := st
    obtain ⟨xs, x, hq, hx⟩ := hg
    obtain ⟨its, rv, tp, hz⟩ := I.tuple hq
    obtain ⟨u, hu, ru⟩ := rv.get hx
    have hel : e < s.heap.objs.size := Heap.lt_size he
    have hil : it < s.heap.objs.size := by
      obtain ⟨_, q, _⟩ := hit
      exact Heap.lt_size q
    have hu' : its.toArray[i]? = some u := by simpa using hu
    have hlt : i < its.toArray.size := by
      have := (List.getElem?_eq_some_iff.mp hu).1
      simpa using this
    refine wpAny_pyNext_enum_itemD (tupDraws (items := its.toArray) hai (show X.A.in1.handled = none from I.ok.hd hc)) he ⟨hit, tp⟩ hlt hne (by simp [hne, Ne.symm hae]) fun x2 h' tk hx2 ho st2 hT hsz hk => ?_
    have ex : x2 = u := Option.some.inj (hx2.symm.trans hu')
    subst ex
    refine ⟨_, rfl, wpAny_letOwnedTupleGo_enum (s := { s with heap := h', toks := tk + 1 }) ho fun h'' he' sb => ?_⟩
    have hT2 : h''.get? s.heap.objs.size = some { cls := .type "tuple", data := .seq #[.int i tk, x2] } := (sb.2 _ (Nat.ne_of_gt hel)).trans hT
    have new : ObjOk X.prog X.w (upd H s.heap.objs.size (.tup [.int (i : Nat), x])) h'' s.heap.objs.size (.tup [.int (i : Nat), x]) :=
      ⟨by show 2 ≤ sizeLine; decide, [.int i tk, x2], .cons ⟨_, rfl⟩ (.cons ru .nil), ⟨_, hT2, rfl, _, rfl⟩⟩
    have I1 : Inv X pins σ (upd H s.heap.objs.size (.tup [.int (i : Nat), x])) { s with heap := h'', toks := tk + 1 } :=
      I.turnedNew (ch := [e, it]) (fun b ob hb q => (sb.2 b (fun z => hb (by simp [z]))).trans (hk b ob (fun z => hb (by simp [z])) (fun z => hb (by simp [z])) q)) hf (Nat.le_refl _) new
    refine ⟨.ref s.heap.objs.size, _, I1, rfl, ⟨_, x, rfl, I.hok.fresh (Nat.le_refl _), rfl, fun ys hy => by rw [I.tuple_inj hy hq]; exact hx⟩, ⟨⟨x2, ?_⟩, st2.1.at fun o q => (sb.2 it (Ne.symm hne)).trans q, hne⟩, fun b hb => ?_⟩
    · rw [show ((i + 1 : Nat) : Int) = (i : Int) + 1 by omega]
      exact he'
    · have hb' : b < s.heap.objs.size := by
        rcases (show b = e ∨ b = it by simpa using hb) with z | z
        · rw [z]; exact hel
        · rw [z]; exact hil
      rw [upd_ne (Nat.ne_of_lt hb')]
      exact (hf b hb).1
  done := by
    intro X hP hw hK hc i pins s σ H E I hf st hg
    subst hP hw hK
    obtain ⟨⟨old, he⟩, hit, hne⟩ := st
    obtain ⟨xs, hq, hx⟩ := hg
    obtain ⟨its, rv, tp, hz⟩ := I.tuple hq
    obtain ⟨f0, f1, f2, f3, f4, f5⟩ := hf it (by simp)
    have hl := rv.length
    have hn : its.toArray[i]? = none := by simp; omega
    have hT : s.TypeIs (.ref e) "enumerate" := ⟨_, he, rfl⟩
    unfold pyNext
    refine wpAny_bind (wpAny_attempt (wpAny_callSpecial?_slot (name := Str.ofString "__next__") hT F.slot_enumerate_next (wpAny_call_entry F.slot_enumerate_next hT F.entry_enumerate_next ?_ (F.args_enumerate_next_1 _))))
    show wpAny _ _ (field (.ref e) 2 >>= _) _ _ _
    refine wpAny_bind (wpAny_field he rfl (x := .ref it) rfl ?_)
    refine wpAny_bind (RZ.nextOf_tuple_end (show X.A.in1.handled = none from I.ok.hd hc) hit tp hn fun h' y eb hy => ?_)
    obtain ⟨o, ho, hc'⟩ := hy
    refine wpAny_bind (wpAny_isInstance (T := "StopIteration") (b := true) ⟨o, ho, hc'⟩ isSubtype_stop ?_)
    exact wpAny_pure ⟨rfl, I.turned (t' := s.toks) (fun b o hb q => eb b o hb q) f0 f1 f3 f4 f5⟩
  self := fun A i s Q E st h => let ⟨⟨_, he⟩, _⟩ := st; wpAny_pyIter_enum he h
def iEnumT (K : PySem.W.Frag) (ta : TA) : TI := fun σ H R => ta σ H fun vs H1 => ∃ a xs, vs = [.ref a] ∧ SqT K H1 a xs ∧ R (IteT K a) H1
theorem pi_enumT {X : Cx} {e : Expr} {ta : TA} {p pos tpos : Pos} {elts : List Expr} {kk : Nat} (hg : Gl X "enumerate") (hm : X.mg "enumerate" = none) (ha : PA X [e] ta) (hs : starEach [e] X.env = [(false, eval e X.env)] := by rfl) :
    PI X (.Tuple elts kk tpos) (.Call (.Name "enumerate" p) [e] [] pos) (iEnumT X.K ta) := by
  refine ⟨fun pins s σ H R I h => ?_⟩
  refine Call_ (ld_blt I hg hm boot_enumerate (PyProof.Rows.callWith_type1 (thn (ha.run pos pins s σ H _ I h) fun us s1 ⟨vs, H1, I1, r1, q1⟩ => ?_) hs rfl))
  obtain ⟨a, xs, ex, hq, q⟩ := q1
  subst ex
  cases r1 with
  | cons r rr =>
    cases rr
    cases r
    obtain ⟨its, rv, tp, hz⟩ := I1.tuple hq
    have hlt : a < s1.heap.objs.size := by
      obtain ⟨o, ho, _⟩ := tp
      exact Heap.lt_size ho
    refine callEnumT tp fun h' he hit hsz hk => wpAny_pyIter_enum he ?_
    have I2 : Inv X pins σ H1 { s1 with heap := h' } := I1.kept (t' := s1.toks) hk
    refine ⟨s1.heap.objs.size + 1, [s1.heap.objs.size + 1, s1.heap.objs.size], _, _, H1, rfl, I2, turnEnumT a (s1.heap.objs.size + 1) s1.heap.objs.size (Nat.ne_of_lt (Nat.lt_succ_of_lt hlt)) (Nat.ne_of_lt hlt), ⟨⟨.none, he⟩, hit, Nat.succ_ne_self _⟩, fun b hb => ?_, q⟩
    have hle : s1.heap.objs.size ≤ b := by
      rcases (show b = s1.heap.objs.size + 1 ∨ b = s1.heap.objs.size by simpa using hb) with z | z
      · rw [z]; exact Nat.le_add_right _ _
      · rw [z]; exact Nat.le_refl _
    exact I1.fpOk hle (I1.hok.fresh hle)
/-! ### repr of data -/
def rReprD (K : PySem.W.Frag) : List V → Hp → VK → Prop := fun xs H Q => ∃ (x : V) (d : PyData), xs = [x] ∧ Dp K H x d ∧ isDisplay d = true ∧ d.showable = true ∧ d.hasDict = false ∧ d.depth ≤ 60 ∧ d.shown.length ≤ sizeLine ∧ Q (.str d.shown) H
section
variable {X : Cx}
theorem call_reprD (hg : X.A.guards = some []) (hu : X.A.units + 61 < cLine) : CallR X (.builtin "repr") (rReprD X.K) := by
  intro pins s σ H xs us Q I r h
  obtain ⟨x, d, rfl, hd, h1, h2, h3, h4, h5, q⟩ := h
  obtain ⟨u, rfl, rx⟩ := vals1 r
  obtain ⟨as, rd⟩ := Dp.reads I d x u hd rx
  obtain ⟨a, rfl⟩ := isRef_of_reads rd h1
  exact repr_of_reads' rd h2 (PyData.noDict_hsm h3) hg (by omega) (fun _ _ e => e) (fun h' t tk hk => ⟨.str d.shown, H, I.kept hk, ⟨_, rfl⟩, q⟩) h5
/-- repr of a truth value -/
theorem call_reprB : CallR X (.builtin "repr") (fun xs H Q => ∃ b, xs = [.bl b] ∧ Q (.str (if b then "True" else "False")) H) := by
  intro pins s σ H xs us Q I r h
  obtain ⟨b, rfl, q⟩ := h
  obtain ⟨u, rfl, rx⟩ := vals1 r
  cases rx
  refine PySem.P.repr_of_bool ⟨.str _, H, I.tok _, ?_, q⟩
  cases b
  · exact ⟨_, rfl⟩
  · exact ⟨_, rfl⟩
end
end FwE
/-! Defs that are called where no repr is under way (their promise asks it of the surroundings): FnG beside the layer's FnOk. -/
namespace FwG
open PySem PySem.Spec PyProof.Rows L2
structure FnG (P : Program) (w : World) (K : PySem.W.Frag) (mg : Str → Option Value) (base : Heap) (CX : CXT) (k : Nat) (f : Addr) (fd : FuncData) (ps : List Str) (sp : Sp) : Prop where
  len : ∀ vs H Q E, sp vs H Q E → vs.length = ps.length
  go : ∀ (A : Around), A.guards = some [] → ∀ (outer : List Env) (s : Shared) (H : Hp) (args : Args) (us : List Value) (vs : List V) (Q : VK) (E : XK), Room k A → Env0 P w K mg base A outer s H → BindsTo s fd args (ps.zip us) → Vals vs us → sp vs H Q E → codeAny (model P w) A (.call (.ref f) args) (CR CX outer P w H s Q E) s
section
variable {P : Program} {w : World} {K : PySem.W.Frag} {mg : Str → Option Value} {base : Heap}
theorem FnG.of {CX : CXT} {k : Nat} {f : Addr} {fd : FuncData} {ps : List Str} {sp : Sp} (F : FnOk P w K mg base CX k f fd ps sp) : FnG P w K mg base CX k f fd ps sp :=
  ⟨F.len, fun A _ outer s H args us vs Q E => F.run A outer s H args us vs Q E⟩
variable {x qual : Str} {params : Arguments} {body : List Stmt} {scope : Scope} {dvs : List V} {kws : List (Str × V)} {f : Addr} {fd : FuncData}
theorem okG {CX : CXT} {N ps : List Str} {k : Nat} {sp : Sp} (F : FunD K x qual params body scope dvs kws f fd) (S : FnScope N ps scope) (len : ∀ vs H Q E, sp vs H Q E → vs.length = ps.length)
    (hb : ∀ (cdv : Value) (A : Around) (outer : List Env) (s : Shared) (H : Hp) (vs : List V) (Q : VK) (E : XK), A.guards = some [] → Room k (A.deeper (envOfC qual scope s.heap.objs.size f cdv)) → sp vs H Q E →
      ∃ t, PSs (cxOf CX P w K mg base N qual scope f cdv A outer s H E) body t ∧ t { nx := fun _ H' => Q .non H', rt := Q } (start N vs) H) : FnG P w K mg base CX (k + 1) f fd ps sp := by
  obtain ⟨oc, od, dV, kV, doc, pm, an, cdv, ct, osl, rfl, lk, hcd, _, _⟩ := F.ex
  constructor
  · exact len
  intro A gA outer s H args us vs Q E room ev bind rel prom
  have same : vs.length = ps.length := len _ _ _ _ prom
  have kIn : K.In s.heap := ev.mod.kin.keeps fun b o e => (ev.bs b o e).1
  refine codeAny_call_function room.depth (kIn _ _ lk) rfl S.co S.gen rfl (PySem.W.codeRec_of kIn hcd) (bind _ _ _ _ (wpAny_newFunctionEnv_cells S.kind (fun y hy => ?_) fun env he s1 inC => ?_))
  · cases S.par y.1 (List.of_mem_zip (show (y.1, y.2) ∈ ps.zip us from hy)).1 with
    | inl q => exact .inl q
    | inr q => exact .inr ⟨q, PySem.W.cellsFrom_some _ _ _ (.inl q)⟩
  subst he
  refine ⟨(ev.mod.nolimit.keeps fun b o e => (ev.bs b o e).1).keeps inC.toInCall.keep, codeAny_func ?_⟩
  obtain ⟨t, der, rd⟩ := hb cdv A outer s H vs Q E gA (room.deeper _) prom
  have start1 := inv_start (CX := CX) (E := E) S room.hd ev same rel inC
  refine wpAny_mono (der.run [] s1 (start N vs) H _ start1 rd) (fun fl s2 out => ?_) fun e s2 out => out
  cases fl with
  | ret u =>
    obtain ⟨v, _, H2, J, rv, q⟩ := out
    exact ⟨v, H2, J.os, J.bare, J.base, J.hok, rv, q⟩
  | next =>
    obtain ⟨_, H2, J, q⟩ := out
    exact ⟨.non, H2, J.os, J.bare, J.base, J.hok, rfl, q⟩
  | brk => exact (let ⟨_, _, _, q⟩ := out; q.elim)
  | cont => exact (let ⟨_, _, _, q⟩ := out; q.elim)
end
section
variable {X : Cx} {CX : CXT} {k : Nat} {f : Addr} {fd : FuncData} {ps : List Str} {sp : Sp} {dvs : List V} {ds : List Value} {E : XK} {x : Str} {p pos : Pos} {e : Expr} {es : List Expr} {t : TA}
theorem pe_callG (F : FnG X.prog X.w X.K X.mg X.base CX k f fd ps sp) (gA : X.A.guards = some []) (room : Room k X.A) (hg : Gl X x) (hm : X.mg x = some (.ref f)) (kp : PySem.W.keepIn X.K (.ref f) = true) (bind : Binds X.K fd ps ds) (dv : Vals dvs ds) (pass : Passes CX X E)
    (ha : PA X (e :: es) t) (nd : (x == ("__debug__" : Str)) = false := by decide) (st : starEach (e :: es) X.env = (false, eval e X.env) :: starEach es X.env := by rfl) (pl : (backTo pos (starEach es X.env)).any (·.1) = false := by rfl) :
    PE X (.Call (.Name x p) (e :: es) [] pos) (tCall sp dvs E t) := ⟨fun pins s σ H Q I h => by
  refine wpAny_Call_Name_kw (ld_glob I hg hm (PySem.W.callWith_K (h₀ := X.base) I.ok.mod.kin kp (thn (ha.run pos pins s σ H _ I h) fun us s1 got => ?_) st pl) nd)
  obtain ⟨vs, H1, I1, r, q⟩ := got
  refine ⟨I1.kIn, wpAny_call (codeAny_mono (F.go X.A gA X.stack s1 H1 ⟨us, []⟩ (us ++ ds) (vs ++ dvs) Q E room I1.env0 (bind s1 us I1.kIn ?_) (r.append dv) q) fun res s2 out => ?_)⟩
  · rw [← (r.append dv).length]
    exact F.len _ _ _ _ q
  · cases res with
    | error e => exact pass pins σ H1 s1 e s2 I1 out
    | ok fl =>
      cases fl with
      | ret u => exact I1.after out
      | next => exact out.elim
      | brk => exact out.elim
      | cont => exact out.elim⟩
/-- a call by names alone -/
theorem pe_callK0 {ks : List Str} {kw : List Keyword} {tk : TA} {g : List Value → List Value → List Value} {gV : List V → List V → List V} (F : FnOk X.prog X.w X.K X.mg X.base CX k f fd ps sp) (room : Room k X.A) (hg : Gl X x) (hm : X.mg x = some (.ref f)) (kp : PySem.W.keepIn X.K (.ref f) = true)
    (bind : KBinds X.K fd ps ks g gV) (pass : Passes CX X E) (hk : PK X kw tk) (all : (backToKw pos (keywordEach kw X.env)).all (·.1.isSome) = true := by rfl) (keys : (backToKw pos (keywordEach kw X.env)).filterMap (·.1) = ks := by rfl)
    (nd : (x == ("__debug__" : Str)) = false := by decide) (pl : ((backTo pos (starEach [] X.env)).any (·.1) || (backToKw pos (keywordEach kw X.env)).any (·.1.isNone)) = false := by rfl) :
    PE X (.Call (.Name x p) [] kw pos) (tCallK sp gV E tNil tk) := ⟨fun pins s σ H Q I h => by
  refine wpAny_Call_Name_kw (ld_glob I hg hm (PySem.W.callWith_KW0 (h₀ := X.base) I.ok.mod.kin kp all (thn (hk.run pos pins s σ H _ I h) fun ws s2 got => ?_) pl) nd)
  obtain ⟨zs, H2, I2, rz, q⟩ := got
  refine ⟨I2.kIn, ?_⟩
  rw [keys]
  exact run_fnk (us := []) (vs := []) F room bind pass I2 .nil rz q⟩
end
/-! ### the law's own call -/
section
variable {P : Program} {w : World} {K : PySem.W.Frag} {mg mb : Str → Option Value} {s : Shared}
/-- what is not hidden still stands in the heap without the script -/
theorem nsLeft {H : Hp} {h : Heap} {b : Addr} {m : Str → Option Value} (plain : ∀ c o es ep, h.get? c = some o → o.data = .dict es ep → H c = none) (q : h.Ns b m) : (hidT h H).Ns b m := by
  obtain ⟨o, es, ep, e, d, r⟩ := q
  exact ⟨o, es, ep, hidT_get e (plain b o es ep e d), d, r⟩
theorem modLeft {H : Hp} (plain : ∀ c o es ep, s.heap.get? c = some o → o.data = .dict es ep → H c = none) (inK : K.In s.heap) (out : ∀ b o, K.lookup b = some o → H b = none) (n1 : s.heap.Ns mainGlobals mg) (n2 : s.heap.Ns builtinsNs mb)
    (bb : ∀ x : Str, x ≠ "__name__" → mb x = bootBuiltins x) (lim : s.heap.NoLimit) : Mod K mg (hidT s.heap H) where
  kin := fun b o e => hidT_get (inK b o e) (out b o e)
  glob := nsLeft plain n1
  blt := ⟨mb, nsLeft plain n2, bb⟩
  nolimit := by
    obtain ⟨mc, a, b⟩ := lim
    exact ⟨mc, nsLeft plain a, b⟩
/-- the end of the law's run: True, and all that stood before stands -/
theorem endOf {H : Hp} {r : Result} {s' : Shared} (only : Only H) (ok : HOk P w H s.heap) (h : CR CX0 [] P w H s (fun v _ => v = .bl true) (fun _ _ _ => False) r s') :
    r = .ok (.ret (.bool true)) ∧ OldK s.heap s'.heap ∧ s'.os = s.os ∧ AllBare s'.gens := by
  match r, h with
  | .ok (.ret u), h =>
    obtain ⟨v, H', ho, hb, chg, ok', rv, q⟩ := h
    subst q
    cases rv
    refine ⟨rfl, OldK.of_keep fun b o e => ?_, ho, hb⟩
    rcases only b with z | ⟨ob, xs, z⟩
    · exact chg.keep b o e z (fun y => nomatch y) (fun y => nomatch y)
    · have a1 := (ok b _ z).1
      have a2 := (ok' b _ (chg.frzs b ob _ z)).1
      rw [a1] at e
      cases e
      exact a2
variable {k : Nat} {fa a : Addr} {fd : FuncData} {x : Str} {sp : Sp} {vs : List Value} {ns : List Int}
theorem lawRun {H : Hp} (only : Only H) (seen : SqL K H a (ns.map V.int)) (ok : HOk P w H s.heap) (plain : ∀ c o es ep, s.heap.get? c = some o → o.data = .dict es ep → H c = none) (out : ∀ b o, K.lookup b = some o → H b = none)
    (inK : K.In s.heap) (n1 : s.heap.Ns mainGlobals mg) (n2 : s.heap.Ns builtinsNs mb) (bb : ∀ x : Str, x ≠ "__name__" → mb x = bootBuiltins x) (lim : s.heap.NoLimit) (gens : s.gens = #[]) (room : Room k callerA)
    (F : ∀ base : Heap, K.In base → base.Ns mainGlobals mg → FnG P w K mg base CX0 k fa fd [x] sp) (bind : ∀ (s : Shared) (u : Value), BindsTo s fd ⟨[u], []⟩ [(x, u)])
    (prom : sp [.ref a] H (fun v _ => v = .bl true) fun _ _ _ => False) :
    codeAny (model P w) callerA (.call (.ref fa) ⟨[.ref a], []⟩) (fun r s' => r = .ok (.ret (.bool true)) ∧ OldK s.heap s'.heap ∧ s'.os = s.os ∧ AllBare s'.gens) s := by
  have M := modLeft (mg := mg) plain inK out n1 n2 bb lim
  refine codeAny_mono ((F _ M.kin M.glob).go callerA rfl [] s H ⟨[.ref a], []⟩ [.ref a] [.ref a] _ _ room ?_ (bind s (.ref a)) (.cons rfl .nil) prom) fun r s' h => endOf only ok h
  exact ⟨rfl, M, fun b o e => of_hidT e, Nat.le_of_eq (hidT_size _ _), trivial, fun b z => (nomatch (show b ∈ ([] : List Addr) from z)), ok, .of_eq gens⟩
theorem lawRuns (obj : s.heap.get? a = some { cls := .type "list", data := .seq vs.toArray }) (isInts : IntsAre vs ns) (len : ns.length ≤ sizeLine) (inK : K.In s.heap) (n1 : s.heap.Ns mainGlobals mg) (n2 : s.heap.Ns builtinsNs mb) (bb : ∀ x : Str, x ≠ "__name__" → mb x = bootBuiltins x)
    (lim : s.heap.NoLimit) (gens : s.gens = #[]) (room : Room k callerA) (F : ∀ base : Heap, K.In base → base.Ns mainGlobals mg → FnG P w K mg base CX0 k fa fd [x] sp) (bind : ∀ (s : Shared) (u : Value), BindsTo s fd ⟨[u], []⟩ [(x, u)])
    (prom : ∀ H : Hp, Only H → SqL K H a (ns.map V.int) → sp [.ref a] H (fun v _ => v = .bl true) fun _ _ _ => False) :
    codeAny (model P w) callerA (.call (.ref fa) ⟨[.ref a], []⟩) (fun r s' => r = .ok (.ret (.bool true)) ∧ OldK s.heap s'.heap ∧ s'.os = s.os ∧ AllBare s'.gens) s := by
  by_cases inMod : ∃ o, K.lookup a = some o
  · obtain ⟨o, lk⟩ := inMod
    have same := inK a o lk
    rw [obj] at same
    cases same
    have seen : SqL K (fun _ => none) a (ns.map V.int) := .inr ⟨_, vs.toArray, _, lk, rfl, rfl, rfl, by rw [List.size_toArray, isInts.length]; exact len, by simpa using vals_ints isInts⟩
    exact lawRun (fun _ => .inl rfl) seen (fun _ _ z => (nomatch z)) (fun _ _ _ _ _ _ => rfl) (fun _ _ _ => rfl) inK n1 n2 bb lim gens room F bind (prom _ (fun _ => .inl rfl) seen)
  · have notK : ∀ o, K.lookup a ≠ some o := fun o z => inMod ⟨o, z⟩
    let H : Hp := upd (fun _ => none) a (.frz { cls := .type "list", data := .seq vs.toArray } (.lst (ns.map V.int)))
    have only : Only H := fun b => by
      by_cases z : b = a
      · exact .inr ⟨_, _, by rw [z]; exact upd_same⟩
      · exact .inl (upd_ne z)
    have seen : SqL K H a (ns.map V.int) := .inl (.inr ⟨_, upd_same⟩)
    refine lawRun only seen (fun b u z => ?_) (fun c o es ep e d => ?_) (fun b o e => upd_ne fun z => ?_) inK n1 n2 bb lim gens room F bind (prom H only seen)
    · by_cases y : b = a
      · subst y
        rw [show H b = _ from upd_same] at z
        cases z
        exact ⟨obj, by rw [List.length_map]; exact len, vs, _, vals_ints isInts, obj⟩
      · rw [show H b = _ from upd_ne y] at z
        cases z
    · refine upd_ne fun z => ?_
      rw [z, obj] at e
      cases e
      cases d
    · rw [z] at e
      exact notK o e
end
theorem walkG {l : PySem.W.OpenLaw} {n k : Nat} {q : Program} {loose : List Str} {XP : (Str → Option Value) → Heap → Prop} {YP : World → Heap → Prop} {d : DefRec} {x : Str} (hn : l.most = some n) (hn2 : n ≤ sizeLine) (hdf : d.params.defaults = []) (room : Room k callerA)
    (F : ∀ (w : World) (mg : Str → Option Value) (fa : Addr) (h : Heap), YP w h → h.Ns mainGlobals mg → mg d.name = some (.ref fa) → ∃ (K : PySem.W.Frag) (fd : FuncData) (sp : Sp), K.In h ∧ (∀ (s : Shared) (u : Value), BindsTo s fd ⟨[u], []⟩ [(x, u)]) ∧
      (∀ (H : Hp) (a : Addr) (ns : List Int), ns.length ≤ n → Only H → SqL K H a (ns.map V.int) → sp [.ref a] H (fun v _ => v = .bl true) fun _ _ _ => False) ∧ ∀ base : Heap, K.In base → base.Ns mainGlobals mg → FnG l.prog w K mg base CX0 k fa fd [x] sp) :
    PySem.W.WalkO q loose XP YP l.row.toRowW d [] (fun f vs => PySem.call f vs) :=
  Att.attach_call hn hdf fun w s0 s mg mb fa o pm cd doc a vs ns G Y _ _ _ hmg obj isInts len gens => by
    obtain ⟨K, fd, sp, inK, bind, prom, ok⟩ := F w mg fa _ Y G.T.g hmg
    exact lawRuns obj isInts (Nat.le_trans len hn2) inK G.T.g G.T.b G.T.builtins G.T.nolimit gens room ok bind fun H a1 a2 => prom H a ns len a1 a2
end FwG
namespace Fw
open PySem PySem.Spec PyProof.Rows L2 Evl
section
variable {K : PySem.W.Frag} {p : Option Addr} {env : List Slot} {Φ : PyData → Prop} {ta tb te tl : TE} {tt tu : TT}
/-! ### lists that are made or changed beside the known heap -/
theorem Go.mut {Hk H Hk' H' : Hp} {D : Addr} {o : HO} (g : Go p Hk H Hk' H') (h : H D = none) (hp : p ≠ some D) (hk : Hk' D = none) : Go p Hk H Hk' (upd H' D o) := by
  refine ⟨g.kk, Ex.mut g.kr hk, fun a u n e => ?_, g.nk, ?_⟩
  · rw [upd_ne (ne_of_none e h)]
    exact g.rr a u n e
  · have po := g.po
    cases p with
    | none => exact True.intro
    | some q =>
      obtain ⟨a1, a, b, a2, a3⟩ := po
      refine ⟨a1, a, b, ?_, a3⟩
      rw [upd_ne (fun z => hp (by rw [z]))]
      exact a2
theorem Go.pub {Hk H Hk' H' : Hp} {D : Addr} {o : HO} (g : Go p Hk H Hk' H') (h : H D = none) (hp : p ≠ some D) (hk : Hk' D = none) (hd : H' D = some o) : Go p Hk H (upd Hk' D o) H' := by
  refine ⟨g.kk.trans (Ex.new hk), fun a u e => ?_, g.rr, fun a h1 h2 => ?_, ?_⟩
  · by_cases z : a = D
    · subst z
      rw [upd_same] at e
      rw [hd]
      exact e
    · rw [upd_ne z] at e
      exact g.kr a u e
  · have z : a ≠ D := fun z => h1 (by rw [z]; exact h)
    rw [upd_ne z]
    exact g.nk a h1 h2
  · have po := g.po
    cases p with
    | none => exact True.intro
    | some q =>
      obtain ⟨a1, a, b, a2, a3⟩ := po
      refine ⟨?_, a, b, a2, a3⟩
      rw [upd_ne (fun z => hp (by rw [z]))]
      exact a1
theorem pot_ne {Hk H : Hp} {D : Addr} (po : PotOk Hk H p) (h : H D = none) : p ≠ some D := fun z => by
  subst z
  obtain ⟨_, _, _, h2, _⟩ := po
  rw [h] at h2
  cases h2
/-- an own list is read: within, it is known -/
theorem e_own {i : Nat} {ds : List PyData} (h : env[i]? = some (.own ds)) (q : WpE K p te (env.set i (.dat (.list ds))) fun d => flatD d = true ∧ Φ d) : WpE K p te env Φ := fun H0 σ Hk H Q e po en k => by
  obtain ⟨ov, h1, l, vs, rfl, h0, hk, hp, hl, r⟩ := en.slot i _ h
  have x : Ex Hk (upd Hk l (.lst vs)) := Ex.new hk
  have po1 : PotOk (upd Hk l (.lst vs)) H p := by
    cases p with
    | none => exact True.intro
    | some q =>
      obtain ⟨a1, a, b, a2, a3⟩ := po
      refine ⟨?_, a, b, a2, a3⟩
      rw [upd_ne (fun z => hp (by rw [z]))]
      exact a1
  have e1 : Ex (upd Hk l (.lst vs)) H := fun a u z => by
    by_cases y : a = l
    · subst y
      rw [upd_same] at z
      rw [hl]
      exact z
    · rw [upd_ne y] at z
      exact e a u z
  refine q H0 σ _ H Q e1 po1 (en.publish h h1 hk hl r) fun v d Hk' H' g rd ⟨fd, f⟩ => ?_
  have hl' : Hk' l = some (.lst vs) := g.kk l _ upd_same
  refine k v d (del Hk' l) H' ⟨fun a u z => ?_, fun a u z => ?_, g.rr, fun a z1 z2 => ?_, ?_⟩ (dp_del hl' d fd rd) f
  · have y : a ≠ l := ne_of_none z hk
    rw [del_ne y]
    exact g.kk a u (x a u z)
  · by_cases y : a = l
    · rw [y, del_same] at z
      cases z
    · rw [del_ne y] at z
      exact g.kr a u z
  · by_cases y : a = l
    · rw [y]
      exact del_same
    · rw [del_ne y]
      refine g.nk a z1 ?_
      rw [upd_ne y]
      exact z2
  · have po' := g.po
    cases p with
    | none => exact True.intro
    | some q =>
      obtain ⟨a1, a, b, a2, a3⟩ := po'
      refine ⟨?_, a, b, a2, a3⟩
      rw [del_ne (fun z => hp (by rw [z]))]
      exact a1
theorem t_own {Φ : Bool → Prop} {i : Nat} {ds : List PyData} (h : env[i]? = some (.own ds)) (q : WpT K p tt (env.set i (.dat (.list ds))) Φ) : WpT K p tt env Φ := fun H0 σ Hk H Q e po en k => by
  obtain ⟨ov, h1, l, vs, rfl, h0, hk, hp, hl, r⟩ := en.slot i _ h
  have x : Ex Hk (upd Hk l (.lst vs)) := Ex.new hk
  have po1 : PotOk (upd Hk l (.lst vs)) H p := by
    cases p with
    | none => exact True.intro
    | some q =>
      obtain ⟨a1, a, b, a2, a3⟩ := po
      refine ⟨?_, a, b, a2, a3⟩
      rw [upd_ne (fun z => hp (by rw [z]))]
      exact a1
  have e1 : Ex (upd Hk l (.lst vs)) H := fun a u z => by
    by_cases y : a = l
    · subst y
      rw [upd_same] at z
      rw [hl]
      exact z
    · rw [upd_ne y] at z
      exact e a u z
  refine q H0 σ _ H Q e1 po1 (en.publish h h1 hk hl r) fun b Hk' H' g f => ?_
  refine k b (del Hk' l) H' ⟨fun a u z => ?_, fun a u z => ?_, g.rr, fun a z1 z2 => ?_, ?_⟩ f
  · have y : a ≠ l := ne_of_none z hk
    rw [del_ne y]
    exact g.kk a u (x a u z)
  · by_cases y : a = l
    · rw [y, del_same] at z
      cases z
    · rw [del_ne y] at z
      exact g.kr a u z
  · by_cases y : a = l
    · rw [y]
      exact del_same
    · rw [del_ne y]
      refine g.nk a z1 ?_
      rw [upd_ne y]
      exact z2
  · have po' := g.po
    cases p with
    | none => exact True.intro
    | some q =>
      obtain ⟨a1, a, b, a2, a3⟩ := po'
      refine ⟨?_, a, b, a2, a3⟩
      rw [del_ne (fun z => hp (by rw [z]))]
      exact a1
/-! ### what is walked -/
variable {Ψ : List PyData → Prop}
theorem i_list (h : WpE K p tl env fun d => ∃ xs, d = .list xs ∧ Ψ xs) : WpI K p (iList K tl) env Ψ := fun H0 σ Hk H R e po en k =>
  h H0 σ Hk H _ e po en fun v d Hk1 H1 g rd ⟨xs, ed, f⟩ => by
    subst ed
    obtain ⟨a, vs, rfl, hS, r⟩ := dp_lst rd
    refine ⟨a, rfl, ⟨vs, ex_l g.kr hS⟩, k _ xs Hk1 H1 g (fun Hk2 H2 x1 x2 po2 => ?_) f⟩
    have hS2 : SqL K H2 a vs := ex_l (x1.trans x2) hS
    have hl := dpAll_len r
    refine ⟨fun i hi => ⟨vs, vs[i]'(by omega), hS2, by simp [hl, hi]⟩, ⟨vs, hS2, by omega⟩, fun i x H' hi y => ?_⟩
    obtain ⟨rfl, y⟩ := y
    obtain ⟨v, hv, rv⟩ := dpAll_get r (List.getElem?_eq_getElem hi)
    have ex : x = v := Option.some.inj ((y vs hS2).symm.trans hv)
    subst ex
    exact ⟨xs[i], Hk2, List.getElem?_eq_getElem hi, dp_mono x1 _ rv, Go.refl x2 po2⟩
theorem i_tup (h : WpE K p tl env fun d => ∃ xs, d = .tuple xs ∧ Ψ xs) : WpI K p (iTup K tl) env Ψ := fun H0 σ Hk H R e po en k =>
  h H0 σ Hk H _ e po en fun v d Hk1 H1 g rd ⟨xs, ed, f⟩ => by
    subst ed
    obtain ⟨a, vs, rfl, hS, r⟩ := dp_tup rd
    refine ⟨a, rfl, ⟨vs, ex_t g.kr hS⟩, k _ xs Hk1 H1 g (fun Hk2 H2 x1 x2 po2 => ?_) f⟩
    have hS2 : SqT K H2 a vs := ex_t (x1.trans x2) hS
    have hl := dpAll_len r
    refine ⟨fun i hi => ⟨vs, vs[i]'(by omega), hS2, by simp [hl, hi]⟩, ⟨vs, hS2, by omega⟩, fun i x H' hi y => ?_⟩
    obtain ⟨rfl, y⟩ := y
    obtain ⟨v, hv, rv⟩ := dpAll_get r (List.getElem?_eq_getElem hi)
    have ex : x = v := Option.some.inj ((y vs hS2).symm.trans hv)
    subst ex
    exact ⟨xs[i], Hk2, List.getElem?_eq_getElem hi, dp_mono x1 _ rv, Go.refl x2 po2⟩
def rng (lo : Int) (n : Nat) : List PyData := (List.range n).map fun i => .int (lo + (i : Nat))
theorem rng_len (lo : Int) (n : Nat) : (rng lo n).length = n := by unfold rng; rw [List.length_map, List.length_range]
theorem rng_get {lo : Int} {n i : Nat} (h : i < n) : (rng lo n)[i]? = some (.int (lo + (i : Nat))) := by
  unfold rng
  rw [List.getElem?_map, List.getElem?_range h]
  rfl
theorem itok_rng {lo : Int} {n : Nat} {Hk : Hp} : ItOk K p (Itr lo n) Hk (rng lo n) := fun Hk2 H2 x1 x2 po2 => by
  refine ⟨fun i hi => by rw [rng_len] at hi; exact hi, by rw [rng_len]; exact Nat.le_refl _, fun i x H' hi y => ?_⟩
  obtain ⟨rfl, rfl⟩ := y
  rw [rng_len] at hi
  exact ⟨_, Hk2, rng_get hi, .int _, Go.refl x2 po2⟩
theorem i_rng1 {ta : TA} (h : WpA K p ta env fun ds => ∃ n : Int, ds = [.int n] ∧ -(2 ^ 62) ≤ n ∧ n < 2 ^ 62 ∧ Ψ (rng 0 n.toNat)) : WpI K p (iRng1 ta) env Ψ := fun H0 σ Hk H R e po en k =>
  h H0 σ Hk H _ e po en fun vs ds Hk1 H1 g rd ⟨n, ed, b1, b2, f⟩ => by
    subst ed
    cases rd with
    | cons r1 r2 =>
      cases r2
      rw [dp_int r1]
      exact ⟨n, rfl, b1, b2, k _ _ Hk1 H1 g itok_rng f⟩
theorem i_rng2 {ta : TA} (h : WpA K p ta env fun ds => ∃ lo n : Int, ds = [.int lo, .int n] ∧ (-(2 ^ 62) ≤ lo ∧ lo < 2 ^ 62 ∧ -(2 ^ 62) ≤ n ∧ n < 2 ^ 62) ∧ Ψ (rng lo (n - lo).toNat)) : WpI K p (iRng2 ta) env Ψ := fun H0 σ Hk H R e po en k =>
  h H0 σ Hk H _ e po en fun vs ds Hk1 H1 g rd ⟨lo, n, ed, b, f⟩ => by
    subst ed
    cases rd with
    | cons r1 r2 =>
      cases r2 with
      | cons r2 r3 =>
        cases r3
        rw [dp_int r1, dp_int r2]
        exact ⟨lo, n, rfl, b, k _ _ Hk1 H1 g itok_rng f⟩
def zipD (xs ys : List PyData) : List PyData := List.zipWith (fun x y => .tuple [x, y]) xs ys
theorem zipD_len (xs ys : List PyData) : (zipD xs ys).length = min xs.length ys.length := List.length_zipWith
theorem zipD_get {xs ys : List PyData} {i : Nat} {x y : PyData} (hx : xs[i]? = some x) (hy : ys[i]? = some y) : (zipD xs ys)[i]? = some (.tuple [x, y]) := by
  unfold zipD
  rw [List.getElem?_zipWith, hx, hy]
theorem dp_pair {Hk : Hp} {T : Addr} {x y : V} {d e : PyData} (hT : Hk T = none) (r1 : Dp K Hk x d) (r2 : Dp K Hk y e) : Dp K (upd Hk T (.tup [x, y])) (.ref T) (.tuple [d, e]) :=
  .tup (SqT.of upd_same) (.cons (dp_mono (Ex.new hT) _ r1) (.cons (dp_mono (Ex.new hT) _ r2) .nil))
theorem i_zipT {ta : TA} (h : WpA K p ta env fun ds => ∃ xs ys, ds = [.tuple xs, .tuple ys] ∧ Ψ (zipD xs ys)) : WpI K p (RZ.iZipA K ta) env Ψ := fun H0 σ Hk H R e po en k =>
  h H0 σ Hk H _ e po en fun vs ds Hk1 H1 g rd ⟨xs, ys, ed, f⟩ => by
    subst ed
    cases rd with
    | cons r1 r2 =>
      cases r2 with
      | cons r2 r3 =>
        cases r3
        obtain ⟨a, us, rfl, hS, r⟩ := dp_tup r1
        obtain ⟨b, ws, rfl, hT, u⟩ := dp_tup r2
        refine ⟨a, b, us, ws, rfl, .inr ⟨ex_t g.kr hS, ex_t g.kr hT, k _ _ Hk1 H1 g (fun Hk2 H2 x1 x2 po2 => ?_) f⟩⟩
        have hS2 : SqT K H2 a us := ex_t (x1.trans x2) hS
        have hT2 : SqT K H2 b ws := ex_t (x1.trans x2) hT
        have l1 := dpAll_len r
        have l2 := dpAll_len u
        rw [zipD_len]
        refine ⟨fun i hi => ⟨us, ws, us[i]'(by omega), ws[i]'(by omega), hS2, hT2, by simp, by simp⟩, ⟨us, ws, hS2, hT2, by omega⟩, fun i x H' hi y => ?_⟩
        obtain ⟨T, x', y', rfl, nT, rfl, f1, f2⟩ := y
        have hi1 : i < xs.length := by omega
        have hi2 : i < ys.length := by omega
        obtain ⟨v, hv, rv⟩ := dpAll_get r (List.getElem?_eq_getElem hi1)
        obtain ⟨w, hw, rw'⟩ := dpAll_get u (List.getElem?_eq_getElem hi2)
        have e1 : x' = v := Option.some.inj ((f1 us hS2).symm.trans hv)
        have e2 : y' = w := Option.some.inj ((f2 ws hT2).symm.trans hw)
        subst e1 e2
        exact ⟨_, _, zipD_get (List.getElem?_eq_getElem hi1) (List.getElem?_eq_getElem hi2), dp_pair (fresh_back x2 nT) (dp_mono x1 _ rv) (dp_mono x1 _ rw'), Go.new x2 po2 nT⟩
theorem i_zipL {ta : TA} (h : WpA K p ta env fun ds => ∃ xs ys, ds = [.list xs, .list ys] ∧ Ψ (zipD xs ys)) : WpI K p (RZ.iZipA K ta) env Ψ := fun H0 σ Hk H R e po en k =>
  h H0 σ Hk H _ e po en fun vs ds Hk1 H1 g rd ⟨xs, ys, ed, f⟩ => by
    subst ed
    cases rd with
    | cons r1 r2 =>
      cases r2 with
      | cons r2 r3 =>
        cases r3
        obtain ⟨a, us, rfl, hS, r⟩ := dp_lst r1
        obtain ⟨b, ws, rfl, hT, u⟩ := dp_lst r2
        refine ⟨a, b, us, ws, rfl, .inl ⟨ex_l g.kr hS, ex_l g.kr hT, k _ _ Hk1 H1 g (fun Hk2 H2 x1 x2 po2 => ?_) f⟩⟩
        have hS2 : SqL K H2 a us := ex_l (x1.trans x2) hS
        have hT2 : SqL K H2 b ws := ex_l (x1.trans x2) hT
        have l1 := dpAll_len r
        have l2 := dpAll_len u
        rw [zipD_len]
        refine ⟨fun i hi => ⟨us, ws, us[i]'(by omega), ws[i]'(by omega), hS2, hT2, by simp, by simp⟩, ⟨us, ws, hS2, hT2, by omega⟩, fun i x H' hi y => ?_⟩
        obtain ⟨T, x', y', rfl, nT, rfl, f1, f2⟩ := y
        have hi1 : i < xs.length := by omega
        have hi2 : i < ys.length := by omega
        obtain ⟨v, hv, rv⟩ := dpAll_get r (List.getElem?_eq_getElem hi1)
        obtain ⟨w, hw, rw'⟩ := dpAll_get u (List.getElem?_eq_getElem hi2)
        have e1 : x' = v := Option.some.inj ((f1 us hS2).symm.trans hv)
        have e2 : y' = w := Option.some.inj ((f2 ws hT2).symm.trans hw)
        subst e1 e2
        exact ⟨_, _, zipD_get (List.getElem?_eq_getElem hi1) (List.getElem?_eq_getElem hi2), dp_pair (fresh_back x2 nT) (dp_mono x1 _ rv) (dp_mono x1 _ rw'), Go.new x2 po2 nT⟩
def enumD (xs : List PyData) : List PyData := xs.mapIdx fun i x => .tuple [.int (i : Nat), x]
theorem enumD_len (xs : List PyData) : (enumD xs).length = xs.length := List.length_mapIdx
theorem enumD_get {xs : List PyData} {i : Nat} {x : PyData} (hx : xs[i]? = some x) : (enumD xs)[i]? = some (.tuple [.int (i : Nat), x]) := by
  unfold enumD
  rw [List.getElem?_mapIdx, hx]
  rfl
theorem i_enumT {ta : TA} (h : WpA K p ta env fun ds => ∃ xs, ds = [.tuple xs] ∧ Ψ (enumD xs)) : WpI K p (FwE.iEnumT K ta) env Ψ := fun H0 σ Hk H R e po en k =>
  h H0 σ Hk H _ e po en fun vs ds Hk1 H1 g rd ⟨xs, ed, f⟩ => by
    subst ed
    cases rd with
    | cons r1 r2 =>
      cases r2
      obtain ⟨a, us, rfl, hS, r⟩ := dp_tup r1
      refine ⟨a, us, rfl, ex_t g.kr hS, k _ _ Hk1 H1 g (fun Hk2 H2 x1 x2 po2 => ?_) f⟩
      have hS2 : SqT K H2 a us := ex_t (x1.trans x2) hS
      have l1 := dpAll_len r
      rw [enumD_len]
      refine ⟨fun i hi => ⟨us, us[i]'(by omega), hS2, by simp⟩, ⟨us, hS2, by omega⟩, fun i x H' hi y => ?_⟩
      obtain ⟨T, x', rfl, nT, rfl, f1⟩ := y
      obtain ⟨v, hv, rv⟩ := dpAll_get r (List.getElem?_eq_getElem hi)
      have e1 : x' = v := Option.some.inj ((f1 us hS2).symm.trans hv)
      subst e1
      exact ⟨_, _, enumD_get (List.getElem?_eq_getElem hi), dp_pair (fresh_back x2 nT) (.int _) (dp_mono x1 _ rv), Go.new x2 po2 nT⟩
theorem i_enumL {ta : TA} (h : WpA K p ta env fun ds => ∃ xs, ds = [.list xs] ∧ Ψ (enumD xs)) : WpI K p (iEnum K ta) env Ψ := fun H0 σ Hk H R e po en k =>
  h H0 σ Hk H _ e po en fun vs ds Hk1 H1 g rd ⟨xs, ed, f⟩ => by
    subst ed
    cases rd with
    | cons r1 r2 =>
      cases r2
      obtain ⟨a, us, rfl, hS, r⟩ := dp_lst r1
      refine ⟨a, us, rfl, ex_l g.kr hS, k _ _ Hk1 H1 g (fun Hk2 H2 x1 x2 po2 => ?_) f⟩
      have hS2 : SqL K H2 a us := ex_l (x1.trans x2) hS
      have l1 := dpAll_len r
      rw [enumD_len]
      refine ⟨fun i hi => ⟨us, us[i]'(by omega), hS2, by simp⟩, ⟨us, hS2, by omega⟩, fun i x H' hi y => ?_⟩
      obtain ⟨T, x', rfl, nT, rfl, f1⟩ := y
      obtain ⟨v, hv, rv⟩ := dpAll_get r (List.getElem?_eq_getElem hi)
      have e1 : x' = v := Option.some.inj ((f1 us hS2).symm.trans hv)
      subst e1
      exact ⟨_, _, enumD_get (List.getElem?_eq_getElem hi), dp_pair (fresh_back x2 nT) (.int _) (dp_mono x1 _ rv), Go.new x2 po2 nT⟩
/-! ### targets -/
theorem g_name {i : Nat} {d : PyData} {Ψ : List Slot → Prop} (q : Ψ (env.set i (.dat d))) : WpG K p [i] (gName i) d env Ψ := fun H0 σ Hk H v Q e po en r k =>
  k _ _ (en.set r) ⟨List.length_set, fun j hj => List.getElem?_set_ne (fun z => hj (by rw [z]; exact List.mem_singleton.mpr rfl))⟩ q
theorem g_nil {Ψ : List Slot → Prop} (q : Ψ env) : WpGs K p [] gNil [] env Ψ := fun H0 σ Hk H vs Q e po en r k => by
  cases r
  exact ⟨rfl, k σ env en ⟨rfl, fun _ _ => rfl⟩ q⟩
theorem g_cons {js ks : List Nat} {t : TG} {u : TGs} {d : PyData} {ds : List PyData} {Ψ : List Slot → Prop} (q : WpG K p js t d env fun env' => WpGs K p ks u ds env' Ψ) : WpGs K p (js ++ ks) (gCons t u) (d :: ds) env Ψ := fun H0 σ Hk H vs Q e po en r k => by
  cases r with
  | cons r1 r2 =>
    refine ⟨_, _, rfl, q H0 σ Hk H _ _ e po en r1 fun σ1 env1 en1 s1 h1 => ?_⟩
    exact h1 H0 σ1 Hk H _ _ e po en1 r2 fun σ2 env2 en2 s2 h2 => k σ2 env2 en2 ⟨s2.1.trans s1.1, fun j hj => (s2.2 j (fun z => hj (List.mem_append_right _ z))).trans (s1.2 j (fun z => hj (List.mem_append_left _ z)))⟩ h2
theorem g_tup {js : List Nat} {n : Nat} {t : TGs} {d : PyData} {Ψ : List Slot → Prop} (ds : List PyData) (hd : d = .tuple ds) (hn : ds.length = n) (q : WpGs K p js t ds env Ψ) : WpG K p js (gTup K n t) d env Ψ := fun H0 σ Hk H v Q e po en r k => by
  subst hd
  obtain ⟨a, us, rfl, hS, r⟩ := dp_tup r
  exact ⟨a, us, rfl, ex_t e hS, (dpAll_len r).trans hn, q H0 σ Hk H us Q e po en r k⟩
/-! ### comprehensions -/
theorem wipe_get (σ : List (Option V)) (i : Nat) : ∀ vs : List Nat, (L2.wipe σ vs)[i]? = if i ∈ vs ∧ i < σ.length then some none else σ[i]?
  | [] => by simp [L2.wipe]
  | v :: vs => by
    show ((L2.wipe σ vs).set v none)[i]? = _
    rw [List.getElem?_set, wipe_length, wipe_get σ i vs]
    by_cases h : v = i
    · subst h
      by_cases hl : v < σ.length
      · simp [hl]
      · simp [hl]
    · have : i ≠ v := fun z => h z.symm
      simp [h, this]
theorem wipe_eq {σ σ2 : List (Option V)} {js vs : List Nat} (hl : σ2.length = σ.length) (h : ∀ j, j ∉ js → σ2[j]? = (L2.wipe σ vs)[j]?) (hs : ∀ j ∈ js, j ∈ vs) : L2.wipe σ2 vs = L2.wipe σ vs := by
  refine List.ext_getElem? fun i => ?_
  rw [wipe_get, wipe_get, hl]
  by_cases hi : i ∈ vs
  · by_cases hlt : i < σ.length
    · simp [hi, hlt]
    · simp only [hi, hlt, and_false, if_false]
      rw [List.getElem?_eq_none (by omega), List.getElem?_eq_none (by omega)]
  · have := h i (fun z => hi (hs i z))
    rw [wipe_get] at this
    simpa [hi] using this
/-- te makes a new list that nobody knows -/
def WpF (K : PySem.W.Frag) (p : Option Addr) (te : TE) (env : List Slot) (Φ : List PyData → Prop) : Prop := ∀ (H0 : Hp) (σ : List (Option V)) (Hk H : Hp) (Q : VK), Ex Hk H → PotOk Hk H p → En K p H0 Hk H σ env →
  (∀ l vs ds Hk' H', Go p Hk H Hk' H' → H l = none → Hk' l = none → H' l = some (.lst vs) → DpAll K Hk' vs ds → Φ ds → Q (.ref l) H') → te σ H Q
theorem e_new (h : WpF K p te env fun ds => Φ (.list ds)) : WpE K p te env Φ := fun H0 σ Hk H Q e po en k =>
  h H0 σ Hk H Q e po en fun l vs ds Hk' H' g h0 hk hl r f => k _ _ _ _ (g.pub h0 (pot_ne po h0) hk hl) (.lst (SqL.of upd_same) (dpAll_mono (Ex.new hk) ds r)) f
theorem f_lst {ta : TA} {Φ : List PyData → Prop} (h : WpA K p ta env fun ds => ds.length ≤ 100000 ∧ Φ ds) : WpF K p (tLst ta) env Φ := fun H0 σ Hk H Q e po en k =>
  h H0 σ Hk H _ e po en fun vs ds Hk1 H1 g1 r ⟨hz, f⟩ => ⟨sz_of (by rw [dpAll_len r]; exact hz), fun q hq => by
    have h0 : H q = none := by
      cases z : H q with
      | none => rfl
      | some o => exact absurd hq (g1.live (by rw [z]; exact nofun))
    exact k q vs ds Hk1 _ (g1.mut h0 (pot_ne po h0) (fresh_back g1.kr hq)) h0 (fresh_back g1.kr hq) upd_same r f⟩
theorem f_cat {ta : TE} {Φ : List PyData → Prop} (h : WpF K p ta env fun xs => WpF K p tb env fun ys => xs.length + ys.length ≤ 100000 ∧ Φ (xs ++ ys)) : WpF K p (tOp rCat ta tb) env Φ := fun H0 σ Hk H Q e po en k =>
  h H0 σ Hk H _ e po en fun l vs xs Hk1 H1 g1 l0 lk lh lr h1 => h1 H0 σ Hk1 H1 _ g1.kr g1.po (en.go g1) fun m ws ys Hk2 H2 g2 m0 mk mh mr ⟨hz, f⟩ => by
    have hl2 : H2 l = some (.lst vs) := g2.rr l _ (pot_ne po l0) lh
    refine ⟨l, m, vs, ws, rfl, rfl, hl2, mh, sz_of (by rw [dpAll_len lr, dpAll_len mr]; exact hz), fun q hq => ?_⟩
    have gg := g1.trans g2
    have h0 : H q = none := by
      cases z : H q with
      | none => rfl
      | some o => exact absurd hq (gg.live (by rw [z]; exact nofun))
    exact k q _ (xs ++ ys) Hk2 _ (gg.mut h0 (pot_ne po h0) (fresh_back gg.kr hq)) h0 (fresh_back gg.kr hq) upd_same (dpAll_app (dpAll_mono g2.kk xs lr) mr) f
theorem f_rep {ta : TE} {Φ : List PyData → Prop} (h : WpF K p ta env fun xs => WpE K p tb env fun y => ∃ k : Int, y = .int k ∧ 0 ≤ k ∧ k ≤ 1000 ∧ xs.length ≤ 100 ∧ Φ (List.replicate k.toNat xs).flatten) : WpF K p (tOp rRep ta tb) env Φ := fun H0 σ Hk H Q e po en k =>
  h H0 σ Hk H _ e po en fun l vs xs Hk1 H1 g1 l0 lk lh lr h1 => h1 H0 σ Hk1 H1 _ g1.kr g1.po (en.go g1) fun v y Hk2 H2 g2 ry ⟨n, ey, n0, n1, hz, f⟩ => by
    subst ey
    rw [dp_int ry]
    have hl2 : H2 l = some (.lst vs) := g2.rr l _ (pot_ne po l0) lh
    have hlen := dpAll_len lr
    refine ⟨l, n, vs, rfl, rfl, hl2, by omega, by omega, ?_, fun q hq => ?_⟩
    · have : vs.length * n.toNat ≤ 100 * 1000 := Nat.mul_le_mul (by omega) (by omega)
      exact sz_of (by omega)
    have gg := g1.trans g2
    have h0 : H q = none := by
      cases z : H q with
      | none => rfl
      | some o => exact absurd hq (gg.live (by rw [z]; exact nofun))
    exact k q _ _ Hk2 _ (gg.mut h0 (pot_ne po h0) (fresh_back gg.kr hq)) h0 (fresh_back gg.kr hq) upd_same (dpAll_rep (dpAll_mono g2.kk xs lr) _) f
/-- an own list is read on the way to a new one -/
theorem f_own {i : Nat} {ds : List PyData} {Φ : List PyData → Prop} (h : env[i]? = some (.own ds)) (q : WpF K p te (env.set i (.dat (.list ds))) fun es => flatAllD es = true ∧ Φ es) : WpF K p te env Φ := fun H0 σ Hk H Q e po en k => by
  obtain ⟨ov, h1, l, vs, rfl, h0, hk, hp, hl, r⟩ := en.slot i _ h
  have x : Ex Hk (upd Hk l (.lst vs)) := Ex.new hk
  have po1 : PotOk (upd Hk l (.lst vs)) H p := by
    cases p with
    | none => exact True.intro
    | some q =>
      obtain ⟨a1, a, b, a2, a3⟩ := po
      refine ⟨?_, a, b, a2, a3⟩
      rw [upd_ne (fun z => hp (by rw [z]))]
      exact a1
  have e1 : Ex (upd Hk l (.lst vs)) H := fun a u z => by
    by_cases y : a = l
    · subst y
      rw [upd_same] at z
      rw [hl]
      exact z
    · rw [upd_ne y] at z
      exact e a u z
  refine q H0 σ _ H Q e1 po1 (en.publish h h1 hk hl r) fun m ws es Hk' H' g m0 mk mh mr ⟨fd, f⟩ => ?_
  have hl' : Hk' l = some (.lst vs) := g.kk l _ upd_same
  have ml : m ≠ l := fun z => by
    rw [z, hl] at m0
    cases m0
  refine k m ws es (del Hk' l) H' ⟨fun a u z => ?_, fun a u z => ?_, g.rr, fun a z1 z2 => ?_, ?_⟩ m0 (by rw [del_ne ml]; exact mk) mh (dpAll_del hl' es fd mr) f
  · have y : a ≠ l := ne_of_none z hk
    rw [del_ne y]
    exact g.kk a u (x a u z)
  · by_cases y : a = l
    · rw [y, del_same] at z
      cases z
    · rw [del_ne y] at z
      exact g.kr a u z
  · by_cases y : a = l
    · rw [y]
      exact del_same
    · rw [del_ne y]
      refine g.nk a z1 ?_
      rw [upd_ne y]
      exact z2
  · have po' := g.po
    cases p with
    | none => exact True.intro
    | some q =>
      obtain ⟨a1, a, b, a2, a3⟩ := po'
      refine ⟨?_, a, b, a2, a3⟩
      rw [del_ne (fun z => hp (by rw [z]))]
      exact a1
theorem f_lc {wi : TI} {g : TG} {vs js : List Nat} {Φ : List PyData → Prop} (hs : ∀ j ∈ js, j ∈ vs) (h : WpI K p wi env fun xs => xs.length ≤ 100000 ∧ ∃ Wd : Nat → List PyData → Prop, Wd 0 [] ∧
    (∀ (i : Nat) (x : PyData) (acc : List PyData), xs[i]? = some x → Wd i acc → acc.length ≤ i → WpG K p js g x (wipeE env vs) fun env2 => WpT K p tt env2 fun b => if b = true then WpE K p te env2 (fun y => Wd (i + 1) (acc ++ [y])) else Wd (i + 1) acc) ∧
    ∀ acc, acc.length ≤ xs.length → Wd xs.length acc → Φ acc) : WpF K p (tLc wi g tt te vs) env Φ := fun H0 σ Hk H Q e po en k => by
  refine h H0 σ Hk H _ e po en fun J xs Hk1 H1 g1 it ⟨hz, Wd, i0, step, last⟩ D hD => ?_
  have pD : p ≠ some D := pot_ne g1.po hD
  refine ⟨fun i m H' => m = xs.length - i ∧ i ≤ xs.length ∧ ∃ Hk' ws acc, Go p Hk1 H1 Hk' H' ∧ Hk' D = none ∧ H' D = some (.lst ws) ∧ DpAll K Hk' ws acc ∧ acc.length ≤ i ∧ Wd i acc, ⟨xs.length, by omega, by omega, Hk1, [], [], (Go.refl g1.kr g1.po).mut hD pD (fresh_back g1.kr hD), fresh_back g1.kr hD, upd_same, .nil, Nat.le_refl _, i0⟩, ?_⟩
  rintro i m H' ⟨rfl, hi, Hk', ws, acc, go, kD, hw, r, hlen, inv⟩
  obtain ⟨o1, o2, o3⟩ := it Hk' H' go.kk go.kr go.po
  by_cases hlt : i < xs.length
  · refine .inr ⟨o1 i hlt, fun H'' => i + 1 ≤ xs.length ∧ ∃ Hk' ws acc, Go p Hk1 H1 Hk' H'' ∧ Hk' D = none ∧ H'' D = some (.lst ws) ∧ DpAll K Hk' ws acc ∧ acc.length ≤ i + 1 ∧ Wd (i + 1) acc, fun H'' q => ⟨xs.length - (i + 1), by omega, rfl, q⟩, fun x H'' y => ?_⟩
    obtain ⟨d, Hk2, hd, rd, g2⟩ := o3 i x H'' hlt y
    have en2 : En K p H0 Hk2 H'' (L2.wipe σ vs) (wipeE env vs) := (((en.go g1).go go).go g2).wipe vs
    refine step i d acc hd inv hlen H0 _ Hk2 H'' x _ g2.kr g2.po en2 rd fun σ2 env2 en3 same f3 => ⟨wipe_eq (by rw [same.1, wipe_length]) same.2 hs, ?_⟩
    refine f3 H0 σ2 Hk2 H'' _ g2.kr g2.po en3 fun b Hk4 H4 g4 f4 => ?_
    have gg := (go.trans g2).trans g4
    have k4 : Hk4 D = none := g4.nk D (g2.live (by rw [hw]; exact nofun)) (g2.nk D (by rw [hw]; exact nofun) kD)
    have h4 : H4 D = some (.lst ws) := g4.rr D _ pD (g2.rr D _ pD hw)
    have r4 := dpAll_mono g4.kk acc (dpAll_mono g2.kk acc r)
    cases b with
    | false => exact ⟨by omega, Hk4, ws, acc, gg, k4, h4, r4, by omega, f4⟩
    | true =>
      refine (show WpE K p te env2 _ from f4) H0 σ2 Hk4 H4 _ g4.kr g4.po (en3.go g4) fun v d2 Hk5 H5 g5 r5 f5 => ?_
      have k5 : Hk5 D = none := g5.nk D (by rw [h4]; exact nofun) k4
      refine ⟨ws, g5.rr D _ pD h4, sz_lt (by rw [dpAll_len r]; omega), by omega, Hk5, ws ++ [v], acc ++ [d2], (gg.trans g5).mut hD pD k5, k5, upd_same, dpAll_app (dpAll_mono g5.kk acc r4) (.cons r5 .nil), by rw [List.length_append]; simp; omega, f5⟩
  · have hi2 : i = xs.length := by omega
    subst hi2
    have h0 : H D = none := by
      cases z : H D with
      | none => rfl
      | some o => exact absurd hD (g1.live (by rw [z]; exact nofun))
    exact .inl ⟨o2, k D ws acc Hk' _ (g1.trans go) h0 kD hw r (last acc hlen inv)⟩
/-- each item gives one -/
theorem e_map {wi : TI} {g : TG} {vs js : List Nat} (hs : ∀ j ∈ js, j ∈ vs) (h : WpI K p wi env fun xs => xs.length ≤ 100000 ∧ ∃ f : PyData → PyData, (∀ (i : Nat) (x : PyData), xs[i]? = some x → WpG K p js g x (wipeE env vs) fun env2 => WpE K p te env2 (fun y => y = f x)) ∧ Φ (.list (xs.map f))) : WpE K p (tLc wi g tYes te vs) env Φ :=
  e_new (f_lc hs fun H0 σ Hk H R e po en k => h H0 σ Hk H R e po en fun J xs Hk' H' g it ⟨hz, f, step, last⟩ => k J xs Hk' H' g it ⟨hz, fun i acc => acc = (xs.take i).map f, rfl, fun i x acc hx inv _ => fun H0 σ Hk H v Q e po en r k =>
    step i x hx H0 σ Hk H v Q e po en r fun σ' env' en' same f' => k σ' env' en' same (t_yes (show WpE K p _ env' _ from f'.mono fun y hy => by
      rw [inv, hy]
      show (xs.take i).map f ++ [f x] = (xs.take (i + 1)).map f
      rw [List.take_add_one, hx, List.map_append]
      rfl)), fun acc _ inv => by
      rw [inv, List.take_length]
      exact last⟩)
/-- each item gives one of which something is known -/
theorem e_rel {wi : TI} {g : TG} {vs js : List Nat} (hs : ∀ j ∈ js, j ∈ vs) (h : WpI K p wi env fun xs => xs.length ≤ 100000 ∧ ∃ R : PyData → PyData → Prop, (∀ (i : Nat) (x : PyData), xs[i]? = some x → WpG K p js g x (wipeE env vs) fun env2 => WpE K p te env2 (fun y => R x y)) ∧ ∀ ys : List PyData, ys.length = xs.length → (∀ (i : Nat) (x y : PyData), xs[i]? = some x → ys[i]? = some y → R x y) → Φ (.list ys)) : WpE K p (tLc wi g tYes te vs) env Φ :=
  e_new (f_lc hs fun H0 σ Hk H R e po en k => h H0 σ Hk H R e po en fun J xs Hk' H' g it ⟨hz, f, step, last⟩ => k J xs Hk' H' g it ⟨hz, fun i acc => acc.length = i ∧ ∀ (j : Nat) (x y : PyData), xs[j]? = some x → acc[j]? = some y → f x y, ⟨rfl, fun j x y _ h => by simp at h⟩, fun i x acc hx inv _ => fun H0 σ Hk H v Q e po en r k =>
    step i x hx H0 σ Hk H v Q e po en r fun σ' env' en' same f' => k σ' env' en' same (t_yes (show WpE K p _ env' _ from f'.mono fun y hy => ⟨by rw [List.length_append, inv.1]; rfl, fun j x' y' hx' hy' => by
      by_cases hj : j < acc.length
      · rw [List.getElem?_append_left hj] at hy'
        exact inv.2 j x' y' hx' hy'
      · rw [List.getElem?_append_right (by omega)] at hy'
        have hj2 : j - acc.length = 0 := by
          have := (List.getElem?_eq_some_iff.mp hy').1
          simp at this
          omega
        rw [hj2] at hy'
        have e1 : j = i := by have := inv.1; omega
        subst e1
        rw [hx] at hx'
        cases hx'
        cases hy'
        exact hy⟩)), fun acc _ inv => last acc inv.1 inv.2⟩)
end
end Fw
namespace FwE
open PySem PySem.Spec PyProof.Rows L2
/-! a tuple times 1 is the tuple itself -/
theorem once (l : Addr) (items : Array Value) (n : Nat) (dd : Option Addr) (sl : Array (Option Value)) (u : Tok) :
    Meets (Builtin.«tuple.__mul__» ⟨[.ref l, .int 1 u], []⟩) (fun _ R s => s.heap.get? l = some { cls := .type "tuple", dict := dd, data := .seq items n, slots := sl } ∧ R (.ok (.ret (.ref l))) s) :=
  .of_wp fun prog w A R s h => by
    obtain ⟨hp, g, d, tk, os⟩ := s
    obtain ⟨hl, h⟩ := h
    have f1 := AutoSeq1.idx_int
    have c1 : (items.isEmpty || (1 : Int) == 1) = true := by simp
    wp_walk using AutoSeq1.wpAny_loadPart' hl
    repeat (first
      | (refine wpAny_ite_false (by decide) ?_; wp_walk using AutoSeq1.wpAny_loadPart' hl)
      | (refine wpAny_ite_true (by simp) ?_; wp_walk using AutoSeq1.wpAny_loadPart' hl)
      | (rw [if_pos c1]; wp_walk using AutoSeq1.wpAny_loadPart' hl))
    exact ⟨_, rfl, h⟩
def rTimes (K : PySem.W.Frag) : R2 := fun x y H Q => ∃ (l : Addr) (k : Int) (xs : List V), x = .ref l ∧ y = .int k ∧ SqT K H l xs ∧ xs ≠ [] ∧ 1 ≤ k ∧ k ≤ 1000 ∧ xs.length ≤ 1000 ∧ (k = 1 → Q x H) ∧ (k ≠ 1 → ∀ p, H p = none → Q (.ref p) (upd H p (.tup (List.replicate k.toNat xs).flatten)))
theorem op_times {X : Cx} : OpR X (binaryOp .Mult) (rTimes X.K) := fun pins s σ H x y v u Q I rx ry h => by
  obtain ⟨l, k, xs, rfl, rfl, hT, ne, k1, k2, hz, q1, q2⟩ := h
  by_cases one : k = 1
  · subst one
    cases rx
    obtain ⟨t, rfl⟩ := ry
    obtain ⟨its, r, ⟨⟨cls, dd, data, sl⟩, ho, hc, n, hd⟩, _⟩ := I.tuple hT
    simp only at hc hd
    subst hc hd
    have two := call_meets (prog := X.prog) (w := X.w) (A := X.A) (Q := EP X pins σ Q) (E := X.xe) F.slot_tuple_mul (show s.TypeIs (.ref l) "tuple" from ⟨_, ho, rfl⟩) F.entry_tuple_mul (F.args_tuple_mul_2 (.ref l) (.int 1 t)) (once l its.toArray n dd sl t) ⟨ho, ⟨.ref l, H, I, rfl, q1 rfl⟩⟩
    exact wpAny_binaryOp_repeat_ref (T := "tuple") (U := "int") (by decide) ⟨_, ho, rfl⟩ (fun s' => typeIs_int s' 1 t) noFill_tuple_mul F.fills_int_mul F.slot_int_rmul repeat_tuple F.slot_int_index.lookup
      (call_meets F.slot_int_rmul (typeIs_int s 1 t) F.entry_int_rmul (F.args_int_rmul_2 _ _) (int_rmul_tuple 1 t l its.toArray n dd sl) ⟨ho, rfl, ⟨_, ho, rfl⟩, two⟩)
  · exact op_repT pins s σ H _ _ v u Q I rx ry ⟨l, k, xs, rfl, rfl, hT, ne, by omega, k2, hz, q2 one⟩
end FwE
namespace Fw
open PySem PySem.Spec PyProof.Rows L2 Evl
section
variable {K : PySem.W.Frag} {p : Option Addr} {env : List Slot} {Φ : PyData → Prop} {ta tb te tl : TE} {tt tc : TT} {O : Outs}
theorem od_times {ds : List PyData} {k : Int} (ne : ds ≠ []) (k1 : 1 ≤ k) (k2 : k ≤ 1000) (hz : ds.length ≤ 1000) (h : Φ (.tuple (List.replicate k.toNat ds).flatten)) : OpD K p (FwE.rTimes K) (.tuple ds) (.int k) Φ := fun vx vy Hk H Q e po rx ry kk => by
  obtain ⟨a, xs, rfl, hT, r⟩ := dp_tup rx
  rw [dp_int ry]
  have l1 := dpAll_len r
  refine ⟨a, k, xs, rfl, rfl, ex_t e hT, fun z => ne (List.length_eq_zero_iff.mp (by rw [← l1, z]; rfl)), k1, k2, by omega, fun z => ?_, fun _ q hq => ?_⟩
  · subst z
    have e1 : (List.replicate (1 : Int).toNat ds).flatten = ds := by simp
    rw [e1] at h
    exact kk _ _ _ _ (Go.refl e po) rx h
  · exact kk _ _ _ _ (Go.new e po hq) (.tup (SqT.of upd_same) (dpAll_mono (Ex.new (fresh_back e hq)) _ (dpAll_rep r _))) h
/-- a list times a number (the list made on the way) -/
theorem od_repL {ds : List PyData} {k : Int} (k1 : 0 ≤ k) (k2 : k ≤ 1000) (hz : ds.length ≤ 100) (h : Φ (.list (List.replicate k.toNat ds).flatten)) {vx vy : V} {Hk H : Hp} {Q : VK} (e : Ex Hk H) (po : PotOk Hk H p) (rx : Dp K Hk vx (.list ds)) (ry : Dp K Hk vy (.int k)) (tr : ∀ a xs, vx = .ref a → SqL K Hk a xs → H a = some (.lst xs))
    (kk : ∀ v d Hk' H', Go p Hk H Hk' H' → Dp K Hk' v d → Φ d → Q v H') : rRep vx vy H Q := by
  obtain ⟨a, xs, rfl, hT, r⟩ := dp_lst rx
  rw [dp_int ry]
  have l1 := dpAll_len r
  refine ⟨a, k, xs, rfl, rfl, tr a xs rfl hT, by omega, by omega, ?_, fun q hq => ?_⟩
  · have : xs.length * k.toNat ≤ 100 * 1000 := Nat.mul_le_mul (by omega) (by omega)
    exact sz_of (by omega)
  · exact kk _ _ _ _ (Go.new e po hq) (.lst (SqL.of upd_same) (dpAll_mono (Ex.new (fresh_back e hq)) _ (dpAll_rep r _))) h
/-! ### isinstance, repr -/
def tyD : PyData → String
  | .none => "NoneType"
  | .bool _ => "bool"
  | .int _ => "int"
  | .str _ => "str"
  | .list _ => "list"
  | .tuple _ => "tuple"
  | .dict _ => "dict"
theorem tyX {H : Hp} {v : V} {d : PyData} (h : Dp K H v d) : TyX K H v (.type (tyD d)) := by
  cases h with
  | non => exact .base .non
  | bl b => exact .base (.bl b)
  | int i => exact .base (.int i)
  | str x => exact .base (.str x)
  | lst h _ =>
    rcases h with (h | ⟨o, h⟩) | ⟨o, its, n, h, c, _⟩
    · exact .base (.lst h)
    · exact .base (.frz h)
    · exact .kList h c
  | tup h _ =>
    rcases h with (h | ⟨o, h⟩) | ⟨o, its, n, h, c, _⟩
    · exact .base (.tup h)
    · exact .fTuple h
    · exact .kTuple h c
theorem e_isi {n : String} (h : WpE K p te env fun x => ∃ b, kitB (tyD x) n = some b ∧ Φ (.bool b)) : WpE K p (tCB (rIsi K) (tCons te (tCons (tC (.ty n)) tNil))) env Φ := fun H0 σ Hk H Q e po en k =>
  h H0 σ Hk H _ e po en fun vx x Hk1 H1 g1 rx ⟨b, hb, f⟩ => ⟨vx, .ty n, _, _, b, rfl, .ty n, tyX (dp_mono g1.kr _ rx), kit_ty hb, k _ _ _ _ g1 (.bl b) f⟩
theorem kit_ii : kitB "int" "int" = some true := by decide +kernel
theorem kit_bi : kitB "bool" "int" = some true := by decide +kernel
theorem kit_ni : kitB "NoneType" "int" = some false := by decide +kernel
theorem kit_si : kitB "str" "int" = some false := by decide +kernel
theorem kit_li : kitB "list" "int" = some false := by decide +kernel
theorem kit_ti : kitB "tuple" "int" = some false := by decide +kernel
theorem kit_ib : kitB "int" "bool" = some false := by decide +kernel
theorem kit_bb : kitB "bool" "bool" = some true := by decide +kernel
theorem kit_nb : kitB "NoneType" "bool" = some false := by decide +kernel
theorem kit_sb : kitB "str" "bool" = some false := by decide +kernel
theorem kit_lb : kitB "list" "bool" = some false := by decide +kernel
theorem kit_tb : kitB "tuple" "bool" = some false := by decide +kernel
theorem kit_it : kitB "int" "tuple" = some false := by decide +kernel
theorem kit_bt : kitB "bool" "tuple" = some false := by decide +kernel
theorem kit_nt : kitB "NoneType" "tuple" = some false := by decide +kernel
theorem kit_st : kitB "str" "tuple" = some false := by decide +kernel
theorem kit_lt : kitB "list" "tuple" = some false := by decide +kernel
theorem kit_tt : kitB "tuple" "tuple" = some true := by decide +kernel
theorem kit_is : kitB "int" "str" = some false := by decide +kernel
theorem kit_bs : kitB "bool" "str" = some false := by decide +kernel
theorem kit_ns : kitB "NoneType" "str" = some false := by decide +kernel
theorem kit_ss : kitB "str" "str" = some true := by decide +kernel
theorem kit_ls : kitB "list" "str" = some false := by decide +kernel
theorem kit_ts : kitB "tuple" "str" = some false := by decide +kernel
theorem cb_reprD {d : PyData} (h1 : isDisplay d = true) (h2 : d.showable = true) (h3 : d.hasDict = false) (h4 : d.depth ≤ 60) (h5 : d.shown.length ≤ sizeLine) (h : Φ (.str d.shown)) : CbD K p (FwE.rReprD K) [d] Φ := fun vs Hk H Q e po rx k => by
  cases rx with
  | cons rx rr =>
    cases rr
    exact ⟨_, d, rfl, dp_mono e d rx, h1, h2, h3, h4, h5, k _ _ _ _ (Go.refl e po) (.str _) h⟩
theorem cb_reprB {b : Bool} (h : Φ (.str (if b then "True" else "False"))) : CbD K p (fun xs H Q => ∃ b, xs = [V.bl b] ∧ Q (.str (if b then "True" else "False")) H) [.bool b] Φ := fun vs Hk H Q e po rx k => by
  cases rx with
  | cons rx rr =>
    cases rr
    rw [dp_bl rx]
    exact ⟨b, rfl, k _ _ _ _ (Go.refl e po) (.str _) h⟩
/-! ### calls -/
def SpF (K : PySem.W.Frag) (pre : List PyData → (PyData → Prop) → Prop) : Sp := fun vs H Q _ => ∃ (Hk : Hp) (ds : List PyData) (Φ : PyData → Prop), Ex Hk H ∧ DpAll K Hk vs ds ∧ pre ds Φ ∧ ∀ v d Hk' H', Go none Hk H Hk' H' → Dp K Hk' v d → Φ d → Q v H'
def SpG (K : PySem.W.Frag) (pre : List PyData → (PyData → Prop) → Prop) : Sp := fun vs H Q _ => ∃ (q : Addr) (us : List V) (Hk : Hp) (ds : List PyData) (Φ : PyData → Prop), vs = .ref q :: us ∧ Ex Hk H ∧ PotOk Hk H (some q) ∧ DpAll K Hk us ds ∧ pre ds Φ ∧ ∀ v d Hk' H', Go (some q) Hk H Hk' H' → Dp K Hk' v d → Φ d → Q v H'
theorem e_call {pre : List PyData → (PyData → Prop) → Prop} {E : XK} {ta : TA} (h : WpA K p ta env fun ds => pre ds Φ) : WpE K p (tCall (SpF K pre) [] E ta) env Φ := fun H0 σ Hk H Q e po en k =>
  h H0 σ Hk H _ e po en fun vs ds Hk1 H1 g1 r f => by
    rw [List.append_nil]
    exact ⟨Hk1, ds, Φ, g1.kr, r, f, fun v d Hk' H' g rd f' => k v d Hk' H' (g1.trans (g.lift g1.po)) rd f'⟩
theorem e_callP {pre : List PyData → (PyData → Prop) → Prop} {E : XK} {ta : TA} {i : Nat} (hi : env[i]? = some .pot) (h : WpA K p ta env fun ds => pre ds Φ) : WpE K p (tCall (SpG K pre) [] E (tCons (tVar i) ta)) env Φ := fun H0 σ Hk H Q e po en k => by
  obtain ⟨ov, h1, a, rfl, rfl⟩ := en.slot i _ hi
  refine ⟨.ref a, h1, h H0 σ Hk H _ e po en fun vs ds Hk1 H1 g1 r f => ?_⟩
  show SpG K pre ((V.ref a :: vs) ++ []) H1 Q E
  rw [List.append_nil]
  exact ⟨a, vs, Hk1, ds, Φ, rfl, g1.kr, g1.po, r, f, fun v d Hk' H' g rd f' => k v d Hk' H' (g1.trans g) rd f'⟩
theorem e_callK0 {pre : List PyData → (PyData → Prop) → Prop} {E : XK} {tk : TA} {gV : List V → List V → List V} (gD : List PyData → List PyData) (hg : ∀ (H : Hp) zs ds, DpAll K H zs ds → DpAll K H (gV [] zs) (gD ds)) (h : WpA K p tk env fun ds => pre (gD ds) Φ) : WpE K p (tCallK (SpF K pre) gV E tNil tk) env Φ := fun H0 σ Hk H Q e po en k =>
  h H0 σ Hk H _ e po en fun vs ds Hk1 H1 g1 r f => ⟨Hk1, gD ds, Φ, g1.kr, hg _ _ _ r, f, fun v d Hk' H' g rd f' => k v d Hk' H' (g1.trans (g.lift g1.po)) rd f'⟩
theorem lenF {pre : List PyData → (PyData → Prop) → Prop} {n : Nat} (h : ∀ ds Φ, pre ds Φ → ds.length = n) {vs : List V} {H : Hp} {Q : VK} {E : XK} (s : SpF K pre vs H Q E) : vs.length = n := by
  obtain ⟨Hk, ds, Φ, _, r, f, _⟩ := s
  rw [dpAll_len r]
  exact h ds Φ f
theorem lenG {pre : List PyData → (PyData → Prop) → Prop} {n : Nat} (h : ∀ ds Φ, pre ds Φ → ds.length = n) {vs : List V} {H : Hp} {Q : VK} {E : XK} (s : SpG K pre vs H Q E) : vs.length = n + 1 := by
  obtain ⟨q, us, Hk, ds, Φ, rfl, _, _, r, f, _⟩ := s
  rw [List.length_cons, dpAll_len r, h ds Φ f]
/-! ### statements -/
theorem s_seq {t u : TS} (h : WpS K p t env { O with nx := fun e => WpS K p u e O }) : WpS K p (tSeq t u) env O := fun H0 Hk0 σ Hk H D g en k =>
  h H0 Hk0 σ Hk H { D with nx := u D } g en ⟨fun e σ' Hk' H' g' en' f => f H0 Hk0 σ' Hk' H' D g' en' k, k.rt, k.bk, k.ct, k.rf⟩
theorem s_next (q : O.nx env) : WpS K p tNext env O := fun H0 Hk0 σ Hk H D g en k => k.nx env σ Hk H g en q
theorem s_asg {i : Nat} (h : WpE K p te env fun d => O.nx (env.set i (.dat d))) : WpS K p (tAsg te (gName i)) env O := fun H0 Hk0 σ Hk H D g en k =>
  h H0 σ Hk H _ g.kr g.po en fun v d Hk' H' g' r f => k.nx _ _ Hk' H' (g.trans g') ((en.go g').set r) f
theorem s_asgG {js : List Nat} {gt : TG} (h : WpE K p te env fun d => WpG K p js gt d env O.nx) : WpS K p (tAsg te gt) env O := fun H0 Hk0 σ Hk H D g en k =>
  h H0 σ Hk H _ g.kr g.po en fun v d Hk' H' g' r f => f H0 σ Hk' H' v _ g'.kr g'.po (en.go g') r fun σ' env' en' _ f' => k.nx env' σ' Hk' H' (g.trans g') en' f'
theorem fresh0 {Hk0 H0 Hk H : Hp} {l : Addr} (g : Go p Hk0 H0 Hk H) (h : H l = none) : H0 l = none := by
  cases q : H0 l with
  | none => rfl
  | some o => exact absurd h (g.live (by rw [q]; exact nofun))
theorem s_own {ta : TA} {i : Nat} (h : WpA K p ta env fun ds => ds.length ≤ 100000 ∧ O.nx (env.set i (.own ds))) : WpS K p (tAsg (tLst ta) (gName i)) env O := fun H0 Hk0 σ Hk H D g en k =>
  h H0 σ Hk H _ g.kr g.po en fun vs ds Hk' H' g' r ⟨hz, f⟩ => ⟨sz_of (by rw [dpAll_len r]; exact hz), fun l hl => by
    have gg := g.trans g'
    have hp := pot_ne gg.po hl
    exact k.nx _ _ Hk' _ (gg.mut (fresh0 gg hl) hp (fresh_back gg.kr hl)) ((en.go g').set_own (fresh0 gg hl) hl (fresh_back gg.kr hl) hp r) f⟩
theorem s_pub {t : TS} {i : Nat} {ds : List PyData} (hi : env[i]? = some (.own ds)) (h : WpS K p t (env.set i (.dat (.list ds))) O) : WpS K p t env O := fun H0 Hk0 σ Hk H D g en k => by
  obtain ⟨ov, h1, l, vs, rfl, h0, hk, hp, hl, r⟩ := en.slot i _ hi
  exact h H0 Hk0 σ _ H D (g.pub h0 hp hk hl) (en.publish hi h1 hk hl r) k
theorem s_ret (h : WpE K p te env O.rt) : WpS K p (tRet te) env O := fun H0 Hk0 σ Hk H D g en k =>
  h H0 σ Hk H _ g.kr g.po en fun v d Hk' H' g' r f => k.rt v d Hk' H' (g.trans g') r f
theorem s_retN (h : O.rt .none) : WpS K p tRetN env O := fun H0 Hk0 σ Hk H D g en k => k.rt .non .none Hk H g .non h
theorem s_if {t u : TS} (h : WpT K p tc env fun b => if b = true then WpS K p t env O else WpS K p u env O) : WpS K p (tIfS tc t u) env O := fun H0 Hk0 σ Hk H D g en k =>
  h H0 σ Hk H _ g.kr g.po en fun b Hk' H' g' f => by
    cases b with
    | true => exact (show WpS K p t env O from f) H0 Hk0 σ Hk' H' D (g.trans g') (en.go g') k
    | false => exact (show WpS K p u env O from f) H0 Hk0 σ Hk' H' D (g.trans g') (en.go g') k
theorem s_drop (h : WpE K p te env fun _ => O.nx env) : WpS K p (tDrop te) env O := fun H0 Hk0 σ Hk H D g en k =>
  h H0 σ Hk H _ g.kr g.po en fun v d Hk' H' g' r f => k.nx env σ Hk' H' (g.trans g') (en.go g') f
theorem s_app {i : Nat} {ds : List PyData} (hi : env[i]? = some (.own ds)) (h : WpE K p te env fun d => ds.length < 100000 ∧ O.nx (env.set i (.own (ds ++ [d])))) : WpS K p (tDrop (tBM K "list" rAppend (tVar i) (tCons te tNil))) env O := fun H0 Hk0 σ Hk H D g en k => by
  obtain ⟨ov, h1, l, vs, rfl, h0, hk, hp, hl, r⟩ := en.slot i _ hi
  refine ⟨.ref l, h1, .inl ⟨rfl, vs, SqL.of hl⟩, h H0 σ Hk H _ g.kr g.po en fun v d Hk' H' g' rd ⟨hz, f⟩ => ?_⟩
  have hl' : H' l = some (.lst vs) := g'.rr l _ hp hl
  have hk' : Hk' l = none := g'.nk l (by rw [hl]; exact nofun) hk
  refine ⟨l, vs, v, rfl, rfl, hl', sz_lt (by rw [dpAll_len r]; exact hz), k.nx _ σ Hk' _ ((g.trans g').mut h0 hp hk') ((en.go g').put_own (ws := vs ++ [v]) hi h1 (dpAll_app (dpAll_mono g'.kk ds r) (.cons rd .nil))) f⟩
theorem s_par {i j : Nat} {ta : TA} (h : WpA K p ta env fun ds => ∃ x y, ds = [x, y] ∧ O.nx ((env.set i (.dat x)).set j (.dat y))) : WpS K p (tPar i j ta) env O := fun H0 Hk0 σ Hk H D g en k =>
  h H0 σ Hk H _ g.kr g.po en fun vs ds Hk' H' g' r ⟨x, y, ed, f⟩ => by
    subst ed
    cases r with
    | cons r1 r2 =>
      cases r2 with
      | cons r2 r3 =>
        cases r3
        exact ⟨_, _, rfl, k.nx _ _ Hk' H' (g.trans g') (((en.go g').set r1).set r2) f⟩
/-- a name for a new list that the def may change -/
theorem s_ownF {i : Nat} (h : WpF K p te env fun ds => O.nx (env.set i (.own ds))) : WpS K p (tAsg te (gName i)) env O := fun H0 Hk0 σ Hk H D g en k => by
  refine h H0 σ Hk H _ g.kr g.po en fun l vs ds Hk' H' g' h0 hk hl r f => ?_
  exact k.nx _ _ Hk' H' (g.trans g') (en.add_own (en.go g') (fresh0 g h0) h0 hl hk (pot_ne g.po h0) r) f
/-- two names, the second a list that the def may change -/
theorem s_parOwn {i j : Nat} {tb : TA} (hij : i ≠ j) (h : WpE K p te env fun x => WpA K p tb env fun ds => ds.length ≤ 100000 ∧ O.nx ((env.set i (.dat x)).set j (.own ds))) : WpS K p (tPar i j (tCons te (tCons (tLst tb) tNil))) env O := fun H0 Hk0 σ Hk H D g en k =>
  h H0 σ Hk H _ g.kr g.po en fun v x Hk1 H1 g1 rx h1 => h1 H0 σ Hk1 H1 _ g1.kr g1.po (en.go g1) fun vs ds Hk' H' g' r ⟨hz, f⟩ => ⟨sz_of (by rw [dpAll_len r]; exact hz), fun l hl => by
    have gg := (g.trans g1).trans g'
    have hp := pot_ne gg.po hl
    refine ⟨v, .ref l, rfl, k.nx _ _ Hk' _ (gg.mut (fresh0 gg hl) hp (fresh_back gg.kr hl)) ?_ f⟩
    exact (((en.go g1).go g').set (dp_mono g'.kk x rx)).set_own (fresh0 gg hl) hl (fresh_back gg.kr hl) hp r⟩
theorem s_par3 {i j l : Nat} {ta : TA} (h : WpA K p ta env fun ds => ∃ x y z, ds = [x, y, z] ∧ O.nx (((env.set i (.dat x)).set j (.dat y)).set l (.dat z))) : WpS K p (tPar3 i j l ta) env O := fun H0 Hk0 σ Hk H D g en k =>
  h H0 σ Hk H _ g.kr g.po en fun vs ds Hk' H' g' r ⟨x, y, z, ed, f⟩ => by
    subst ed
    cases r with
    | cons r1 r2 =>
      cases r2 with
      | cons r2 r3 =>
        cases r3 with
        | cons r3 r4 =>
          cases r4
          exact ⟨_, _, _, rfl, k.nx _ _ Hk' H' (g.trans g') ((((en.go g').set r1).set r2).set r3) f⟩
theorem s_aug {i : Nat} {f : Int → Int → Int} {a : Int} (hi : env[i]? = some (.dat (.int a))) (h : WpE K p te env fun d => ∃ b, d = .int b ∧ O.nx (env.set i (.dat (.int (f a b))))) : WpS K p (tAug i te (ipI f)) env O := fun H0 Hk0 σ Hk H D g en k => by
  obtain ⟨ov, h1, v, rfl, r⟩ := en.slot i _ hi
  refine ⟨v, h1, h H0 σ Hk H _ g.kr g.po en fun w d Hk' H' g' rd ⟨b, ed, q⟩ => ?_⟩
  subst ed
  rw [dp_int rd, dp_int r]
  exact ⟨a, b, rfl, rfl, k.nx _ _ Hk' H' (g.trans g') ((en.go g').set (.int _)) q⟩
theorem s_brk (q : O.bk env) : WpS K p tBreak env O := fun H0 Hk0 σ Hk H D g en k => k.bk env σ Hk H g en q
theorem s_cont (q : O.ct env) : WpS K p tCont env O := fun H0 Hk0 σ Hk H D g en k => k.ct env σ Hk H g en q
theorem Go.self {Hk0 H0 Hk H : Hp} (g : Go p Hk0 H0 Hk H) : Go p Hk H0 Hk H := ⟨Ex.refl _, g.kr, g.rr, fun _ _ h => h, g.po⟩
theorem Go.re {Hk0 H0 Hk H Hk' H' : Hp} (g : Go p Hk0 H0 Hk H) (g' : Go p Hk H0 Hk' H') : Go p Hk0 H0 Hk' H' := ⟨g.kk.trans g'.kk, g'.kr, g'.rr, fun a h1 h2 => g'.nk a h1 (g.nk a h1 h2), g'.po⟩
theorem s_while {t : TS} (I : Nat → List Slot → Prop) (m0 : Nat) (h0 : I m0 env) (h : ∀ m e, I m e → WpT K p tc e fun b => if b = true then WpS K p t e { nx := fun e' => ∃ m', m' < m ∧ I m' e', rt := O.rt, bk := O.nx, ct := fun e' => ∃ m', m' < m ∧ I m' e', rf := O.rf } else O.nx e) : WpS K p (tWhile tc t) env O := fun H0 Hk0 σ Hk H D g en k => by
  refine ⟨fun m σ' H' => ∃ Hk' e, Go p Hk0 H0 Hk' H' ∧ En K p H0 Hk' H' σ' e ∧ I m e, ⟨m0, Hk, env, g, en, h0⟩, ?_⟩
  rintro m σ' H' ⟨Hk', e, g', en', hi⟩
  refine h m e hi H0 σ' Hk' H' _ g'.kr g'.po en' fun b Hk2 H2 g2 f => ?_
  cases b with
  | false => exact k.nx e σ' Hk2 H2 (g'.trans g2) (en'.go g2) f
  | true =>
    refine ⟨fun σ3 H3 => ∃ m', m' < m ∧ ∃ Hk' e, Go p Hk0 H0 Hk' H3 ∧ En K p H0 Hk' H3 σ3 e ∧ I m' e, fun σ3 H3 z => z, ?_⟩
    have st : ∀ e' σ3 Hk3 H3, Go p Hk0 H0 Hk3 H3 → En K p H0 Hk3 H3 σ3 e' → (∃ m', m' < m ∧ I m' e') → ∃ m', m' < m ∧ ∃ Hk' e, Go p Hk0 H0 Hk' H3 ∧ En K p H0 Hk' H3 σ3 e ∧ I m' e := fun e' σ3 Hk3 H3 g3 en3 ⟨m', lt, q⟩ => ⟨m', lt, Hk3, e', g3, en3, q⟩
    exact (show WpS K p t e _ from f) H0 Hk0 σ' Hk2 H2 _ (g'.trans g2) (en'.go g2) ⟨st, k.rt, k.nx, st, k.rf⟩
theorem s_for {wi : TI} {gt : TG} {js : List Nat} {t : TS} (h : WpI K p wi env fun xs => ∃ I : Nat → List Slot → Prop, I 0 env ∧
    (∀ (i : Nat) (x : PyData) (e : List Slot), xs[i]? = some x → I i e → WpG K p js gt x e fun e2 => WpS K p t e2 { nx := I (i + 1), rt := O.rt, bk := O.nx, ct := I (i + 1), rf := O.rf }) ∧ ∀ e, I xs.length e → O.nx e) : WpS K p (tFor wi gt t) env O := fun H0 Hk0 σ Hk H D g en k => by
  refine h H0 σ Hk H _ g.kr g.po en fun J xs Hk1 H1 g1 it ⟨I, h0, hs, hd⟩ => ?_
  have gg := g.trans g1
  refine ⟨fun i m σ' H' => m = xs.length - i ∧ i ≤ xs.length ∧ ∃ Hk' e, Go p Hk1 H0 Hk' H' ∧ En K p H0 Hk' H' σ' e ∧ I i e, ⟨xs.length, by omega, by omega, Hk1, env, gg.self, en.go g1, h0⟩, ?_⟩
  rintro i m σ' H' ⟨rfl, hi, Hk', e, g', en', inv⟩
  obtain ⟨o1, o2, o3⟩ := it Hk' H' g'.kk g'.kr g'.po
  by_cases hlt : i < xs.length
  · refine .inr ⟨o1 i hlt, fun σ3 H3 => i + 1 ≤ xs.length ∧ ∃ Hk' e, Go p Hk1 H0 Hk' H3 ∧ En K p H0 Hk' H3 σ3 e ∧ I (i + 1) e, fun σ3 H3 q => ⟨xs.length - (i + 1), by omega, rfl, q⟩, fun x H2 y => ?_⟩
    obtain ⟨d, Hk2, hd', rd, g2⟩ := o3 i x H2 hlt y
    refine hs i d e hd' inv H0 σ' Hk2 H2 x _ g2.kr g2.po (en'.go g2) rd fun σ2 e2 en2 _ f => ?_
    have st : ∀ e' σ3 Hk3 H3, Go p Hk1 H0 Hk3 H3 → En K p H0 Hk3 H3 σ3 e' → I (i + 1) e' → i + 1 ≤ xs.length ∧ ∃ Hk' e, Go p Hk1 H0 Hk' H3 ∧ En K p H0 Hk' H3 σ3 e ∧ I (i + 1) e := fun e' σ3 Hk3 H3 g3 en3 q => ⟨by omega, Hk3, e', g3, en3, q⟩
    exact f H0 Hk1 σ2 Hk2 H2 _ (g'.trans g2) en2 ⟨st, fun v d Hk3 H3 g3 => k.rt v d Hk3 H3 (gg.re g3), fun e' σ3 Hk3 H3 g3 => k.nx e' σ3 Hk3 H3 (gg.re g3), st, fun l vs ds Hk3 H3 g3 => k.rf l vs ds Hk3 H3 (gg.re g3)⟩
  · have hi2 : i = xs.length := by omega
    subst hi2
    exact .inl ⟨o2, k.nx e σ' Hk' H' (gg.re g') en' (hd e inv)⟩
/-! ### a def's body -/
theorem en_start {H0 Hk H : Hp} (N : List Str) {vs : List V} {ds : List PyData} (r : DpAll K Hk vs ds) : En K none H0 Hk H (L2.start N vs) (ds.map .dat ++ List.replicate (N.length - ds.length) .no) := by
  have hl := dpAll_len r
  refine ⟨by unfold L2.start; simp [hl], fun i sl h => ?_, fun i j l a b h => ?_⟩
  · unfold L2.start
    by_cases hi : i < ds.length
    · rw [List.getElem?_append_left (by simpa using hi), List.getElem?_map, List.getElem?_eq_getElem hi] at h
      have e := Option.some.inj h
      subst e
      obtain ⟨v, hv, rv⟩ := dpAll_get r (List.getElem?_eq_getElem hi)
      exact ⟨some v, by rw [List.getElem?_append_left (by simp; omega), List.getElem?_map, hv]; rfl, v, rfl, rv⟩
    · rw [List.getElem?_append_right (by simpa using hi), List.length_map, List.getElem?_replicate] at h
      split at h
      · have e := Option.some.inj h
        subst e
        refine ⟨none, ?_, True.intro⟩
        rw [List.getElem?_append_right (by simp; omega), List.length_map, List.getElem?_replicate, if_pos (by omega)]
      · cases h
  · by_cases hi : i < ds.length
    · rw [List.getElem?_append_left (by simpa using hi), List.getElem?_map, List.getElem?_eq_getElem hi] at h
      cases h
    · rw [List.getElem?_append_right (by simpa using hi), List.length_map, List.getElem?_replicate] at h
      split at h
      · cases h
      · cases h
theorem En.potted {H0 Hk H : Hp} {q : Addr} {σ : List (Option V)} {env : List Slot} (h : En K none H0 Hk H σ env) (hn : ∀ (i : Nat) (ds : List PyData), env[i]? ≠ some (Slot.own ds)) (hp : ∀ i : Nat, env[i]? ≠ some Slot.pot) : En K (some q) H0 Hk H (some (.ref q) :: σ) (.pot :: env) := by
  refine ⟨by rw [List.length_cons, List.length_cons, h.len], fun i sl e => ?_, fun i j l a b e => ?_⟩
  · cases i with
    | zero =>
      cases e
      exact ⟨_, rfl, q, rfl, rfl⟩
    | succ i =>
      obtain ⟨ov, e1, r⟩ := h.slot i sl e
      refine ⟨ov, e1, ?_⟩
      cases sl with
      | no => exact True.intro
      | pot => exact absurd e (hp i)
      | dat d => exact r
      | own ds => exact absurd e (hn i ds)
  · cases i with
    | zero => cases e
    | succ i => exact absurd e (hn i a)
theorem bodyF {pre : List PyData → (PyData → Prop) → Prop} {N : List Str} {ts : TS} {vs : List V} {H : Hp} {Q : VK} {E : XK} (s : SpF K pre vs H Q E) (h : ∀ ds Φ, pre ds Φ → WpS K none ts (ds.map .dat ++ List.replicate (N.length - ds.length) .no) ⟨fun _ => Φ .none, Φ, fun _ => False, fun _ => False, fun _ => False⟩) : ts { nx := fun _ H' => Q .non H', rt := Q } (L2.start N vs) H := by
  obtain ⟨Hk, ds, Φ, e, r, f, k⟩ := s
  exact h ds Φ f H Hk _ Hk H _ (Go.refl e True.intro) (en_start N r) ⟨fun _ _ Hk' H' g _ q => k _ _ Hk' H' g .non q, k, fun _ _ _ _ _ _ z => z.elim, fun _ _ _ _ _ _ z => z.elim, fun _ _ _ _ _ _ _ _ _ _ z => z.elim⟩
theorem bodyG {pre : List PyData → (PyData → Prop) → Prop} {n : Str} {N : List Str} {ts : TS} {vs : List V} {H : Hp} {Q : VK} {E : XK} (s : SpG K pre vs H Q E) (h : ∀ q ds Φ, pre ds Φ → WpS K (some q) ts (.pot :: (ds.map .dat ++ List.replicate (N.length - ds.length) .no)) ⟨fun _ => Φ .none, Φ, fun _ => False, fun _ => False, fun _ => False⟩) : ts { nx := fun _ H' => Q .non H', rt := Q } (L2.start (n :: N) vs) H := by
  obtain ⟨q, us, Hk, ds, Φ, rfl, e, po, r, f, k⟩ := s
  have st : L2.start (n :: N) (V.ref q :: us) = some (V.ref q) :: L2.start N us := by
    unfold L2.start
    simp
  rw [st]
  refine h q ds Φ f H Hk _ Hk H _ (Go.refl e po) ((en_start N r).potted (fun i a z => ?_) (fun i z => ?_)) ⟨fun _ _ Hk' H' g _ q => k _ _ Hk' H' g .non q, k, fun _ _ _ _ _ _ z => z.elim, fun _ _ _ _ _ _ z => z.elim, fun _ _ _ _ _ _ _ _ _ _ z => z.elim⟩
  all_goals
    rcases List.mem_append.mp (List.mem_of_getElem? z) with m | m
    · obtain ⟨d, _, y⟩ := List.mem_map.mp m
      cases y
    · have y := (List.mem_replicate.mp m).2
      cases y
end
end Fw
namespace FwH
open PySem PySem.Spec PyProof.Rows L2
/-! the head's facts with one more truth over the written part -/
def obsE (n : Nat) (fa : List He.Fa) (fn : List He.DefD) (ex : PySem.W.Frag → Bool) (g : Addr → Option Obj) : He.AlD × Bool := (He.obsD fa fn (He.frG g (He.asD g n)), ex (He.frG g (He.asD g n)))
def hookE (n : Nat) (fa : List He.Fa) (fn : List He.DefD) (ex : PySem.W.Frag → Bool) : PySem.W.Hook where
  α := He.AlD × Bool
  obs := fun s => obsE n fa fn ex s.heap.get?
  val := fun _ => (He.valD fn, true)
  says := fun _ h => ∃ K : PySem.W.Frag, K.In h ∧ He.SaysD fa fn K ∧ ex K = true
  of := fun _ _ e => ⟨_, He.frG_in, congrArg (fun z : He.AlD × Bool => z.1) e, congrArg (fun z : He.AlD × Bool => z.2) e⟩
  keeps := fun _ _ _ ⟨K, inK, c⟩ k => ⟨K, PySem.W.Frag.In.keeps inK k, c⟩
theorem obsE_eq {n : Nat} {fa : List He.Fa} {fn : List He.DefD} {ex : PySem.W.Frag → Bool} {g : Addr → Option Obj} {s : Shared} (h : ∀ a, g a = s.heap.get? a) : obsE n fa fn ex g = (hookE n fa fn ex).obs s := by
  rw [show g = s.heap.get? from funext h]
  rfl
/-- a name of the module that is a built-in of an imported module -/
def bltB (x : Str) (id : String) (K : PySem.W.Frag) : Bool := decide (PySem.W.nsIn K mainGlobals x = some (some (.builtin id)))
theorem bltB_ok {K : PySem.W.Frag} {h : Heap} {mg : Str → Option Value} {x : Str} {id : String} (X : K.In h) (G : h.Ns mainGlobals mg) (c : bltB x id K = true) : mg x = some (.builtin id) := PySem.W.mg_of X G (of_decide_eq_true c)
end FwH
namespace Fw
open PySem PySem.Spec PyProof.Rows L2 Evl
/-! a def of the module by its name, and what it promises -/
abbrev FnP (K : PySem.W.Frag) (x : Str) (st : Stmt) (f : Addr) (fd : FuncData) : Prop := FunD K x x (defArgs st) (defBody st) (defScope st) [] [] f fd
def Dn (K : PySem.W.Frag) (mg : Str → Option Value) (x : Str) (st : Stmt) : Prop := ∃ f fd, FnP K x st f fd ∧ mg x = some (.ref f)
section
variable (P : Program) (w : World) (K : PySem.W.Frag) (mg : Str → Option Value) (base : Heap)
def Has (x : Str) (ps : List Str) (k : Nat) (sp : Sp) : Prop := ∃ f fd, FnOk P w K mg base CX0 k f fd ps sp ∧ mg x = some (.ref f) ∧ PySem.W.keepIn K (.ref f) = true ∧ Binds K fd ps []
def HasG (x : Str) (ps : List Str) (k : Nat) (sp : Sp) : Prop := ∃ f fd, FwG.FnG P w K mg base CX0 k f fd ps sp ∧ mg x = some (.ref f) ∧ PySem.W.keepIn K (.ref f) = true ∧ Binds K fd ps []
/-- called by names alone, in the sequence ks; gV brings the values into the parameters' sequence -/
def HasK (x : Str) (ps ks : List Str) (k : Nat) (sp : Sp) (gV : List V → List V → List V) : Prop := ∃ f fd g, FnOk P w K mg base CX0 k f fd ps sp ∧ mg x = some (.ref f) ∧ PySem.W.keepIn K (.ref f) = true ∧ KBinds K fd ps ks g gV
end
section
variable {P : Program} {w : World} {K : PySem.W.Frag} {mg : Str → Option Value} {base : Heap} {x : Str} {st : Stmt} {ps : List Str} {k : Nat} {sp : Sp}
abbrev BindsAll (x : Str) (st : Stmt) (ps : List Str) : Prop := ∀ (kV doc pm : Value) (an : Option Addr) (cdv ct : Value) (us : List Value), us.length = ps.length → bindArgs (PySem.W.fnOf x x (defArgs st) (defBody st) (defScope st) .none kV doc pm an cdv ct) ⟨us, []⟩ = pure (ps.zip us)
theorem has_of (D : Dn K mg x st) (b : BindsAll x st ps) (ok : ∀ f fd, FnP K x st f fd → FnOk P w K mg base CX0 k f fd ps sp) : Has P w K mg base x ps k sp := by
  obtain ⟨f, fd, F, m⟩ := D
  exact ⟨f, fd, ok f fd F, m, F.kp, F.bindsN b⟩
theorem hasG_of (D : Dn K mg x st) (b : BindsAll x st ps) (ok : ∀ f fd, FnP K x st f fd → FwG.FnG P w K mg base CX0 k f fd ps sp) : HasG P w K mg base x ps k sp := by
  obtain ⟨f, fd, F, m⟩ := D
  exact ⟨f, fd, ok f fd F, m, F.kp, F.bindsN b⟩
/-- no value ahead of the names -/
def onlyK (g : {α : Type} → List α → List α) {α : Type} : List α → List α → List α
  | [], ws => g ws
  | _ :: _, _ => []
/-- the same def, called by names -/
theorem hasK_of {ks : List Str} (g : {α : Type} → List α → List α) (D : Dn K mg x st) (ok : ∀ f fd, FnP K x st f fd → FnOk P w K mg base CX0 k f fd ps sp)
    (b : ∀ (kV doc pm : Value) (an : Option Addr) (cdv ct : Value) (ws : List Value), (g ws).length = ps.length → bindArgs (PySem.W.fnOf x x (defArgs st) (defBody st) (defScope st) .none kV doc pm an cdv ct) ⟨[], ks.zip ws⟩ = pure (ps.zip (g ws)))
    (r : ∀ {zs : List V} {ws : List Value}, Vals zs ws → Vals (g zs) (g ws)) (hne : ps ≠ []) : HasK P w K mg base x ps ks k sp (onlyK g) := by
  obtain ⟨f, fd, F, m⟩ := D
  refine ⟨f, fd, onlyK g, ok f fd F, m, F.kp, ?_⟩
  obtain ⟨oc, od, dV, kV, doc, pm, an, cdv, ct, osl, rfl, lk, hcd, hD, hK⟩ := F.ex
  rcases hD with ⟨_, rfl⟩ | ⟨e, _⟩
  · refine ⟨fun s us ws _ hl => ?_, fun {vs us zs ws} q1 q2 => ?_⟩
    · cases us with
      | nil => exact .of_eq (b kV doc pm an cdv ct ws hl)
      | cons u us => exact absurd (List.length_eq_zero_iff.mp hl.symm) hne
    · cases q1 with
      | nil => exact r q2
      | cons _ _ => exact .nil
  · exact absurd rfl e
theorem Has.mono {j : Nat} (h : Has P w K mg base x ps k sp) (hj : k ≤ j) : Has P w K mg base x ps j sp := by
  obtain ⟨f, fd, ok, r⟩ := h
  exact ⟨f, fd, ok.mono hj, r⟩
end
section
variable {X : Cx} {k : Nat} {ps : List Str} {sp : Sp} {x : Str} {p pos : Pos} {e : Expr} {es : List Expr} {t : TA}
theorem pe_callH (h : Has X.prog X.w X.K X.mg X.base x ps k sp) (hr : Room k X.A) (hg : Gl X x) (ha : PA X (e :: es) t) (nd : (x == ("__debug__" : Str)) = false := by decide) (st : starEach (e :: es) X.env = (false, eval e X.env) :: starEach es X.env := by rfl) (pl : (backTo pos (starEach es X.env)).any (·.1) = false := by rfl) :
    PE X (.Call (.Name x p) (e :: es) [] pos) (tCall sp [] E0 t) := by
  obtain ⟨f, fd, ok, m, kp, b⟩ := h
  exact pe_call ok hr hg m kp b .nil pass0 ha nd st pl
theorem pe_callHG (h : HasG X.prog X.w X.K X.mg X.base x ps k sp) (gA : X.A.guards = some []) (hr : Room k X.A) (hg : Gl X x) (ha : PA X (e :: es) t) (nd : (x == ("__debug__" : Str)) = false := by decide) (st : starEach (e :: es) X.env = (false, eval e X.env) :: starEach es X.env := by rfl) (pl : (backTo pos (starEach es X.env)).any (·.1) = false := by rfl) :
    PE X (.Call (.Name x p) (e :: es) [] pos) (tCall sp [] E0 t) := by
  obtain ⟨f, fd, ok, m, kp, b⟩ := h
  exact FwG.pe_callG ok gA hr hg m kp b .nil pass0 ha nd st pl
theorem pe_callHK {ks : List Str} {kw : List Keyword} {tk : TA} {gV : List V → List V → List V} (h : HasK X.prog X.w X.K X.mg X.base x ps ks k sp gV) (hr : Room k X.A) (hg : Gl X x) (hk : PK X kw tk) (all : (backToKw pos (keywordEach kw X.env)).all (·.1.isSome) = true := by rfl) (keys : (backToKw pos (keywordEach kw X.env)).filterMap (·.1) = ks := by rfl)
    (nd : (x == ("__debug__" : Str)) = false := by decide) (pl : ((backTo pos (starEach [] X.env)).any (·.1) || (backToKw pos (keywordEach kw X.env)).any (·.1.isNone)) = false := by rfl) :
    PE X (.Call (.Name x p) [] kw pos) (tCallK sp gV E0 tNil tk) := by
  obtain ⟨f, fd, g, ok, m, kp, b⟩ := h
  exact FwG.pe_callK0 ok hr hg m kp b pass0 hk all keys nd pl
end
end Fw
namespace Fw
open PySem PySem.Spec PyProof.Rows L2 Evl
/-! the rules again, where the reading's part K' is the known one by unfolding alone -/
section
variable {K K' : PySem.W.Frag} {p : Option Addr} {env : List Slot} {Φ : PyData → Prop} {ta tb te tl : TE} {tt tc : TT} {O : Outs} {Ψ : List PyData → Prop}
theorem e_isi_ {n : String} (h : WpE K p te env fun x => ∃ b, kitB (tyD x) n = some b ∧ Φ (.bool b)) (hK : K' = K := by with_unfolding_all rfl) : WpE K p (tCB (rIsi K') (tCons te (tCons (tC (.ty n)) tNil))) env Φ := by subst hK; exact e_isi h
theorem od_eqD_ {x y : PyData} (sx : SeqAt.shaped x = true) (sy : SeqAt.shaped y = true) (h : Φ (.bool (PyData.eqv x y))) (hK : K' = K := by with_unfolding_all rfl) : OpD K p (rEqD K') x y Φ := by subst hK; exact od_eqD sx sy h
theorem od_neD_ {x y : PyData} (sx : SeqAt.shaped x = true) (sy : SeqAt.shaped y = true) (h : Φ (.bool (!PyData.eqv x y))) (hK : K' = K := by with_unfolding_all rfl) : OpD K p (rNeD K') x y Φ := by subst hK; exact od_neD sx sy h
theorem od_ixT_ {ds : List PyData} {i : Int} {d : PyData} (ha : atI ds i = some d) (h : Φ d) (hK : K' = K := by with_unfolding_all rfl) : OpD K p (rIxT K') (.tuple ds) (.int i) Φ := by subst hK; exact od_ixT ha h
theorem od_ixL_ {ds : List PyData} {i : Int} {d : PyData} (ha : atI ds i = some d) (h : Φ d) (hK : K' = K := by with_unfolding_all rfl) : OpD K p (rIxL K') (.list ds) (.int i) Φ := by subst hK; exact od_ixL ha h
theorem od_catT_ {ds es : List PyData} (hz : ds.length + es.length ≤ 100000) (h : Φ (.tuple (ds ++ es))) (hK : K' = K := by with_unfolding_all rfl) : OpD K p (rCatA K') (.tuple ds) (.tuple es) Φ := by subst hK; exact od_catT hz h
theorem od_times_ {ds : List PyData} {k : Int} (ne : ds ≠ []) (k1 : 1 ≤ k) (k2 : k ≤ 1000) (hz : ds.length ≤ 1000) (h : Φ (.tuple (List.replicate k.toNat ds).flatten)) (hK : K' = K := by with_unfolding_all rfl) : OpD K p (FwE.rTimes K') (.tuple ds) (.int k) Φ := by subst hK; exact od_times ne k1 k2 hz h
theorem e_slT_ {tl th : TO} (h : WpE K p te env fun x => WpO K p tl env fun l => WpO K p th env fun u => ∃ ds, x = .tuple ds ∧ Φ (.tuple (cutD ds l u))) (hK : K' = K := by with_unfolding_all rfl) : WpE K p (tSl (rSlA K') te tl th) env Φ := by
  subst hK
  exact e_sl (h.mono fun x hx => fun H0 σ Hk H Q e po en k => hx H0 σ Hk H Q e po en fun l Hk1 H1 g1 h1 => k l Hk1 H1 g1 fun H0 σ Hk H Q e po en k => h1 H0 σ Hk H Q e po en fun u Hk2 H2 g2 ⟨ds, ed, f⟩ => k u Hk2 H2 g2 (by subst ed; exact ud_slT f))
theorem cb_len_ {r : List V → Hp → VK → Prop} {ds : List PyData} {x : PyData} (hx : x = .tuple ds ∨ x = .list ds) (h : Φ (.int ds.length)) (hr : r = fun xs H Q => ∃ p ys, xs = [.ref p] ∧ (SqL K H p ys ∨ SqT K H p ys) ∧ Q (.int ys.length) H := by with_unfolding_all rfl) : CbD K p r [x] Φ := by
  rcases hx with rfl | rfl
  · exact cb_len_tup hr h
  · exact cb_len_lst hr h
theorem cb_sum_ {ds : List PyData} (ns : List Int) (hd : ds = ns.map .int) (h : Φ (.int ns.sum)) (hK : K' = K := by with_unfolding_all rfl) : CbD K p (rSum K') [.list ds] Φ := by subst hK; subst hd; exact cb_sum h
theorem cb_all_ {ds : List PyData} (bs : List Bool) (hd : ds = bs.map .bool) (h : Φ (.bool (bs.all id))) (hK : K' = K := by with_unfolding_all rfl) : CbD K p (rAll K') [.list ds] Φ := by subst hK; subst hd; exact cb_all h
theorem cb_list_ {r : List V → Hp → VK → Prop} {ds : List PyData} {x : PyData} (hx : x = .tuple ds ∨ x = .list ds) (h : Φ (.list ds)) (hr : r = fun xs H Q => ∃ p ys, xs = [V.ref p] ∧ (SqL K H p ys ∨ SqT K H p ys) ∧ ∀ l, H l = none → Q (.ref l) (upd H l (.lst ys)) := by with_unfolding_all rfl) : CbD K p r [x] Φ := by subst hr; exact cb_list hx h
theorem cb_tuple_ {r : List V → Hp → VK → Prop} {ds : List PyData} {x : PyData} (hx : x = .tuple ds ∨ x = .list ds) (h : Φ (.tuple ds)) (hr : r = fun xs H Q => ∃ p ys, xs = [V.ref p] ∧ ((SqL K H p ys ∧ ∀ l, H l = none → Q (.ref l) (upd H l (.tup ys))) ∨ (SqT K H p ys ∧ Q (.ref p) H)) := by with_unfolding_all rfl) : CbD K p r [x] Φ := by subst hr; exact cb_tuple hx h
theorem cb_reprD_ {d : PyData} (h1 : isDisplay d = true) (h2 : d.showable = true) (h3 : d.hasDict = false) (h4 : d.depth ≤ 60) (h5 : d.shown.length ≤ sizeLine) (h : Φ (.str d.shown)) (hK : K' = K := by with_unfolding_all rfl) : CbD K p (FwE.rReprD K') [d] Φ := by subst hK; exact cb_reprD h1 h2 h3 h4 h5 h
theorem i_list_ (h : WpE K p tl env fun d => ∃ xs, d = .list xs ∧ Ψ xs) (hK : K' = K := by with_unfolding_all rfl) : WpI K p (iList K' tl) env Ψ := by subst hK; exact i_list h
theorem i_tup_ (h : WpE K p tl env fun d => ∃ xs, d = .tuple xs ∧ Ψ xs) (hK : K' = K := by with_unfolding_all rfl) : WpI K p (iTup K' tl) env Ψ := by subst hK; exact i_tup h
theorem i_zipT_ {ta : TA} (h : WpA K p ta env fun ds => ∃ xs ys, ds = [.tuple xs, .tuple ys] ∧ Ψ (zipD xs ys)) (hK : K' = K := by with_unfolding_all rfl) : WpI K p (RZ.iZipA K' ta) env Ψ := by subst hK; exact i_zipT h
theorem i_zipL_ {ta : TA} (h : WpA K p ta env fun ds => ∃ xs ys, ds = [.list xs, .list ys] ∧ Ψ (zipD xs ys)) (hK : K' = K := by with_unfolding_all rfl) : WpI K p (RZ.iZipA K' ta) env Ψ := by subst hK; exact i_zipL h
theorem i_enumT_ {ta : TA} (h : WpA K p ta env fun ds => ∃ xs, ds = [.tuple xs] ∧ Ψ (enumD xs)) (hK : K' = K := by with_unfolding_all rfl) : WpI K p (FwE.iEnumT K' ta) env Ψ := by subst hK; exact i_enumT h
theorem i_enumL_ {ta : TA} (h : WpA K p ta env fun ds => ∃ xs, ds = [.list xs] ∧ Ψ (enumD xs)) (hK : K' = K := by with_unfolding_all rfl) : WpI K p (iEnum K' ta) env Ψ := by subst hK; exact i_enumL h
theorem g_tup_ {js : List Nat} {n : Nat} {t : TGs} {d : PyData} {Ψ : List Slot → Prop} (ds : List PyData) (hd : d = .tuple ds) (hn : ds.length = n) (q : WpGs K p js t ds env Ψ) (hK : K' = K := by with_unfolding_all rfl) : WpG K p js (gTup K' n t) d env Ψ := by subst hK; exact g_tup ds hd hn q
theorem s_app_ {i : Nat} {ds : List PyData} (hi : env[i]? = some (.own ds)) (h : WpE K p te env fun d => ds.length < 100000 ∧ O.nx (env.set i (.own (ds ++ [d])))) (hK : K' = K := by with_unfolding_all rfl) : WpS K p (tDrop (tBM K' "list" rAppend (tVar i) (tCons te tNil))) env O := by subst hK; exact s_app hi h
end
end Fw
namespace Fw
open PySem PySem.Spec PyProof.Rows L2 Evl
/-! isinstance, by the form of the data -/
theorem kd_none_int  : kitB (tyD PyData.none) "int" = some false := by show kitB "NoneType" "int" = some false; decide +kernel
theorem kd_none_bool  : kitB (tyD PyData.none) "bool" = some false := by show kitB "NoneType" "bool" = some false; decide +kernel
theorem kd_none_str  : kitB (tyD PyData.none) "str" = some false := by show kitB "NoneType" "str" = some false; decide +kernel
theorem kd_none_list  : kitB (tyD PyData.none) "list" = some false := by show kitB "NoneType" "list" = some false; decide +kernel
theorem kd_none_tuple  : kitB (tyD PyData.none) "tuple" = some false := by show kitB "NoneType" "tuple" = some false; decide +kernel
theorem kd_bool_int {b : Bool} : kitB (tyD (PyData.bool b)) "int" = some true := by show kitB "bool" "int" = some true; decide +kernel
theorem kd_bool_bool {b : Bool} : kitB (tyD (PyData.bool b)) "bool" = some true := by show kitB "bool" "bool" = some true; decide +kernel
theorem kd_bool_str {b : Bool} : kitB (tyD (PyData.bool b)) "str" = some false := by show kitB "bool" "str" = some false; decide +kernel
theorem kd_bool_list {b : Bool} : kitB (tyD (PyData.bool b)) "list" = some false := by show kitB "bool" "list" = some false; decide +kernel
theorem kd_bool_tuple {b : Bool} : kitB (tyD (PyData.bool b)) "tuple" = some false := by show kitB "bool" "tuple" = some false; decide +kernel
theorem kd_int_int {i : Int} : kitB (tyD (PyData.int i)) "int" = some true := by show kitB "int" "int" = some true; decide +kernel
theorem kd_int_bool {i : Int} : kitB (tyD (PyData.int i)) "bool" = some false := by show kitB "int" "bool" = some false; decide +kernel
theorem kd_int_str {i : Int} : kitB (tyD (PyData.int i)) "str" = some false := by show kitB "int" "str" = some false; decide +kernel
theorem kd_int_list {i : Int} : kitB (tyD (PyData.int i)) "list" = some false := by show kitB "int" "list" = some false; decide +kernel
theorem kd_int_tuple {i : Int} : kitB (tyD (PyData.int i)) "tuple" = some false := by show kitB "int" "tuple" = some false; decide +kernel
theorem kd_str_int {s : Str} : kitB (tyD (PyData.str s)) "int" = some false := by show kitB "str" "int" = some false; decide +kernel
theorem kd_str_bool {s : Str} : kitB (tyD (PyData.str s)) "bool" = some false := by show kitB "str" "bool" = some false; decide +kernel
theorem kd_str_str {s : Str} : kitB (tyD (PyData.str s)) "str" = some true := by show kitB "str" "str" = some true; decide +kernel
theorem kd_str_list {s : Str} : kitB (tyD (PyData.str s)) "list" = some false := by show kitB "str" "list" = some false; decide +kernel
theorem kd_str_tuple {s : Str} : kitB (tyD (PyData.str s)) "tuple" = some false := by show kitB "str" "tuple" = some false; decide +kernel
theorem kd_list_int {xs : List PyData} : kitB (tyD (PyData.list xs)) "int" = some false := by show kitB "list" "int" = some false; decide +kernel
theorem kd_list_bool {xs : List PyData} : kitB (tyD (PyData.list xs)) "bool" = some false := by show kitB "list" "bool" = some false; decide +kernel
theorem kd_list_str {xs : List PyData} : kitB (tyD (PyData.list xs)) "str" = some false := by show kitB "list" "str" = some false; decide +kernel
theorem kd_list_list {xs : List PyData} : kitB (tyD (PyData.list xs)) "list" = some true := by show kitB "list" "list" = some true; decide +kernel
theorem kd_list_tuple {xs : List PyData} : kitB (tyD (PyData.list xs)) "tuple" = some false := by show kitB "list" "tuple" = some false; decide +kernel
theorem kd_tuple_int {xs : List PyData} : kitB (tyD (PyData.tuple xs)) "int" = some false := by show kitB "tuple" "int" = some false; decide +kernel
theorem kd_tuple_bool {xs : List PyData} : kitB (tyD (PyData.tuple xs)) "bool" = some false := by show kitB "tuple" "bool" = some false; decide +kernel
theorem kd_tuple_str {xs : List PyData} : kitB (tyD (PyData.tuple xs)) "str" = some false := by show kitB "tuple" "str" = some false; decide +kernel
theorem kd_tuple_list {xs : List PyData} : kitB (tyD (PyData.tuple xs)) "list" = some false := by show kitB "tuple" "list" = some false; decide +kernel
theorem kd_tuple_tuple {xs : List PyData} : kitB (tyD (PyData.tuple xs)) "tuple" = some true := by show kitB "tuple" "tuple" = some true; decide +kernel
end Fw
namespace Fw
open PySem PySem.Spec PyProof.Rows L2 Evl
/-! slices of data -/
theorem cut_from {xs : List PyData} {i : Int} (h : 0 ≤ i) : cutD xs (some i) none = xs.drop i.toNat := by
  unfold cutD
  have e : HT.sIx xs.length 0 (some i) = min i.toNat xs.length := if_neg (show ¬ i < 0 by omega)
  rw [e, HT.sIx_none]
  by_cases z : i.toNat ≤ xs.length
  · rw [Nat.min_eq_left z, ← List.length_drop, List.take_length]
  · rw [Nat.min_eq_right (by omega), Nat.sub_self, List.take_zero, List.drop_eq_nil_of_le (by omega)]
theorem cut_to {xs : List PyData} {i : Int} (h : 0 ≤ i) : cutD xs none (some i) = xs.take i.toNat := by
  unfold cutD
  have e : HT.sIx xs.length xs.length (some i) = min i.toNat xs.length := if_neg (show ¬ i < 0 by omega)
  rw [e, HT.sIx_none, List.drop_zero, Nat.sub_zero, ← List.take_eq_take_min]
theorem cut_init {xs : List PyData} : cutD xs none (some (-1)) = xs.dropLast := by
  unfold cutD
  have e : HT.sIx xs.length xs.length (some (-1)) = (-1 + (xs.length : Int)).toNat := by
    show (if (-1 : Int) < 0 then (-1 + (xs.length : Int)).toNat else min (-1 : Int).toNat xs.length) = _
    rw [if_pos (by decide)]
  rw [e, HT.sIx_none, List.drop_zero, Nat.sub_zero, List.dropLast_eq_take]
  congr 1
  omega
theorem ix_ints {ps : List Int} {i : Int} (h0 : 0 ≤ i) (h1 : i.toNat < ps.length) : atI (ps.map PyData.int) i = some (.int ps[i.toNat]) := by
  unfold atI
  have e : ixN (ps.map PyData.int).length i = some i.toNat := by
    unfold ixN
    rw [List.length_map, if_pos h0, if_pos (by omega)]
  rw [e]
  show (ps.map PyData.int)[i.toNat]? = _
  rw [List.getElem?_map, List.getElem?_eq_getElem h1]
  rfl
end Fw
namespace Fw
open PySem PySem.Spec PyProof.Rows L2 Evl
section
variable {K : PySem.W.Frag} {p : Option Addr} {env : List Slot} {O : Outs}
/-- what holds behind a statement, said by hand -/
theorem s_cut {t : TS} (I : List Slot → Prop) (h : WpS K p t env { O with nx := I }) (k : ∀ e, I e → O.nx e) : WpS K p t env O := fun H0 Hk0 σ Hk H D g en ends =>
  h H0 Hk0 σ Hk H D g en ⟨fun e σ' Hk' H' g' en' q => ends.nx e σ' Hk' H' g' en' (k e q), ends.rt, ends.bk, ends.ct, ends.rf⟩
end
end Fw
namespace Fw
open PySem PySem.Spec PyProof.Rows L2 Evl
/-! the list of two ints that draws change -/
section
variable {K K' : PySem.W.Frag} {p : Option Addr} {env : List Slot} {Φ : PyData → Prop} {te : TE} {O : Outs}
theorem e_pot0 {i : Nat} (hi : env[i]? = some .pot) (h : ∀ a : Int, 0 ≤ a → Φ (.int a)) (hK : K' = K := by with_unfolding_all rfl) : WpE K p (tOp (rIxL K') (tVar i) (tC (.int 0))) env Φ := fun H0 σ Hk H Q e po en k => by
  subst hK
  obtain ⟨ov, h1, q, rfl, rfl⟩ := en.slot i _ hi
  obtain ⟨h2, a, b, h3, h4⟩ := po
  exact ⟨.ref q, h1, q, _, 0, .int a, rfl, rfl, SqL.of h3, rfl, k _ (.int a) Hk H (Go.refl e ⟨h2, a, b, h3, h4⟩) (.int a) (h a h4.1)⟩
theorem e_pot1 {i : Nat} (hi : env[i]? = some .pot) (h : ∀ b : Int, 0 ≤ b → b < 4294967296 → Φ (.int b)) (hK : K' = K := by with_unfolding_all rfl) : WpE K p (tOp (rIxL K') (tVar i) (tC (.int 1))) env Φ := fun H0 σ Hk H Q e po en k => by
  subst hK
  obtain ⟨ov, h1, q, rfl, rfl⟩ := en.slot i _ hi
  obtain ⟨h2, a, b, h3, h4⟩ := po
  exact ⟨.ref q, h1, q, _, 1, .int b, rfl, rfl, SqL.of h3, rfl, k _ (.int b) Hk H (Go.refl e ⟨h2, a, b, h3, h4⟩) (.int b) (h b h4.2.1 h4.2.2)⟩
theorem Go.pot {Hk H : Hp} {q : Addr} {a b : Int} (e : Ex Hk H) (po : PotOk Hk H (some q)) (h : PotB a b) : Go (some q) Hk H Hk (upd H q (.lst [.int a, .int b])) :=
  ⟨Ex.refl _, Ex.mut e po.1, fun x o n hx => by
    rw [upd_ne (fun z => n (by rw [z]))]
    exact hx, fun _ _ h => h, po.1, a, b, upd_same, h⟩
theorem s_pot1 {i : Nat} (hi : env[i]? = some .pot) (h : WpE K p te env fun d => ∃ b : Int, d = .int b ∧ 0 ≤ b ∧ b < 4294967296 ∧ O.nx env) : WpS K p (tAsg te (gSub (tVar i) (tC (.int 1)) rSetL)) env O := fun H0 Hk0 σ Hk H D g en k =>
  h H0 σ Hk H _ g.kr g.po en fun v d Hk' H' g' r ⟨b, ed, b0, b1, q⟩ => by
    subst ed
    rw [dp_int r]
    have en' := en.go g'
    obtain ⟨ov, h1, x, rfl, rfl⟩ := en'.slot i _ hi
    obtain ⟨h2, a, c, h3, h4⟩ := g'.po
    have gg := Go.pot g'.kr ⟨h2, a, c, h3, h4⟩ (show PotB a b from ⟨h4.1, b0, b1⟩)
    exact ⟨.ref x, h1, x, _, 1, 1, rfl, rfl, h3, rfl, k.nx env σ Hk' _ ((g.trans g').trans gg) (en'.go gg) q⟩
theorem s_potDig {i j : Nat} (hi : env[i]? = some .pot) (hij : i ≠ j) (h : WpE K p te env fun d => ∃ a b : Int, d = .tuple [.int a, .int b] ∧ 0 ≤ a ∧ O.nx (env.set j (.dat (.int b)))) (hK : K' = K := by with_unfolding_all rfl) : WpS K p (tAsg te (gTup K' 2 (gCons (gSub (tVar i) (tC (.int 0)) rSetL) (gCons (gName j) gNil)))) env O := fun H0 Hk0 σ Hk H D g en k => by
  subst hK
  refine h H0 σ Hk H _ g.kr g.po en fun v d Hk' H' g' r ⟨a, b, ed, a0, q⟩ => ?_
  subst ed
  obtain ⟨t, xs, rfl, hT, rx⟩ := dp_tup r
  cases rx with
  | cons r1 r2 =>
    cases r2 with
    | cons r2 r3 =>
      cases r3
      cases r1
      cases r2
      have en' := en.go g'
      obtain ⟨ov, h1, x, rfl, rfl⟩ := en'.slot i _ hi
      obtain ⟨h2, a', c, h3, h4⟩ := g'.po
      have gg := Go.pot g'.kr ⟨h2, a', c, h3, h4⟩ (show PotB a c from ⟨a0, h4.2.1, h4.2.2⟩)
      exact ⟨t, _, rfl, ex_t g'.kr hT, rfl, .int a, _, rfl, .ref x, h1, x, _, 0, 0, rfl, rfl, h3, rfl, .int b, [], rfl, rfl, k.nx _ _ Hk' _ ((g.trans g').trans gg) ((en'.go gg).set (.int b)) q⟩
theorem cb_divmod {r : List V → Hp → VK → Prop} {i j : Int} (c : CDiv i j) (h : Φ (.tuple [.int (i / j), .int (i % j)])) (hr : r = fun xs H Q => ∃ i j, xs = [.int i, .int j] ∧ CDiv i j ∧ ∀ p, H p = none → Q (.ref p) (upd H p (.tup [.int (i / j), .int (i % j)])) := by with_unfolding_all rfl) : CbD K p r [.int i, .int j] Φ := fun vs Hk H Q e po rx k => by
  subst hr
  cases rx with
  | cons r1 rr =>
    cases rr with
    | cons r2 rr =>
      cases rr
      cases r1
      cases r2
      exact ⟨i, j, rfl, c, fun q hq => k _ _ _ _ (Go.new e po hq) (.tup (SqT.of upd_same) (.cons (.int _) (.cons (.int _) .nil))) h⟩
end
end Fw
namespace Fw
open PySem PySem.Spec PyProof.Rows L2 Evl
/-! defs that hand back a new list, which the caller may change -/
def SpN (K : PySem.W.Frag) (pre : List PyData → (List PyData → Prop) → Prop) : Sp := fun vs H Q _ => ∃ (Hk : Hp) (ds : List PyData) (Φ : List PyData → Prop), Ex Hk H ∧ DpAll K Hk vs ds ∧ pre ds Φ ∧
  ∀ l us es Hk' H', Go none Hk H Hk' H' → H l = none → Hk' l = none → H' l = some (.lst us) → DpAll K Hk' us es → Φ es → Q (.ref l) H'
section
variable {K K' : PySem.W.Frag} {p : Option Addr} {env : List Slot} {Φ : PyData → Prop} {te : TE} {O : Outs}
theorem s_retF (h : WpF K p te env O.rf) : WpS K p (tRet te) env O := fun H0 Hk0 σ Hk H D g en k =>
  h H0 σ Hk H _ g.kr g.po en fun l vs ds Hk' H' g' h0 hk hl r f => k.rf l vs ds Hk' H' (g.trans g') (fresh0 g h0) hk hl r f
/-- an own list is handed back -/
theorem s_retO {i : Nat} {ds : List PyData} (hi : env[i]? = some (.own ds)) (q : O.rf ds) : WpS K p (tRet (tVar i)) env O := fun H0 Hk0 σ Hk H D g en k => by
  obtain ⟨ov, h1, l, vs, rfl, h0, hk, hp, hl, r⟩ := en.slot i _ hi
  exact ⟨.ref l, h1, k.rf l vs ds Hk H g h0 hk hl r q⟩
theorem bodyN {pre : List PyData → (List PyData → Prop) → Prop} {N : List Str} {ts : TS} {vs : List V} {H : Hp} {Q : VK} {E : XK} (s : SpN K pre vs H Q E) (h : ∀ ds Φ, pre ds Φ → WpS K none ts (ds.map .dat ++ List.replicate (N.length - ds.length) .no) ⟨fun _ => False, fun _ => False, fun _ => False, fun _ => False, Φ⟩) : ts { nx := fun _ H' => Q .non H', rt := Q } (L2.start N vs) H := by
  obtain ⟨Hk, ds, Φ, e, r, f, k⟩ := s
  exact h ds Φ f H Hk _ Hk H _ (Go.refl e True.intro) (en_start N r) ⟨fun _ _ _ _ _ _ z => z.elim, fun _ _ _ _ _ _ z => z.elim, fun _ _ _ _ _ _ z => z.elim, fun _ _ _ _ _ _ z => z.elim, fun l us es Hk' H' g h0 hk hl r q => k l us es Hk' H' g h0 hk hl r q⟩
theorem lenN {pre : List PyData → (List PyData → Prop) → Prop} {n : Nat} (h : ∀ ds Φ, pre ds Φ → ds.length = n) {vs : List V} {H : Hp} {Q : VK} {E : XK} (s : SpN K pre vs H Q E) : vs.length = n := by
  obtain ⟨Hk, ds, Φ, _, r, f, _⟩ := s
  rw [dpAll_len r]
  exact h ds Φ f
theorem f_call {pre : List PyData → (List PyData → Prop) → Prop} {E : XK} {ta : TA} {Ψ : List PyData → Prop} (h : WpA K p ta env fun ds => pre ds Ψ) : WpF K p (tCall (SpN K pre) [] E ta) env Ψ := fun H0 σ Hk H Q e po en k =>
  h H0 σ Hk H _ e po en fun vs ds Hk1 H1 g1 r f => by
    rw [List.append_nil]
    exact ⟨Hk1, ds, Ψ, g1.kr, r, f, fun l us es Hk' H' g h0 hk hl rd f' => k l us es Hk' H' (g1.trans (g.lift g1.po)) (fresh0 g1 h0) hk hl rd f'⟩
/-- the pot is made: a call with a new list of two ints -/
theorem e_callPot {pre : List PyData → (PyData → Prop) → Prop} {E : XK} (h : WpF K none te env fun ds => ∃ a b : Int, ds = [.int a, .int b] ∧ PotB a b ∧ pre [] Φ) : WpE K none (tCall (SpG K pre) [] E (tCons te tNil)) env Φ := fun H0 σ Hk H Q e po en k =>
  h H0 σ Hk H _ e po en fun l vs ds Hk1 H1 g1 h0 hk hl r ⟨a, b, ed, pb, f⟩ => by
    subst ed
    have ev : vs = [.int a, .int b] := by
      cases r with
      | cons r1 r2 =>
        cases r2 with
        | cons r2 r3 =>
          cases r3
          cases r1
          cases r2
          rfl
    subst ev
    refine ⟨l, [], Hk1, [], Φ, rfl, g1.kr, ⟨hk, a, b, hl, pb⟩, .nil, f, fun v d Hk' H' g rd f' => k v d Hk' H' ?_ rd f'⟩
    refine ⟨g1.kk.trans g.kk, g.kr, fun x o _ hx => ?_, fun x hx hn => ?_, True.intro⟩
    · have hx1 := g1.rr x o (fun z => nomatch z) hx
      exact g.rr x o (fun z => by cases z; rw [h0] at hx; cases hx) hx1
    · exact g.nk x (g1.live hx) (g1.nk x hx hn)
end
/-- the law's own def -/
abbrev pre_law : List PyData → (PyData → Prop) → Prop := fun ds Φ => ∃ ns : List Int, ds = [.list (ns.map .int)] ∧ ns.length ≤ 63 ∧ Φ (.bool true)
theorem lawProm {K : PySem.W.Frag} {H : Hp} {a : Addr} {ns : List Int} (hn : ns.length ≤ 63) (h : SqL K H a (ns.map V.int)) : SpF K pre_law [.ref a] H (fun v _ => v = .bl true) fun _ _ _ => False := by
  refine ⟨H, [.list (ns.map .int)], fun d => d = .bool true, Ex.refl _, .cons (.lst h ?_) .nil, ⟨ns, rfl, hn, rfl⟩, fun v d Hk' H' g rd e => ?_⟩
  · induction ns with
    | nil => exact .nil
    | cons n ns ih => exact .cons (.int n) (ints_all ns)
  · subst e
    exact dp_bl rd
where
  ints_all : ∀ ns : List Int, DpAll K H (ns.map V.int) (ns.map .int)
    | [] => .nil
    | n :: ns => .cons (.int n) (ints_all ns)
end Fw
namespace K11
open PySem PySem.Spec PyProof.Rows L2 Evl
abbrev top (i : Nat) : Stmt := PySem.Challenge.pw_sumroads_k11_whole_rows.main.body.getD i (.Pass ⟨0, 0, 0, 0⟩)
abbrev s_is_integer : Stmt := top 8
abbrev s_are_integers : Stmt := top 9
abbrev s_first_place : Stmt := top 10
abbrev s_put_on : Stmt := top 11
abbrev s_inner : Stmt := top 12
abbrev s_bezout : Stmt := top 13
abbrev s_is_row : Stmt := top 17
abbrev s_check_row : Stmt := top 18
abbrev s_check_two_rows : Stmt := top 19
abbrev s_added : Stmt := top 20
abbrev s_taken : Stmt := top 21
abbrev s_product : Stmt := top 22
abbrev s_head : Stmt := top 23
abbrev s_divisor : Stmt := top 24
abbrev s_divisor_of : Stmt := top 25
abbrev s_share : Stmt := top 26
abbrev s_is_share : Stmt := top 27
abbrev s__law_pot : Stmt := top 29
abbrev s__law_draw : Stmt := top 30
abbrev s__law_is_integer : Stmt := top 31
abbrev s__law_gcd : Stmt := top 32
abbrev s__law_divisor : Stmt := top 33
abbrev s__law_product : Stmt := top 34
abbrev s__law_head : Stmt := top 35
abbrev s__law_number : Stmt := top 36
abbrev s__law_row : Stmt := top 37
abbrev s__law_pair_right : Stmt := top 38
abbrev s__law_row_right : Stmt := top 39
abbrev s__law_right : Stmt := top 40
abbrev s_law : Stmt := top 41
abbrev N_is_integer : List Str := ["value"]
theorem sc_is_integer : FnScope N_is_integer ["value"] (defScope s_is_integer) := ⟨rfl, rfl, rfl, by decide +kernel, rfl, by decide +kernel, by decide +kernel⟩
abbrev N_are_integers : List Str := ["value", "many", "number"]
theorem sc_are_integers : FnScope N_are_integers ["value", "many"] (defScope s_are_integers) := ⟨rfl, rfl, rfl, by decide +kernel, rfl, by decide +kernel, by decide +kernel⟩
abbrev N_first_place : List Str := ["row", "at", "number"]
theorem sc_first_place : FnScope N_first_place ["row"] (defScope s_first_place) := ⟨rfl, rfl, rfl, by decide +kernel, rfl, by decide +kernel, by decide +kernel⟩
abbrev N_put_on : List Str := ["row", "many", "other", "number", "more"]
theorem sc_put_on : FnScope N_put_on ["row", "many", "other"] (defScope s_put_on) := ⟨rfl, rfl, rfl, by decide +kernel, rfl, by decide +kernel, by decide +kernel⟩
abbrev N_inner : List Str := ["row", "other", "number", "by"]
theorem sc_inner : FnScope N_inner ["row", "other"] (defScope s_inner) := ⟨rfl, rfl, rfl, by decide +kernel, rfl, by decide +kernel, by decide +kernel⟩
abbrev N_bezout : List Str := ["one", "other", "ahead", "behind", "times"]
theorem sc_bezout : FnScope N_bezout ["one", "other"] (defScope s_bezout) := ⟨rfl, rfl, rfl, by decide +kernel, rfl, by decide +kernel, by decide +kernel⟩
abbrev N_is_row : List Str := ["value", "number"]
theorem sc_is_row : FnScope N_is_row ["value"] (defScope s_is_row) := ⟨rfl, rfl, rfl, by decide +kernel, rfl, by decide +kernel, by decide +kernel⟩
abbrev N_check_row : List Str := ["value"]
theorem sc_check_row : FnScope N_check_row ["value"] (defScope s_check_row) := ⟨rfl, rfl, rfl, by decide +kernel, rfl, by decide +kernel, by decide +kernel⟩
abbrev N_check_two_rows : List Str := ["one", "other"]
theorem sc_check_two_rows : FnScope N_check_two_rows ["one", "other"] (defScope s_check_two_rows) := ⟨rfl, rfl, rfl, by decide +kernel, rfl, by decide +kernel, by decide +kernel⟩
abbrev N_added : List Str := ["one", "other"]
theorem sc_added : FnScope N_added ["one", "other"] (defScope s_added) := ⟨rfl, rfl, rfl, by decide +kernel, rfl, by decide +kernel, by decide +kernel⟩
abbrev N_taken : List Str := ["row", "many", "number"]
theorem sc_taken : FnScope N_taken ["row", "many"] (defScope s_taken) := ⟨rfl, rfl, rfl, by decide +kernel, rfl, by decide +kernel, by decide +kernel⟩
abbrev N_product : List Str := ["one", "other"]
theorem sc_product : FnScope N_product ["one", "other"] (defScope s_product) := ⟨rfl, rfl, rfl, by decide +kernel, rfl, by decide +kernel, by decide +kernel⟩
abbrev N_head : List Str := ["row"]
theorem sc_head : FnScope N_head ["row"] (defScope s_head) := ⟨rfl, rfl, rfl, by decide +kernel, rfl, by decide +kernel, by decide +kernel⟩
abbrev N_divisor : List Str := ["row"]
theorem sc_divisor : FnScope N_divisor ["row"] (defScope s_divisor) := ⟨rfl, rfl, rfl, by decide +kernel, rfl, by decide +kernel, by decide +kernel⟩
abbrev N_divisor_of : List Str := ["numbers", "common", "number"]
theorem sc_divisor_of : FnScope N_divisor_of ["numbers"] (defScope s_divisor_of) := ⟨rfl, rfl, rfl, by decide +kernel, rfl, by decide +kernel, by decide +kernel⟩
abbrev N_share : List Str := ["row", "common", "parts", "number", "before", "now", "part"]
theorem sc_share : FnScope N_share ["row"] (defScope s_share) := ⟨rfl, rfl, rfl, by decide +kernel, rfl, by decide +kernel, by decide +kernel⟩
abbrev N_is_share : List Str := ["row", "value"]
theorem sc_is_share : FnScope N_is_share ["row", "value"] (defScope s_is_share) := ⟨rfl, rfl, rfl, by decide +kernel, rfl, by decide +kernel, by decide +kernel⟩
abbrev N__law_pot : List Str := ["_law_script", "_law_k", "_law_cell"]
theorem sc__law_pot : FnScope N__law_pot ["_law_script", "_law_k"] (defScope s__law_pot) := ⟨rfl, rfl, rfl, by decide +kernel, rfl, by decide +kernel, by decide +kernel⟩
abbrev N__law_draw : List Str := ["_law_pot_here", "_law_room", "_law_digit"]
theorem sc__law_draw : FnScope N__law_draw ["_law_pot_here", "_law_room"] (defScope s__law_draw) := ⟨rfl, rfl, rfl, by decide +kernel, rfl, by decide +kernel, by decide +kernel⟩
abbrev N__law_is_integer : List Str := ["_law_value"]
theorem sc__law_is_integer : FnScope N__law_is_integer ["_law_value"] (defScope s__law_is_integer) := ⟨rfl, rfl, rfl, by decide +kernel, rfl, by decide +kernel, by decide +kernel⟩
abbrev N__law_gcd : List Str := ["_law_one", "_law_other"]
theorem sc__law_gcd : FnScope N__law_gcd ["_law_one", "_law_other"] (defScope s__law_gcd) := ⟨rfl, rfl, rfl, by decide +kernel, rfl, by decide +kernel, by decide +kernel⟩
abbrev N__law_divisor : List Str := ["_law_row_here", "_law_found", "_law_number_here"]
theorem sc__law_divisor : FnScope N__law_divisor ["_law_row_here"] (defScope s__law_divisor) := ⟨rfl, rfl, rfl, by decide +kernel, rfl, by decide +kernel, by decide +kernel⟩
abbrev N__law_product : List Str := ["_law_one", "_law_other", "_law_near", "_law_far"]
theorem sc__law_product : FnScope N__law_product ["_law_one", "_law_other"] (defScope s__law_product) := ⟨rfl, rfl, rfl, by decide +kernel, rfl, by decide +kernel, by decide +kernel⟩
abbrev N__law_head : List Str := ["_law_row_here", "_law_found", "_law_at", "_law_number_here"]
theorem sc__law_head : FnScope N__law_head ["_law_row_here"] (defScope s__law_head) := ⟨rfl, rfl, rfl, by decide +kernel, rfl, by decide +kernel, by decide +kernel⟩
abbrev N__law_number : List Str := ["_law_pot_here", "_law_way"]
theorem sc__law_number : FnScope N__law_number ["_law_pot_here"] (defScope s__law_number) := ⟨rfl, rfl, rfl, by decide +kernel, rfl, by decide +kernel, by decide +kernel⟩
abbrev N__law_row : List Str := ["_law_pot_here", "_law_many", "_law_found", "_law_turn"]
theorem sc__law_row : FnScope N__law_row ["_law_pot_here", "_law_many"] (defScope s__law_row) := ⟨rfl, rfl, rfl, by decide +kernel, rfl, by decide +kernel, by decide +kernel⟩
abbrev N__law_pair_right : List Str := ["_law_pot_here", "_law_one", "_law_other", "_law_many", "_law_both", "_law_told", "_law_often", "_law_third", "_law_near", "_law_far", "_law_number_here"]
theorem sc__law_pair_right : FnScope N__law_pair_right ["_law_pot_here", "_law_one", "_law_other"] (defScope s__law_pair_right) := ⟨rfl, rfl, rfl, by decide +kernel, rfl, by decide +kernel, by decide +kernel⟩
abbrev N__law_row_right : List Str := ["_law_pot_here", "_law_row_here", "_law_due", "_law_told", "_law_at", "_law_more", "_law_bent", "_law_some", "_law_value", "_law_is_one", "_law_one"]
theorem sc__law_row_right : FnScope N__law_row_right ["_law_pot_here", "_law_row_here"] (defScope s__law_row_right) := ⟨rfl, rfl, rfl, by decide +kernel, rfl, by decide +kernel, by decide +kernel⟩
abbrev N__law_right : List Str := ["_law_pot_here", "_law_turn", "_law_long", "_law_one", "_law_other", "_law_many", "_law_number_here"]
theorem sc__law_right : FnScope N__law_right ["_law_pot_here"] (defScope s__law_right) := ⟨rfl, rfl, rfl, by decide +kernel, rfl, by decide +kernel, by decide +kernel⟩
abbrev N_law : List Str := ["_law_script"]
theorem sc_law : FnScope N_law ["_law_script"] (defScope s_law) := ⟨rfl, rfl, rfl, by decide +kernel, rfl, by decide +kernel, by decide +kernel⟩
structure Tx (mg : Str → Option Value) : Prop where
  isinstance : mg "isinstance" = none
  int : mg "int" = none
  bool : mg "bool" = none
  tuple : mg "tuple" = none
  len : mg "len" = none
  all : mg "all" = none
  enumerate : mg "enumerate" = none
  zip : mg "zip" = none
  sum : mg "sum" = none
  abs : mg "abs" = none
  list : mg "list" = none
  repr : mg "repr" = none
  range : mg "range" = none
  max : mg "max" = none
  divmod : mg "divmod" = none
  MOST_NUMBERS : ∃ t, mg "MOST_NUMBERS" = some (.int 40 t)
  MOST_SIZE : ∃ t, mg "MOST_SIZE" = some (.int 1000000 t)
  gcd : mg "gcd" = some (.builtin "math.gcd")
theorem hu61 {X : Cx} {k : Nat} (hr : Room k X.A) : X.A.units + 61 < cLine := by have := hr.un; omega
theorem hu64 {X : Cx} {k : Nat} (hr : Room k X.A) : X.A.units + 64 < cLine := by have := hr.un; omega
end K11
namespace Fw
open PySem PySem.Spec PyProof.Rows L2 Evl
def isInt : PyData → Bool
  | .int _ => true
  | _ => false
def toI : PyData → Int
  | .int n => n
  | _ => 0
theorem iteB {c : Bool} {A B : Prop} (h1 : c = true → A) (h2 : c = false → B) : if c = true then A else B := by
  cases c with
  | true => exact h1 rfl
  | false => exact h2 rfl
theorem iteNT {A B : Prop} (h : B) : if (!true) = true then A else B := h
theorem iteNF {A B : Prop} (h : A) : if (!false) = true then A else B := h
abbrev swap2 {α : Type} (l : List α) : List α := match l with
  | [a, b] => [b, a]
  | _ => []
abbrev same1 {α : Type} (l : List α) : List α := l
theorem e_callSw {K : PySem.W.Frag} {p : Option Addr} {env : List Slot} {Φ : PyData → Prop} {pre : List PyData → (PyData → Prop) → Prop} {E : XK} {tk : TA} (h : WpA K p tk env fun ds => ∃ a b, ds = [a, b] ∧ pre [b, a] Φ) : WpE K p (tCallK (SpF K pre) (onlyK swap2) E tNil tk) env Φ := fun H0 σ Hk H Q e po en k =>
  h H0 σ Hk H _ e po en fun vs ds Hk1 H1 g1 r ⟨a, b, ed, f⟩ => by
    subst ed
    cases r with
    | cons r1 r2 =>
      cases r2 with
      | cons r2 r3 =>
        cases r3
        exact ⟨Hk1, [b, a], Φ, g1.kr, .cons r2 (.cons r1 .nil), f, fun v d Hk' H' g rd f' => k v d Hk' H' (g1.trans (g.lift g1.po)) rd f'⟩
theorem e_callS1 {K : PySem.W.Frag} {p : Option Addr} {env : List Slot} {Φ : PyData → Prop} {pre : List PyData → (PyData → Prop) → Prop} {E : XK} {tk : TA} (h : WpA K p tk env fun ds => pre ds Φ) : WpE K p (tCallK (SpF K pre) (onlyK same1) E tNil tk) env Φ := fun H0 σ Hk H Q e po en k =>
  h H0 σ Hk H _ e po en fun vs ds Hk1 H1 g1 r f => ⟨Hk1, ds, Φ, g1.kr, r, f, fun v d Hk' H' g rd f' => k v d Hk' H' (g1.trans (g.lift g1.po)) rd f'⟩
theorem e_repL {K : PySem.W.Frag} {p : Option Addr} {env : List Slot} {Φ : PyData → Prop} {ta : TA} {tb : TE} (h : WpA K p ta env fun xs => xs.length ≤ 100 ∧ WpE K p tb env fun y => ∃ k : Int, y = .int k ∧ 0 ≤ k ∧ k ≤ 1000 ∧ Φ (.list (List.replicate k.toNat xs).flatten)) : WpE K p (tOp rRep (tLst ta) tb) env Φ :=
  e_new (f_rep (f_lst fun H0 σ Hk H Q e po en k => h H0 σ Hk H Q e po en fun vs ds Hk' H' g r f => k vs ds Hk' H' g r ⟨by have := f.1; omega, f.2.mono fun y ⟨n, ey, n0, n1, q⟩ => ⟨n, ey, n0, n1, f.1, q⟩⟩))
theorem s_app2 {K K' : PySem.W.Frag} {p : Option Addr} {env : List Slot} {te : TE} {O : Outs} {i : Nat} {ds : List PyData} (hi : env[i]? = some (.own ds)) (h : WpE K p te env fun d => ds.length < 100000 ∧ O.nx (env.set i (.own (ds ++ [d])))) (hK : K' = K := by with_unfolding_all rfl) : WpS K p (tDrop (tBM K' "list" rAppend (tVar i) (tCons te tNil))) env O := s_app_ hi h hK
theorem iteI {m : Int} {A B : Prop} (h : A) : if isInt (.int m) = true then A else B := h
theorem iteNI {m : Int} {A B : Prop} (h : B) : if (!isInt (.int m)) = true then A else B := h
theorem iteD {c : Prop} [Decidable c] {A B : Prop} (hc : c) (h : A) : if decide c = true then A else B := by
  rw [decide_eq_true hc]
  exact h
theorem iteDF {c : Prop} [Decidable c] {A B : Prop} (hc : ¬ c) (h : B) : if decide c = true then A else B := by
  rw [decide_eq_false hc]
  exact h
theorem iteND {c : Prop} [Decidable c] {A B : Prop} (hc : c) (h : B) : if (!decide c) = true then A else B := by
  rw [decide_eq_true hc]
  exact h
theorem iteNDF {c : Prop} [Decidable c] {A B : Prop} (hc : ¬ c) (h : A) : if (!decide c) = true then A else B := by
  rw [decide_eq_false hc]
  exact h
theorem iteP {c : Prop} [Decidable c] {A B : Prop} (h1 : c → A) (h2 : ¬ c → B) : if decide c = true then A else B := by
  by_cases h : c
  · exact iteD h (h1 h)
  · exact iteDF h (h2 h)
theorem iteNP {c : Prop} [Decidable c] {A B : Prop} (h1 : ¬ c → A) (h2 : c → B) : if (!decide c) = true then A else B := by
  by_cases h : c
  · exact iteND h (h2 h)
  · exact iteNDF h (h1 h)
theorem zip_ints (f : Int → Int → Int) : ∀ xs ys : List Int, List.zipWith (fun a b => PyData.int (f (toI a) (toI b))) (xs.map .int) (ys.map .int) = (List.zipWith f xs ys).map .int
  | [], _ => rfl
  | _ :: _, [] => rfl
  | x :: xs, y :: ys => by
    show PyData.int (f x y) :: List.zipWith (fun a b => PyData.int (f (toI a) (toI b))) (xs.map .int) (ys.map .int) = .int (f x y) :: (List.zipWith f xs ys).map .int
    rw [zip_ints f xs ys]
theorem s_dict {K : PySem.W.Frag} {p : Option Addr} {env : List Slot} {t : TS} {O : Outs} (i : Nat) {kvs : List (PyData × PyData)} (h : env[i]? = some (.dat (.dict kvs))) : WpS K p t env O := fun H0 Hk0 σ Hk H D g en k => by
  obtain ⟨ov, _, v, _, r⟩ := en.slot i _ h
  cases r
theorem e_dict {K : PySem.W.Frag} {p : Option Addr} {env : List Slot} {t : TE} {Φ : PyData → Prop} (i : Nat) {kvs : List (PyData × PyData)} (h : env[i]? = some (.dat (.dict kvs))) : WpE K p t env Φ := fun H0 σ Hk H Q e po en k => by
  obtain ⟨ov, _, v, _, r⟩ := en.slot i _ h
  cases r
section
variable {K K' K2 : PySem.W.Frag} {p : Option Addr} {env : List Slot} {te : TE} {Φ : PyData → Prop}
theorem e_mapT {i j : Nat} {vs : List Nat} {xs : List PyData} (f : PyData → PyData) (hi : env[i]? = some (.dat (.tuple xs))) (hz : xs.length ≤ 100000) (hs : ∀ x ∈ xs, WpE K p te ((wipeE env vs).set j (.dat x)) (fun y => y = f x)) (q : Φ (.list (xs.map f))) (hj : j ∈ vs := by decide) (hK : K' = K := by with_unfolding_all rfl) :
    WpE K p (tLc (iTup K' (tVar i)) (gName j) tYes te vs) env Φ :=
  e_map (js := [j]) (fun k hk => by rw [List.mem_singleton.mp hk]; exact hj) (i_tup_ (e_var hi ⟨xs, rfl, hz, f, fun i x hx => g_name (hs x (List.mem_of_getElem? hx)), q⟩) hK)
theorem e_relT {i j : Nat} {vs : List Nat} {xs : List PyData} (R : PyData → PyData → Prop) (hi : env[i]? = some (.dat (.tuple xs))) (hz : xs.length ≤ 100000) (hs : ∀ x ∈ xs, WpE K p te ((wipeE env vs).set j (.dat x)) (fun y => R x y)) (q : ∀ ys : List PyData, ys.length = xs.length → (∀ (i : Nat) (x y : PyData), xs[i]? = some x → ys[i]? = some y → R x y) → Φ (.list ys)) (hj : j ∈ vs := by decide) (hK : K' = K := by with_unfolding_all rfl) :
    WpE K p (tLc (iTup K' (tVar i)) (gName j) tYes te vs) env Φ :=
  e_rel (js := [j]) (fun k hk => by rw [List.mem_singleton.mp hk]; exact hj) (i_tup_ (e_var hi ⟨xs, rfl, hz, R, fun i x hx => g_name (hs x (List.mem_of_getElem? hx)), q⟩) hK)
theorem f_map {wi : TI} {g : TG} {vs js : List Nat} {Φ : List PyData → Prop} (hs : ∀ j ∈ js, j ∈ vs) (h : WpI K p wi env fun xs => xs.length ≤ 100000 ∧ ∃ f : PyData → PyData, (∀ (i : Nat) (x : PyData), xs[i]? = some x → WpG K p js g x (wipeE env vs) fun env2 => WpE K p te env2 (fun y => y = f x)) ∧ Φ (xs.map f)) : WpF K p (tLc wi g tYes te vs) env Φ :=
  f_lc hs fun H0 σ Hk H R e po en k => h H0 σ Hk H R e po en fun J xs Hk' H' g it ⟨hz, f, step, last⟩ => k J xs Hk' H' g it ⟨hz, fun i acc => acc = (xs.take i).map f, rfl, fun i x acc hx inv _ => fun H0 σ Hk H v Q e po en r k =>
    step i x hx H0 σ Hk H v Q e po en r fun σ' env' en' same f' => k σ' env' en' same (t_yes (show WpE K p _ env' _ from f'.mono fun y hy => by
      rw [inv, hy]
      show (xs.take i).map f ++ [f x] = (xs.take (i + 1)).map f
      rw [List.take_add_one, hx, List.map_append]
      rfl)), fun acc _ inv => by
      rw [inv, List.take_length]
      exact last⟩
theorem f_mapL {i j : Nat} {vs : List Nat} {xs : List PyData} {Φ : List PyData → Prop} (f : PyData → PyData) (hi : env[i]? = some (.dat (.list xs))) (hz : xs.length ≤ 100000) (hs : ∀ x ∈ xs, WpE K p te ((wipeE env vs).set j (.dat x)) (fun y => y = f x)) (q : Φ (xs.map f)) (hj : j ∈ vs := by decide) (hK : K' = K := by with_unfolding_all rfl) :
    WpF K p (tLc (iList K' (tVar i)) (gName j) tYes te vs) env Φ :=
  f_map (js := [j]) (fun k hk => by rw [List.mem_singleton.mp hk]; exact hj) (i_list_ (e_var hi ⟨xs, rfl, hz, f, fun i x hx => g_name (hs x (List.mem_of_getElem? hx)), q⟩) hK)
theorem s_nil {O : Outs} {i : Nat} (h : O.nx (env.set i (.own []))) : WpS K p (tAsg (tLst tNil) (gName i)) env O := s_ownF (f_lst (a_nil ⟨Nat.zero_le _, h⟩))
theorem map_zipD (f : PyData → PyData → PyData) (g : PyData → PyData) (hg : ∀ a b, g (.tuple [a, b]) = f a b) : ∀ xs ys : List PyData, (zipD xs ys).map g = List.zipWith f xs ys
  | [], _ => rfl
  | _ :: _, [] => rfl
  | x :: xs, y :: ys => by
    show g (.tuple [x, y]) :: (zipD xs ys).map g = f x y :: List.zipWith f xs ys
    rw [hg, map_zipD f g hg xs ys]
theorem zipD_mem {xs ys : List PyData} {i : Nat} {x : PyData} (h : (zipD xs ys)[i]? = some x) : ∃ a b, x = .tuple [a, b] ∧ a ∈ xs ∧ b ∈ ys := by
  unfold zipD at h
  rw [List.getElem?_zipWith] at h
  cases h1 : xs[i]? with
  | none => rw [h1] at h; cases h
  | some a =>
    cases h2 : ys[i]? with
    | none => rw [h1, h2] at h; cases h
    | some b =>
      rw [h1, h2] at h
      cases h
      exact ⟨a, b, rfl, List.mem_of_getElem? h1, List.mem_of_getElem? h2⟩
def pairF (f : PyData → PyData → PyData) : PyData → PyData
  | .tuple [a, b] => f a b
  | d => d
theorem e_mapZ {i1 i2 j1 j2 : Nat} {vs : List Nat} {xs ys : List PyData} (f : PyData → PyData → PyData) (h1 : env[i1]? = some (.dat (.tuple xs))) (h2 : env[i2]? = some (.dat (.tuple ys))) (hz : xs.length ≤ 100000)
    (hs : ∀ a b, a ∈ xs → b ∈ ys → WpE K p te (((wipeE env vs).set j1 (.dat a)).set j2 (.dat b)) (fun y => y = f a b)) (q : Φ (.list (List.zipWith f xs ys))) (hj1 : j1 ∈ vs := by decide) (hj2 : j2 ∈ vs := by decide) (hK : K' = K := by with_unfolding_all rfl) (hK2 : K2 = K := by with_unfolding_all rfl) :
    WpE K p (tLc (RZ.iZipA K' (tCons (tVar i1) (tCons (tVar i2) tNil))) (gTup K2 2 (gCons (gName j1) (gCons (gName j2) gNil))) tYes te vs) env Φ := by
  refine e_map (js := [j1] ++ ([j2] ++ [])) (fun k hk => ?_) (i_zipT_ (a_cons (e_var h1 (a_cons (e_var h2 (a_nil ⟨xs, ys, rfl, ?_, pairF f, fun i x hx => ?_, ?_⟩))))) hK)
  · simp only [List.append_nil, List.singleton_append, List.mem_cons, List.not_mem_nil, or_false] at hk
    rcases hk with rfl | rfl
    · exact hj1
    · exact hj2
  · rw [zipD_len]
    omega
  · obtain ⟨a, b, rfl, ha, hb⟩ := zipD_mem hx
    exact g_tup_ [a, b] rfl rfl (g_cons (g_name (g_cons (g_name (g_nil (hs a b ha hb)))))) hK2
  · rw [map_zipD f (pairF f) (fun _ _ => rfl)]
    exact q
end
/-! ### ints in data -/
abbrev tupI (ns : List Int) : PyData := .tuple (ns.map .int)
theorem ints_of : ∀ {xs : List PyData}, xs.all isInt = true → xs = (xs.map toI).map .int
  | [], _ => rfl
  | x :: xs, h => by
    rw [List.all_cons, Bool.and_eq_true] at h
    cases x with
    | int n =>
      have ih := ints_of h.2
      show PyData.int n :: xs = PyData.int n :: (xs.map toI).map .int
      rw [← ih]
    | _ => cases h.1
theorem all_ints (ns : List Int) : (ns.map PyData.int).all isInt = true := by
  rw [List.all_map]
  exact List.all_eq_true.mpr fun _ _ => rfl
theorem map_bools {f : PyData → Bool} (xs : List PyData) : xs.map (fun x => PyData.bool (f x)) = (xs.map f).map .bool := by rw [List.map_map]; rfl
theorem all_map_id {α : Type} (f : α → Bool) (xs : List α) : (xs.map f).all id = xs.all f := by rw [List.all_map]; rfl
/-! ### rows -/
def putOn (row : List Int) (m : Int) (other : List Int) : List Int := List.zipWith (fun a b => a + m * b) row other
def innerI (row other : List Int) : Int := (List.zipWith (fun a b => a * b) row other).sum
def gcdL (ns : List Int) : Int := ns.foldl (fun c n => ((Nat.gcd c.natAbs n.natAbs : Nat) : Int)) 0
def firstD (ns : List Int) : PyData := match ns.findIdx? (fun n => decide (n ≠ 0)) with
  | none => .none
  | some i => .int (i : Nat)
def areInts (x : PyData) (n : Int) : Bool := match x with
  | .tuple xs => decide ((xs.length : Int) = n) && xs.all isInt
  | _ => false
structure IsRow (ns : List Int) : Prop where
  one : 1 ≤ ns.length
  most : ns.length ≤ 40
  size : ∀ n ∈ ns, -1000000 ≤ n ∧ n ≤ 1000000
def isShare (ns : List Int) (v : PyData) : Bool := areInts v ns.length && (match v with
  | .tuple xs => decide (innerI ns (xs.map toI) = gcdL ns)
  | _ => false)
theorem zipD_ints (f : Int → Int → Int) (g : PyData → PyData) (hg : ∀ a b, g (.tuple [.int a, .int b]) = .int (f a b)) : ∀ xs ys : List Int, (zipD (xs.map .int) (ys.map .int)).map g = (List.zipWith f xs ys).map .int
  | [], _ => rfl
  | _ :: _, [] => rfl
  | x :: xs, y :: ys => by
    show g (.tuple [.int x, .int y]) :: (zipD (xs.map .int) (ys.map .int)).map g = .int (f x y) :: (List.zipWith f xs ys).map .int
    rw [hg, zipD_ints f g hg xs ys]
theorem zipD_at {xs ys : List Int} {i : Nat} {x : PyData} (h : (zipD (xs.map .int) (ys.map .int))[i]? = some x) : ∃ a b, x = .tuple [.int a, .int b] ∧ a ∈ xs ∧ b ∈ ys := by
  unfold zipD at h
  rw [List.getElem?_zipWith, List.getElem?_map, List.getElem?_map] at h
  cases h1 : xs[i]? with
  | none => rw [h1] at h; cases h
  | some a =>
    cases h2 : ys[i]? with
    | none => rw [h1, h2] at h; cases h
    | some b =>
      rw [h1, h2] at h
      cases h
      exact ⟨a, b, rfl, List.mem_of_getElem? h1, List.mem_of_getElem? h2⟩
end Fw
namespace K11
open PySem PySem.Spec PyProof.Rows L2 Evl Fw
abbrev Pre := List PyData → (PyData → Prop) → Prop
abbrev pre_is_integer : Pre := fun ds Φ => ∃ x, ds = [x] ∧ Φ (.bool (isInt x))
abbrev pre__law_is_integer : Pre := pre_is_integer
abbrev pre_are_integers : Pre := fun ds Φ => ∃ (x : PyData) (n : Int), ds = [x, .int n] ∧ (∀ xs, x = .tuple xs → xs.length ≤ 1000) ∧ Φ (.bool (areInts x n))
abbrev pre_first_place : Pre := fun ds Φ => ∃ ns : List Int, ds = [tupI ns] ∧ ns.length ≤ 1000 ∧ Φ (firstD ns)
abbrev pre_put_on : Pre := fun ds Φ => ∃ (row : List Int) (m : Int) (other : List Int), ds = [tupI row, .int m, tupI other] ∧ -(2 ^ 64) < m ∧ m < 2 ^ 64 ∧ row.length ≤ 1000 ∧ Φ (tupI (putOn row m other))
abbrev pre_inner : Pre := fun ds Φ => ∃ row other : List Int, ds = [tupI row, tupI other] ∧ (∀ a ∈ row, -1000000 ≤ a ∧ a ≤ 1000000) ∧ row.length ≤ 1000 ∧ Φ (.int (innerI row other))
abbrev pre__law_product : Pre := pre_inner
abbrev pre_bezout : Pre := fun ds Φ => ∃ a b : Int, ds = [.int a, .int b] ∧ a.natAbs < 1000000000 ∧ b.natAbs < 1000000000 ∧ ∀ g s t : Int, g = s * a + t * b → g = ((Nat.gcd a.natAbs b.natAbs : Nat) : Int) → s.natAbs < 1000000000 → Φ (.tuple [.int g, .int s, .int t])
abbrev pre_is_row : Pre := fun ds Φ => ∃ ns, ds = [tupI ns] ∧ IsRow ns ∧ Φ (.bool true)
abbrev pre_check_row : Pre := fun ds Φ => ∃ ns, ds = [tupI ns] ∧ IsRow ns ∧ Φ .none
abbrev pre_check_two_rows : Pre := fun ds Φ => ∃ ns ms, ds = [tupI ns, tupI ms] ∧ IsRow ns ∧ IsRow ms ∧ ns.length = ms.length ∧ Φ .none
abbrev pre_added : Pre := fun ds Φ => ∃ ns ms, ds = [tupI ns, tupI ms] ∧ IsRow ns ∧ IsRow ms ∧ ns.length = ms.length ∧ Φ (tupI (putOn ns 1 ms))
abbrev pre_taken : Pre := fun ds Φ => ∃ (ns : List Int) (m : Int), ds = [tupI ns, .int m] ∧ IsRow ns ∧ -1000000 ≤ m ∧ m ≤ 1000000 ∧ Φ (tupI (ns.map (· * m)))
abbrev pre_product : Pre := fun ds Φ => ∃ ns ms, ds = [tupI ns, tupI ms] ∧ IsRow ns ∧ IsRow ms ∧ ns.length = ms.length ∧ Φ (.int (innerI ns ms))
abbrev pre_head : Pre := fun ds Φ => ∃ ns, ds = [tupI ns] ∧ IsRow ns ∧ Φ (firstD ns)
abbrev pre_divisor : Pre := fun ds Φ => ∃ ns, ds = [tupI ns] ∧ IsRow ns ∧ Φ (.int (gcdL ns))
abbrev pre_divisor_of : Pre := fun ds Φ => ∃ ns : List Int, ds = [tupI ns] ∧ Φ (.int (gcdL ns))
abbrev pre__law_divisor : Pre := pre_divisor_of
abbrev pre_share : Pre := fun ds Φ => ∃ ns, ds = [tupI ns] ∧ IsRow ns ∧ ∀ ps : List Int, ps.length = ns.length → innerI ns ps = gcdL ns → Φ (tupI ps)
abbrev pre_is_share : Pre := fun ds Φ => ∃ (ns : List Int) (v : PyData), ds = [tupI ns, v] ∧ IsRow ns ∧ (∀ xs, v = .tuple xs → xs.length ≤ 1000) ∧ Φ (.bool (isShare ns v))
abbrev pre__law_gcd : Pre := fun ds Φ => ∃ a b : Int, ds = [.int a, .int b] ∧ Φ (.int ((Nat.gcd a.natAbs b.natAbs : Nat) : Int))
abbrev pre__law_head : Pre := fun ds Φ => ∃ ns : List Int, ds = [tupI ns] ∧ ns.length ≤ 1000 ∧ Φ (firstD ns)
abbrev pre__law_draw : Pre := fun ds Φ => ∃ n : Int, ds = [.int n] ∧ 1 ≤ n ∧ n < 1000000000 ∧ ∀ r : Int, 0 ≤ r → r < n → Φ (.int r)
abbrev pre__law_number : Pre := fun ds Φ => ds = [] ∧ ∀ r : Int, -999 ≤ r → r ≤ 999 → Φ (.int r)
abbrev pre__law_row : Pre := fun ds Φ => ∃ n : Nat, ds = [.int n] ∧ n ≤ 100 ∧ ∀ ns : List Int, ns.length = n → (∀ m ∈ ns, -999 ≤ m ∧ m ≤ 999) → Φ (tupI ns)
structure IsSmall (ns : List Int) : Prop where
  one : 1 ≤ ns.length
  most : ns.length ≤ 6
  size : ∀ n ∈ ns, -8991 ≤ n ∧ n ≤ 8991
abbrev pre__law_pair_right : Pre := fun ds Φ => ∃ ns ms, ds = [tupI ns, tupI ms] ∧ IsSmall ns ∧ IsSmall ms ∧ ns.length = ms.length ∧ Φ (.bool true)
abbrev pre__law_row_right : Pre := fun ds Φ => ∃ ns, ds = [tupI ns] ∧ IsSmall ns ∧ Φ (.bool true)
abbrev pre__law_pot : List PyData → (List PyData → Prop) → Prop := fun ds Φ => ∃ ns : List Int, ds = [.list (ns.map .int), .int 0] ∧ ns.length ≤ 63 ∧ ∀ a b : Int, PotB a b → Φ [.int a, .int b]
abbrev pre__law_right : Pre := fun ds Φ => ds = [] ∧ Φ (.bool true)
end K11
namespace K11
/-! ### the extended Euclid -/
theorem abs_le_diff {x y : Int} (h : x * y ≤ 0) : x.natAbs ≤ (x - y).natAbs := by
  rcases Int.lt_trichotomy x 0 with hx | hx | hx
  · have hy : 0 ≤ y := by
      rcases (show y < 0 ∨ 0 ≤ y by omega) with hy | hy
      · have := Int.mul_pos_of_neg_of_neg hx hy
        omega
      · exact hy
    omega
  · subst hx; simp
  · have hy : y ≤ 0 := by
      rcases (show 0 < y ∨ y ≤ 0 by omega) with hy | hy
      · have := Int.mul_pos hx hy
        omega
      · exact hy
    omega
theorem le_mul_abs {s r : Int} (h : r ≠ 0) : s.natAbs ≤ (s * r).natAbs := by
  rw [Int.natAbs_mul]
  exact Nat.le_mul_of_pos_right _ (Int.natAbs_pos.mpr h)
theorem fmod_small {a b : Int} (h : b ≠ 0) : (a.fmod b).natAbs < b.natAbs ∧ 0 ≤ b * a.fmod b := by
  rcases Int.lt_or_gt_of_ne h with hb | hb
  · have e : a.fmod b = -((-a).fmod (-b)) := by rw [Int.neg_fmod_neg]; omega
    have p : 0 < -b := by omega
    have h1 := Int.fmod_nonneg_of_pos (-a) p
    have h2 := Int.fmod_lt_of_pos (-a) p
    refine ⟨by omega, ?_⟩
    rw [e, Int.mul_neg, ← Int.neg_mul]
    exact Int.mul_nonneg (by omega) h1
  · have h1 := Int.fmod_nonneg_of_pos a hb
    have h2 := Int.fmod_lt_of_pos a hb
    exact ⟨by omega, Int.mul_nonneg (by omega) h1⟩
theorem fdiv_pos {a b : Int} (h : b ≠ 0) (s : 0 ≤ a * b) : 0 ≤ a.fdiv b := by
  rcases Int.lt_or_gt_of_ne h with hb | hb
  · have ha : a ≤ 0 := by
      rcases (show 0 < a ∨ a ≤ 0 by omega) with q | q
      · have := Int.mul_neg_of_pos_of_neg q hb
        omega
      · exact q
    rw [← Int.neg_fdiv_neg]
    exact Int.fdiv_nonneg (by omega) (by omega)
  · have ha : 0 ≤ a := by
      rcases (show a < 0 ∨ 0 ≤ a by omega) with q | q
      · have := Int.mul_neg_of_neg_of_pos q hb
        omega
      · exact q
    exact Int.fdiv_nonneg ha (by omega)
structure Bz (a b r0 s0 t0 r1 s1 t1 : Int) : Prop where
  e0 : r0 = s0 * a + t0 * b
  e1 : r1 = s1 * a + t1 * b
  g : Nat.gcd r0.natAbs r1.natAbs = Nat.gcd a.natAbs b.natAbs
  b0 : r0.natAbs < 1000000000
  b1 : r1.natAbs < 1000000000
  bs : s0.natAbs < 1000000000
  bb : b.natAbs < 1000000000
  run : (s0 = 1 ∧ s1 = 0 ∧ r1 = b) ∨ ((s1 * r0 - s0 * r1 = b ∨ s1 * r0 - s0 * r1 = -b) ∧ s0 * s1 ≤ 0 ∧ 0 ≤ r0 * r1 ∧ r0 ≠ 0)
theorem Bz.start {a b : Int} (ha : a.natAbs < 1000000000) (hb : b.natAbs < 1000000000) : Bz a b a 1 0 b 0 1 :=
  ⟨by omega, by omega, rfl, ha, hb, by decide, hb, .inl ⟨rfl, rfl, rfl⟩⟩
theorem gcd_step {r0 r1 q : Int} : Nat.gcd r1.natAbs (r0 - q * r1).natAbs = Nat.gcd r0.natAbs r1.natAbs := by
  have h : Int.gcd r1 (r0 - q * r1) = Int.gcd r0 r1 := by
    rw [Int.gcd_comm r0 r1]
    have e : r0 - q * r1 = r0 + (-q) * r1 := by rw [Int.neg_mul]; omega
    rw [e, Int.gcd_add_mul_right_right]
  exact h
theorem Bz.step {a b r0 s0 t0 r1 s1 t1 : Int} (h : Bz a b r0 s0 t0 r1 s1 t1) (hr : r1 ≠ 0) : Bz a b r1 s1 t1 (r0 + -(r0.fdiv r1) * r1) (s0 + -(r0.fdiv r1) * s1) (t0 + -(r0.fdiv r1) * t1) ∧ (r0 + -(r0.fdiv r1) * r1).natAbs < r1.natAbs := by
  have em : r0 + -(r0.fdiv r1) * r1 = r0.fmod r1 := by
    rw [Int.fmod_def, Int.neg_mul, Int.mul_comm r1]
    omega
  obtain ⟨m1, m2⟩ := fmod_small (a := r0) hr
  have hs1 : s1.natAbs < 1000000000 := by
    rcases h.run with ⟨_, q, _⟩ | ⟨d, sg, _, r00⟩
    · rw [q]; decide
    · have h1 := le_mul_abs (s := s1) r00
      have h2 : (s1 * r0).natAbs ≤ (s1 * r0 - s0 * r1).natAbs := abs_le_diff (by
        have e : s1 * r0 * (s0 * r1) = (s0 * s1) * (r0 * r1) := by
          rw [Int.mul_assoc, Int.mul_assoc, ← Int.mul_assoc r0, Int.mul_comm r0 s0, Int.mul_assoc s0 r0 r1, ← Int.mul_assoc s1 s0, Int.mul_comm s1 s0, Int.mul_assoc]
        rw [e]
        exact Int.mul_nonpos_of_nonpos_of_nonneg sg (by assumption))
      have h3 : (s1 * r0 - s0 * r1).natAbs = b.natAbs := by rcases d with d | d <;> omega
      have := h.bb
      omega
  refine ⟨⟨h.e1, ?_, ?_, h.b1, ?_, hs1, h.bb, .inr ⟨?_, ?_, ?_, hr⟩⟩, by rw [em]; exact m1⟩
  · generalize r0.fdiv r1 = q
    have e0 := h.e0
    have e1 := h.e1
    rw [Int.add_mul, Int.add_mul, Int.mul_assoc, Int.mul_assoc]
    have : -q * r1 = -q * (s1 * a) + -q * (t1 * b) := by rw [← Int.mul_add, ← e1]
    omega
  · have := gcd_step (r0 := r0) (r1 := r1) (q := r0.fdiv r1)
    have e : r0 + -(r0.fdiv r1) * r1 = r0 - r0.fdiv r1 * r1 := by rw [Int.neg_mul]; omega
    rw [e, this, h.g]
  · rw [em]
    have := h.b1
    omega
  · have d : s1 * r0 - s0 * r1 = b ∨ s1 * r0 - s0 * r1 = -b := by
      rcases h.run with ⟨q1, q2, q3⟩ | ⟨d, _⟩
      · right
        rw [q1, q2, q3]
        omega
      · exact d
    generalize r0.fdiv r1 = q
    have e : (s0 + -q * s1) * r1 - s1 * (r0 + -q * r1) = -(s1 * r0 - s0 * r1) := by
      rw [Int.add_mul, Int.mul_add, ← Int.mul_assoc s1 (-q) r1, Int.mul_comm s1 (-q)]
      omega
    rw [e]
    omega
  · rcases h.run with ⟨_, q2, _⟩ | ⟨_, sg, rr, _⟩
    · rw [q2]; simp
    · have hq := fdiv_pos hr rr
      have h2 : 0 ≤ s1 * s1 := by
        rcases Int.le_total 0 s1 with z | z
        · exact Int.mul_nonneg z z
        · exact Int.mul_nonneg_of_nonpos_of_nonpos z z
      have h3 := Int.mul_nonneg hq h2
      generalize r0.fdiv r1 = q at h3
      have e : s1 * (s0 + -q * s1) = s0 * s1 - q * (s1 * s1) := by
        rw [Int.mul_add, Int.mul_comm s1 s0, Int.neg_mul, Int.mul_neg, ← Int.mul_assoc s1 q s1, Int.mul_comm s1 q, Int.mul_assoc]
        omega
      rw [e]
      omega
  · rw [em]
    exact m2
theorem Bz.last {a b r0 s0 t0 s1 t1 : Int} (h : Bz a b r0 s0 t0 0 s1 t1) : r0.natAbs = Nat.gcd a.natAbs b.natAbs := by
  have := h.g
  simpa using this
end K11
namespace K11
theorem fdiv_abs {a b : Int} : (a.fdiv b).natAbs ≤ a.natAbs := by
  rcases Int.lt_trichotomy b 0 with hb | hb | hb
  · have key : ∀ a c : Int, 0 < c → (a.fdiv c).natAbs ≤ a.natAbs := fun a c hc => by
      rw [Int.fdiv_eq_ediv_of_nonneg a (by omega)]
      exact Int.natAbs_ediv_le_natAbs a c
    have := key (-a) (-b) (by omega)
    rw [Int.neg_fdiv_neg] at this
    omega
  · subst hb; simp
  · rw [Int.fdiv_eq_ediv_of_nonneg a (by omega)]
    exact Int.natAbs_ediv_le_natAbs a b

open PySem Fw
theorem gcdL_succ {ns : List Int} {i : Nat} {n : Int} (h : ns[i]? = some n) : gcdL (ns.take (i + 1)) = ((Nat.gcd (gcdL (ns.take i)).natAbs n.natAbs : Nat) : Int) := by
  unfold gcdL
  rw [List.take_add_one, h, List.foldl_append]
  rfl
theorem gcdL_nonneg (ns : List Int) (i : Nat) (hi : i ≤ ns.length) : 0 ≤ gcdL (ns.take i) := by
  cases i with
  | zero => exact Int.le_refl 0
  | succ i =>
    rw [gcdL_succ (List.getElem?_eq_getElem (show i < ns.length by omega))]
    omega
theorem gcdL_le {ns : List Int} (hs : ∀ n ∈ ns, -1000000 ≤ n ∧ n ≤ 1000000) : ∀ i, i ≤ ns.length → gcdL (ns.take i) ≤ 1000000
  | 0, _ => by show (0 : Int) ≤ 1000000; decide
  | i + 1, hi => by
    have hlt : i < ns.length := by omega
    have ih := gcdL_le hs i (by omega)
    have nn := gcdL_nonneg ns i (by omega)
    have hn := hs _ (List.getElem_mem hlt)
    rw [gcdL_succ (List.getElem?_eq_getElem hlt)]
    by_cases z : ns[i] = 0
    · rw [z]
      simp
      omega
    · have := Nat.gcd_le_right (gcdL (ns.take i)).natAbs (n := ns[i].natAbs) (by omega)
      omega
theorem inner_nil : innerI [] [] = 0 := rfl
theorem inner_app : ∀ {xs ys : List Int} {x y : Int}, xs.length = ys.length → innerI (xs ++ [x]) (ys ++ [y]) = innerI xs ys + x * y
  | [], [], x, y, _ => by
    show x * y + 0 = 0 + x * y
    omega
  | a :: xs, b :: ys, x, y, h => by
    have ih := inner_app (xs := xs) (ys := ys) (x := x) (y := y) (by simpa using h)
    show a * b + innerI (xs ++ [x]) (ys ++ [y]) = a * b + innerI xs ys + x * y
    rw [ih]
    omega
  | [], _ :: _, _, _, h => by cases h
  | _ :: _, [], _, _, h => by cases h
theorem inner_times (s : Int) : ∀ xs ys : List Int, innerI xs (ys.map (· * s)) = innerI xs ys * s
  | [], _ => by show (0 : Int) = 0 * s; omega
  | _ :: _, [] => by show (0 : Int) = 0 * s; omega
  | x :: xs, y :: ys => by
    show x * (y * s) + innerI xs (ys.map (· * s)) = (x * y + innerI xs ys) * s
    rw [inner_times s xs ys, Int.add_mul, Int.mul_assoc]
theorem gcd_of_fmod {c n : Int} (h : n.fmod c = 0) (hc : 0 ≤ c) : ((Nat.gcd c.natAbs n.natAbs : Nat) : Int) = c := by
  have e : n = c * n.fdiv c := by
    have := Int.fmod_def n c
    omega
  have d : c.natAbs ∣ n.natAbs := Int.natAbs_dvd_natAbs.mpr ⟨_, e⟩
  rw [Nat.gcd_eq_left d]
  omega
theorem flat_ints (g : PyData → Int) : ∀ xs : List PyData, flatAllD (xs.map fun y => .int (g y)) = true
  | [] => rfl
  | x :: xs => by
    show (true && flatAllD (xs.map fun y => .int (g y))) = true
    rw [flat_ints g xs]
    rfl
theorem take_map_succ {ns : List Int} {i : Nat} {n : Int} (h : ns[i]? = some n) : ns.take (i + 1) = ns.take i ++ [n] := by
  rw [List.take_add_one, h]
  rfl
end K11
namespace Fw
open PySem PySem.Spec PyProof.Rows L2 Evl
/-! ### data that can be shown and compared -/
structure Tm (d : PyData) (k b : Nat) : Prop where
  sh : d.showable = true
  nd : d.hasDict = false
  cl : d.canLay0 = true
  ls : d.leavesShort 13 = true
  dp : d.depth ≤ k
  bk : d.bulk ≤ b
theorem tm_int {i : Int} (h1 : -999999999999 ≤ i) (h2 : i ≤ 999999999999) : Tm (.int i) 0 0 := by
  have e := PyData.shown_int_le2 h1 h2
  refine ⟨?_, rfl, rfl, ?_, Nat.le_refl _, Nat.le_refl _⟩
  · show decide (i.natAbs.log2 < 1920) = true
    have : i.natAbs.log2 < 40 := by
      by_cases z : i.natAbs = 0
      · rw [z]; decide
      · rw [Nat.log2_lt z]
        omega
    exact decide_eq_true (by omega)
  · show decide ((PyData.shown (.int i)).length ≤ 13) = true
    exact decide_eq_true e
theorem tm_none : Tm .none 0 0 := ⟨rfl, rfl, rfl, rfl, Nat.le_refl _, Nat.le_refl _⟩
theorem tm_bool {b : Bool} : Tm (.bool b) 0 0 := ⟨rfl, rfl, rfl, rfl, Nat.le_refl _, Nat.le_refl _⟩
structure TmAll (xs : List PyData) (k b : Nat) : Prop where
  sh : PyData.showableAll xs = true
  nd : PyData.hasDictAll xs = false
  cl : PyData.canLayAll0 xs = true
  ls : PyData.leavesShortAll 13 xs = true
  dp : PyData.depthAll xs ≤ k
  bk : PyData.bulkAll xs ≤ xs.length * (b + 1)
theorem tm_all {k b : Nat} : ∀ {xs : List PyData}, (∀ x ∈ xs, Tm x k b) → TmAll xs k b
  | [], _ => ⟨rfl, rfl, rfl, rfl, Nat.zero_le _, Nat.zero_le _⟩
  | x :: xs, h => by
    have h1 := h x List.mem_cons_self
    have h2 := tm_all fun y hy => h y (List.mem_cons_of_mem _ hy)
    have e : (x :: xs).length * (b + 1) = xs.length * (b + 1) + (b + 1) := by rw [List.length_cons, Nat.add_mul, Nat.one_mul]
    refine ⟨?_, ?_, ?_, ?_, ?_, ?_⟩
    · show (x.showable && PyData.showableAll xs) = true
      rw [h1.sh, h2.sh]; rfl
    · show (x.hasDict || PyData.hasDictAll xs) = false
      rw [h1.nd, h2.nd]; rfl
    · show (x.canLay0 && PyData.canLayAll0 xs) = true
      rw [h1.cl, h2.cl]; rfl
    · show (x.leavesShort 13 && PyData.leavesShortAll 13 xs) = true
      rw [h1.ls, h2.ls]; rfl
    · show max x.depth (PyData.depthAll xs) ≤ k
      have := h1.dp
      have := h2.dp
      omega
    · show x.bulk + 1 + PyData.bulkAll xs ≤ _
      have := h1.bk
      have := h2.bk
      omega
theorem tm_list {xs : List PyData} {k b n : Nat} (h : ∀ x ∈ xs, Tm x k b) (hn : xs.length ≤ n) : Tm (.list xs) (k + 1) (n * (b + 1)) := by
  have a := tm_all h
  exact ⟨a.sh, a.nd, a.cl, a.ls, Nat.succ_le_succ a.dp, Nat.le_trans a.bk (Nat.mul_le_mul_right _ hn)⟩
theorem tm_tuple {xs : List PyData} {k b n : Nat} (h : ∀ x ∈ xs, Tm x k b) (hn : xs.length ≤ n) : Tm (.tuple xs) (k + 1) (n * (b + 1)) := by
  have a := tm_all h
  exact ⟨a.sh, a.nd, a.cl, a.ls, Nat.succ_le_succ a.dp, Nat.le_trans a.bk (Nat.mul_le_mul_right _ hn)⟩
theorem Tm.mono {d : PyData} {k b k' b' : Nat} (h : Tm d k b) (h1 : k ≤ k') (h2 : b ≤ b') : Tm d k' b' := ⟨h.sh, h.nd, h.cl, h.ls, Nat.le_trans h.dp h1, Nat.le_trans h.bk h2⟩
theorem tm_tupI {ns : List Int} {n : Nat} (h : ∀ m ∈ ns, -999999999999 ≤ m ∧ m ≤ 999999999999) (hn : ns.length ≤ n) : Tm (tupI ns) 1 n := by
  have := tm_tuple (xs := ns.map .int) (k := 0) (b := 0) (n := n) (fun x hx => by
    obtain ⟨m, hm, rfl⟩ := List.mem_map.mp hx
    exact tm_int (h m hm).1 (h m hm).2) (by rw [List.length_map]; exact hn)
  exact this.mono (Nat.le_refl _) (by omega)
theorem Tm.fits {d : PyData} {k b : Nat} (h : Tm d k b) (hb : b ≤ 1000000) : d.shown.length ≤ sizeLine := by
  have := PyData.shown_le_bulk 13 (by decide) d h.ls
  have := h.bk
  rw [sizeLine_eq]
  omega
theorem Tm.shaped {d : PyData} {k b : Nat} (h : Tm d k b) (hk : k ≤ 60) : SeqAt.shaped d = true := by
  unfold SeqAt.shaped
  rw [h.cl, decide_eq_true (show d.depth ≤ 64 from Nat.le_trans h.dp (by omega))]
  rfl
section
variable {K K' : PySem.W.Frag} {p : Option Addr} {Φ : PyData → Prop}
theorem cb_reprT {d : PyData} {k b : Nat} (h : Tm d k b) (hd : isDisplay d = true) (hk : k ≤ 60) (hb : b ≤ 1000000) (q : Φ (.str d.shown)) (hK : K' = K := by with_unfolding_all rfl) : CbD K p (FwE.rReprD K') [d] Φ :=
  cb_reprD_ hd h.sh h.nd (Nat.le_trans h.dp hk) (h.fits hb) q hK
end
end Fw
namespace K11
open PySem Fw
def nz (ns : List Int) : List Nat := (List.range ns.length).filter fun j => decide (ns[j]? ≠ some 0)
theorem firstD_nz (ns : List Int) : firstD ns = match nz ns with
  | [] => .none
  | j :: _ => .int (j : Nat) := by
  cases h : nz ns with
  | nil =>
    have e : ns.findIdx? (fun n => decide (n ≠ 0)) = none := by
      rw [List.findIdx?_eq_none_iff]
      intro x hx
      obtain ⟨j, hj, rfl⟩ := List.getElem_of_mem hx
      have := List.filter_eq_nil_iff.mp h j (List.mem_range.mpr hj)
      rw [List.getElem?_eq_getElem hj] at this
      simpa using this
    unfold firstD
    rw [e]
  | cons j js =>
    obtain ⟨l1, l2, e1, e2, e3, _⟩ := List.filter_eq_cons_iff.mp h
    have hj : j = l1.length ∧ j < ns.length := by
      have a : (List.range ns.length)[l1.length]? = some j := by rw [e1, List.getElem?_append_right (Nat.le_refl _), Nat.sub_self]; rfl
      have b := (List.getElem?_eq_some_iff.mp a).1
      rw [List.length_range] at b
      rw [List.getElem?_range b] at a
      have := Option.some.inj a
      omega
    have e : ns.findIdx? (fun n => decide (n ≠ 0)) = some j := by
      rw [List.findIdx?_eq_some_iff_getElem]
      refine ⟨hj.2, ?_, fun i hi => ?_⟩
      · rw [List.getElem?_eq_getElem hj.2] at e3
        simpa using e3
      · have a : (List.range ns.length)[i]? = l1[i]? := by rw [e1, List.getElem?_append_left (by omega)]
        rw [List.getElem?_range (by omega)] at a
        have m := List.mem_of_getElem? a.symm
        have := e2 i m
        have hi2 : i < ns.length := by omega
        rw [List.getElem?_eq_getElem hi2] at this
        simpa using this
    unfold firstD
    rw [e]
end K11
namespace K11
open PySem Fw
theorem put_one (xs ys : List Int) : putOn xs 1 ys = List.zipWith (· + ·) xs ys := by
  unfold putOn
  congr
  funext a b
  omega
theorem zip_add_comm : ∀ xs ys : List Int, List.zipWith (· + ·) xs ys = List.zipWith (· + ·) ys xs
  | [], [] => rfl
  | [], _ :: _ => rfl
  | _ :: _, [] => rfl
  | x :: xs, y :: ys => by
    show (x + y) :: List.zipWith (· + ·) xs ys = (y + x) :: List.zipWith (· + ·) ys xs
    rw [zip_add_comm xs ys, Int.add_comm]
theorem inner_comm : ∀ xs ys : List Int, innerI xs ys = innerI ys xs
  | [], [] => rfl
  | [], _ :: _ => rfl
  | _ :: _, [] => rfl
  | x :: xs, y :: ys => by
    show x * y + innerI xs ys = y * x + innerI ys xs
    rw [inner_comm xs ys, Int.mul_comm]
theorem inner_add : ∀ xs ys zs : List Int, xs.length = ys.length → innerI (List.zipWith (· + ·) xs ys) zs = innerI xs zs + innerI ys zs
  | [], [], zs, _ => by show (0 : Int) = 0 + 0; rfl
  | [], _ :: _, _, h => by cases h
  | _ :: _, [], _, h => by cases h
  | _ :: _, _ :: _, [], _ => rfl
  | x :: xs, y :: ys, z :: zs, h => by
    show (x + y) * z + innerI (List.zipWith (· + ·) xs ys) zs = x * z + innerI xs zs + (y * z + innerI ys zs)
    rw [inner_add xs ys zs (by simpa using h), Int.add_mul]
    omega
theorem zip_add_mem {xs ys : List Int} {n : Int} (h : n ∈ List.zipWith (· + ·) xs ys) : ∃ a b, a ∈ xs ∧ b ∈ ys ∧ n = a + b := by
  induction xs generalizing ys with
  | nil => cases h
  | cons x xs ih =>
    cases ys with
    | nil => cases h
    | cons y ys =>
      rcases List.mem_cons.mp (show n ∈ (x + y) :: List.zipWith (· + ·) xs ys from h) with z | z
      · exact ⟨x, y, List.mem_cons_self, List.mem_cons_self, z⟩
      · obtain ⟨a, b, ha, hb, e⟩ := ih z
        exact ⟨a, b, List.mem_cons_of_mem _ ha, List.mem_cons_of_mem _ hb, e⟩
theorem IsSmall.row {ns : List Int} (h : IsSmall ns) : IsRow ns := ⟨h.one, by have := h.most; omega, fun n hn => by have := h.size n hn; omega⟩
theorem small_add {xs ys : List Int} (h1 : IsSmall xs) (h2 : IsSmall ys) (e : xs.length = ys.length) : IsRow (List.zipWith (· + ·) xs ys) := by
  have a := h1.one
  have b := h1.most
  refine ⟨by rw [List.length_zipWith]; omega, by rw [List.length_zipWith]; omega, fun n hn => ?_⟩
  obtain ⟨x, y, hx, hy, rfl⟩ := zip_add_mem hn
  have := h1.size x hx
  have := h2.size y hy
  omega
theorem mul_le {a b A B : Int} (h1 : -A ≤ a ∧ a ≤ A) (h2 : -B ≤ b ∧ b ≤ B) : -(A * B) ≤ a * b ∧ a * b ≤ A * B := by
  have e1 : a.natAbs ≤ A.natAbs := by omega
  have e2 : b.natAbs ≤ B.natAbs := by omega
  have e3 := Nat.mul_le_mul e1 e2
  rw [← Int.natAbs_mul, ← Int.natAbs_mul] at e3
  have e4 : 0 ≤ A * B := Int.mul_nonneg (by omega) (by omega)
  omega
end K11
namespace K11
open PySem Fw
theorem inner_le : ∀ (xs ys : List Int), (∀ x ∈ xs, -8991 ≤ x ∧ x ≤ 8991) → (∀ y ∈ ys, -8991 ≤ y ∧ y ≤ 8991) → -(xs.length * 80838081 : Int) ≤ innerI xs ys ∧ innerI xs ys ≤ (xs.length * 80838081 : Int)
  | [], _, _, _ => by show -((0 : Nat) * 80838081 : Int) ≤ 0 ∧ (0 : Int) ≤ ((0 : Nat) * 80838081 : Int); omega
  | x :: xs, [], _, _ => by
    show -(((x :: xs).length : Nat) * 80838081 : Int) ≤ 0 ∧ (0 : Int) ≤ (((x :: xs).length : Nat) * 80838081 : Int)
    omega
  | x :: xs, y :: ys, hx, hy => by
    have ih := inner_le xs ys (fun z hz => hx z (List.mem_cons_of_mem _ hz)) (fun z hz => hy z (List.mem_cons_of_mem _ hz))
    have m := mul_le (hx x List.mem_cons_self) (hy y List.mem_cons_self)
    have e : (8991 : Int) * 8991 = 80838081 := by decide
    rw [e] at m
    show -(((x :: xs).length : Nat) * 80838081 : Int) ≤ x * y + innerI xs ys ∧ x * y + innerI xs ys ≤ (((x :: xs).length : Nat) * 80838081 : Int)
    rw [List.length_cons]
    omega
theorem map_times (m : Int) (xs : List Int) : (xs.map PyData.int).map (fun y => PyData.int (m * toI y)) = (xs.map (fun x => x * m)).map .int := by
  rw [List.map_map, List.map_map]
  congr 1
  funext x
  show PyData.int (m * x) = PyData.int (x * m)
  rw [Int.mul_comm]
theorem isRow_of {ns : List Int} (h1 : 1 ≤ ns.length) (h2 : ns.length ≤ 6) (h : ∀ m ∈ ns, -999 ≤ m ∧ m ≤ 999) : IsRow ns := ⟨h1, by omega, fun n hn => by have := h n hn; omega⟩
end K11
namespace K11
open PySem Fw
theorem tm_firstD {ns : List Int} (h : ns.length ≤ 1000) : Fw.Tm (firstD ns) 0 0 := by
  unfold firstD
  cases e : ns.findIdx? (fun n => decide (n ≠ 0)) with
  | none => exact tm_none
  | some i =>
    have := (List.findIdx?_eq_some_iff_getElem.mp e).1
    exact tm_int (by omega) (by omega)
theorem gcdL_all {ns : List Int} (h : ∀ n ∈ ns, -1000000 ≤ n ∧ n ≤ 1000000) : 0 ≤ gcdL ns ∧ gcdL ns ≤ 1000000 := by
  have a := gcdL_nonneg ns ns.length (Nat.le_refl _)
  have b := gcdL_le h ns.length (Nat.le_refl _)
  rw [List.take_length] at a b
  exact ⟨a, b⟩
end K11
namespace K11
open PySem Fw
theorem toI_ints : ∀ ps : List Int, (ps.map PyData.int).map toI = ps
  | [] => rfl
  | a :: l => by
    show a :: (l.map PyData.int).map toI = a :: l
    rw [toI_ints l]
theorem isShare_tup (ns ps : List Int) : isShare ns (tupI ps) = (decide (ps.length = ns.length) && decide (innerI ns ps = gcdL ns)) := by
  show (decide ((((ps.map PyData.int).length : Nat) : Int) = ((ns.length : Nat) : Int)) && (ps.map PyData.int).all isInt && decide (innerI ns ((ps.map PyData.int).map toI) = gcdL ns)) = _
  rw [all_ints, toI_ints, List.length_map, Bool.and_true]
  congr 1
  exact decide_eq_decide.mpr (by omega)
end K11
namespace K11
open PySem Fw
theorem rep_zero : ∀ n : Nat, (List.replicate n [PyData.int 0]).flatten = (List.replicate n (0 : Int)).map .int
  | 0 => rfl
  | n + 1 => by
    rw [List.replicate_succ, List.replicate_succ, List.flatten_cons, rep_zero n]
    rfl
theorem small_of {ns : List Int} (h1 : 1 ≤ ns.length) (h2 : ns.length ≤ 6) (h : ∀ m ∈ ns, -999 ≤ m ∧ m ≤ 999) : IsSmall ns := ⟨h1, h2, fun n hn => by have := h n hn; omega⟩
theorem small_times {ns : List Int} {c : Int} (h1 : 1 ≤ ns.length) (h2 : ns.length ≤ 6) (h : ∀ m ∈ ns, -999 ≤ m ∧ m ≤ 999) (c0 : 1 ≤ c) (c1 : c ≤ 9) : IsSmall (ns.map fun x => x * c) := by
  refine ⟨by rw [List.length_map]; exact h1, by rw [List.length_map]; exact h2, fun n hn => ?_⟩
  obtain ⟨x, hx, rfl⟩ := List.mem_map.mp hn
  have := mul_le (h x hx) (show -(9 : Int) ≤ c ∧ c ≤ 9 by omega)
  omega
theorem small_zero {n : Nat} (h1 : 1 ≤ n) (h2 : n ≤ 6) : IsSmall (List.replicate n 0) := ⟨by rw [List.length_replicate]; exact h1, by rw [List.length_replicate]; exact h2, fun m hm => by rw [(List.mem_replicate.mp hm).2]; omega⟩
end K11
namespace K11
open PySem PySem.Spec PyProof.Rows L2 Evl
open Fw
section
variable {P : Program} {w : World} {K : PySem.W.Frag} {mg : Str → Option Value} {base : Heap}
local macro_rules | `(tactic| walk_at "wp") => `(tactic| (first
  | with_reducible refine Fw.s_seq ?_
  | with_reducible refine Fw.s_next ?_
  | with_reducible refine Fw.s_nil ?_
  | with_reducible refine Fw.s_app2 rfl ?_
  | with_reducible refine Fw.s_asg ?_
  | with_reducible refine Fw.s_if ?_
  | with_reducible refine Fw.s_ret ?_
  | with_reducible refine Fw.s_retN ?_
  | with_reducible refine Fw.s_drop ?_
  | with_reducible refine Fw.e_var rfl ?_
  | with_reducible refine Fw.e_int ?_
  | with_reducible refine Fw.e_bl ?_
  | with_reducible refine Fw.e_str ?_
  | with_reducible refine Fw.e_non ?_
  | with_reducible refine Fw.e_isi_ ?_
  | with_reducible refine Fw.e_slT_ ?_
  | with_reducible refine Fw.e_repL ?_
  | with_reducible refine Fw.e_pot0 rfl ?_
  | with_reducible refine Fw.e_pot1 rfl ?_
  | with_reducible refine Fw.e_op ?_
  | with_reducible refine Fw.e_un ?_
  | with_reducible refine Fw.e_tup ?_
  | with_reducible refine Fw.e_lst ?_
  | with_reducible refine Fw.o_none ?_
  | with_reducible refine Fw.o_some ?_
  | with_reducible refine Fw.a_nil ?_
  | with_reducible refine Fw.a_cons ?_
  | with_reducible refine Fw.e_callSw ?_
  | with_reducible refine Fw.e_callS1 ?_
  | with_reducible refine Fw.e_callP rfl ?_
  | with_reducible refine Fw.e_call ?_
  | with_reducible refine Fw.e_cb ?_
  | with_reducible refine Fw.e_andV ?_
  | with_reducible refine Fw.e_orV ?_
  | with_reducible refine Fw.e_notV ?_
  | with_reducible refine Fw.e_if ?_
  | with_reducible refine Fw.e_chain ?_
  | with_reducible refine Fw.t_test ?_
  | with_reducible refine Fw.t_B ?_
  | with_reducible refine Fw.t_and ?_
  | with_reducible refine Fw.t_or ?_
  | with_reducible refine Fw.t_not ?_
  | with_reducible refine Fw.t_yes ?_
  | with_reducible refine Fw.od_add ?_
  | with_reducible refine Fw.od_sub ?_
  | with_reducible refine Fw.od_mul ?_ ?_
  | with_reducible refine Fw.od_fdivN ?_ ?_
  | with_reducible refine Fw.od_modN ?_ ?_
  | with_reducible refine Fw.od_pow ?_ ?_
  | with_reducible refine Fw.od_lt ?_
  | with_reducible refine Fw.od_le ?_
  | with_reducible refine Fw.od_gt ?_
  | with_reducible refine Fw.od_ge ?_
  | with_reducible refine Fw.od_eqI ?_
  | with_reducible refine Fw.od_neI ?_
  | with_reducible refine Fw.od_eqS ?_
  | with_reducible refine Fw.od_neS ?_
  | with_reducible refine Fw.od_isB ?_
  | with_reducible refine Fw.od_notB ?_
  | with_reducible refine Fw.ud_neg ?_
  | with_reducible refine Fw.cb_len_ (.inl rfl) ?_
  | with_reducible refine Fw.cb_len_ (.inr rfl) ?_
  | with_reducible refine Fw.cb_abs ?_
  | with_reducible refine Fw.cb_int ?_
  | with_reducible refine Fw.cb_max2 ?_
  | with_reducible refine Fw.cb_gcd ?_
  | with_reducible refine Fw.cb_reprB ?_
  | with_reducible refine Fw.cb_tuple_ (.inr rfl) ?_
  | with_reducible refine Fw.cb_tuple_ (.inl rfl) ?_
  | with_reducible refine Fw.cb_list_ (.inl rfl) ?_
  | with_reducible refine Fw.cb_list_ (.inr rfl) ?_
  | with_reducible refine L2.iteT ?_
  | with_reducible refine L2.iteF ?_
  | with_reducible refine Fw.iteNT ?_
  | with_reducible refine Fw.iteNF ?_
  | with_reducible refine Fw.iteI ?_
  | with_reducible refine Fw.iteNI ?_
  | with_reducible refine Fw.s_par ?_
  | with_reducible refine Fw.s_par3 ?_
  | with_reducible refine Exists.intro _ (And.intro Fw.kd_none_int ?_)
  | with_reducible refine Exists.intro _ (And.intro Fw.kd_none_bool ?_)
  | with_reducible refine Exists.intro _ (And.intro Fw.kd_none_str ?_)
  | with_reducible refine Exists.intro _ (And.intro Fw.kd_none_list ?_)
  | with_reducible refine Exists.intro _ (And.intro Fw.kd_none_tuple ?_)
  | with_reducible refine Exists.intro _ (And.intro Fw.kd_bool_int ?_)
  | with_reducible refine Exists.intro _ (And.intro Fw.kd_bool_bool ?_)
  | with_reducible refine Exists.intro _ (And.intro Fw.kd_bool_str ?_)
  | with_reducible refine Exists.intro _ (And.intro Fw.kd_bool_list ?_)
  | with_reducible refine Exists.intro _ (And.intro Fw.kd_bool_tuple ?_)
  | with_reducible refine Exists.intro _ (And.intro Fw.kd_int_int ?_)
  | with_reducible refine Exists.intro _ (And.intro Fw.kd_int_bool ?_)
  | with_reducible refine Exists.intro _ (And.intro Fw.kd_int_str ?_)
  | with_reducible refine Exists.intro _ (And.intro Fw.kd_int_list ?_)
  | with_reducible refine Exists.intro _ (And.intro Fw.kd_int_tuple ?_)
  | with_reducible refine Exists.intro _ (And.intro Fw.kd_str_int ?_)
  | with_reducible refine Exists.intro _ (And.intro Fw.kd_str_bool ?_)
  | with_reducible refine Exists.intro _ (And.intro Fw.kd_str_str ?_)
  | with_reducible refine Exists.intro _ (And.intro Fw.kd_str_list ?_)
  | with_reducible refine Exists.intro _ (And.intro Fw.kd_str_tuple ?_)
  | with_reducible refine Exists.intro _ (And.intro Fw.kd_list_int ?_)
  | with_reducible refine Exists.intro _ (And.intro Fw.kd_list_bool ?_)
  | with_reducible refine Exists.intro _ (And.intro Fw.kd_list_str ?_)
  | with_reducible refine Exists.intro _ (And.intro Fw.kd_list_list ?_)
  | with_reducible refine Exists.intro _ (And.intro Fw.kd_list_tuple ?_)
  | with_reducible refine Exists.intro _ (And.intro Fw.kd_tuple_int ?_)
  | with_reducible refine Exists.intro _ (And.intro Fw.kd_tuple_bool ?_)
  | with_reducible refine Exists.intro _ (And.intro Fw.kd_tuple_str ?_)
  | with_reducible refine Exists.intro _ (And.intro Fw.kd_tuple_list ?_)
  | with_reducible refine Exists.intro _ (And.intro Fw.kd_tuple_tuple ?_)
  | with_reducible refine Exists.intro _ (And.intro rfl ?_)
  | with_reducible refine Exists.intro _ (Exists.intro _ (And.intro rfl ?_))
  | with_reducible refine Exists.intro _ (Exists.intro _ (Exists.intro _ (And.intro rfl ?_)))
  | with_reducible refine Fw.iteD (by first | omega | (simp only [List.length_map, List.length_cons, List.length_nil]; omega)) ?_
  | with_reducible refine Fw.iteND (by first | omega | (simp only [List.length_map, List.length_cons, List.length_nil]; omega)) ?_
  | with_reducible refine Fw.iteDF (by first | omega | (simp only [List.length_map, List.length_cons, List.length_nil]; omega)) ?_
  | with_reducible refine Fw.iteNDF (by first | omega | (simp only [List.length_map, List.length_cons, List.length_nil]; omega)) ?_
  | with_reducible refine And.intro (by first | assumption | omega | (simp only [List.length_map, List.length_cons, List.length_nil]; omega)) ?_
  | fail "wp"))

theorem ok_is_integer (tx : Tx mg) : ∀ f fd, FnP K "is_integer" s_is_integer f fd → FnOk P w K mg base CX0 1 f fd ["value"] (SpF K pre_is_integer) := fun f fd F =>
  F.ok sc_is_integer (fun vs H Q E s => lenF (fun ds Φ h => by
    obtain ⟨x, rfl, _⟩ := h; rfl) s) fun cdv A outer s H vs Q E hr h => ⟨_, PSs.nox (pss_one (ps_ret (pe_and (pe_callB call_isi (by rfl) tx.isinstance (by decide +kernel) (pa_cons (pv 0) (pa_cons (pe_bltn (v := .ty "int") (by rfl) tx.int (by decide +kernel) rfl) pa_nil))) (pe_one (pe_not (pe_callB call_isi (by rfl) tx.isinstance (by decide +kernel) (pa_cons (pv 0) (pa_cons (pe_bltn (v := .ty "bool") (by rfl) tx.bool (by decide +kernel) rfl) pa_nil)))))))),
  bodyF h fun ds Φ hp => by
    obtain ⟨x, rfl, q⟩ := hp
    cases x with
    | dict kvs => exact s_dict 0 rfl
    | _ => (repeat' walk_at "wp") <;> exact q
⟩
theorem has_is_integer (D : Dn K mg "is_integer" s_is_integer) (tx : Tx mg) : Has P w K mg base "is_integer" ["value"] 1 (SpF K pre_is_integer) := has_of D (fun _ _ _ _ _ _ us hl => match us, hl with | [_], _ => rfl) (ok_is_integer tx)

theorem ok_are_integers (tx : Tx mg) (h_is_integer : Has P w K mg base "is_integer" ["value"] 1 (SpF K pre_is_integer)) : ∀ f fd, FnP K "are_integers" s_are_integers f fd → FnOk P w K mg base CX0 2 f fd ["value", "many"] (SpF K pre_are_integers) := fun f fd F =>
  F.ok sc_are_integers (fun vs H Q E s => lenF (fun ds Φ h => by
    obtain ⟨x, n, rfl, _⟩ := h; rfl) s) fun cdv A outer s H vs Q E hr h => ⟨_, PSs.nox (pss_one (ps_ret (pe_and (pe_callB call_isi (by rfl) tx.isinstance (by decide +kernel) (pa_cons (pv 0) (pa_cons (pe_bltn (v := .ty "tuple") (by rfl) tx.tuple (by decide +kernel) rfl) pa_nil))) (pe_and (pe_cmpR op_eq (pe_callB call_len_seq (by rfl) tx.len (by decide +kernel) (pa_cons (pv 0) pa_nil)) (pv 1) (nomark _)) (pe_one (pe_callB (cr_all rfl) (by rfl) tx.all (by decide +kernel) (pa_cons (pe_lc (own := [("number", 2)]) (g := gName 2) (by rfl) sc_are_integers.nd (pi_tup (pv 0)) (blkOk_by (N := N_are_integers) (sc := defScope s_are_integers) (by decide +kernel)) (fun _ _ _ _ _ => (pg_name (i := 2) sc_are_integers.nd rfl (.inl rfl))) (fun _ _ _ _ _ => pts_nil) (fun _ _ _ _ _ => (pe_callH h_is_integer (hr.mono (by decide)) (by rfl) (pa_cons (pv 2) pa_nil)))) pa_nil))))))),
  bodyF h fun ds Φ hp => by
    obtain ⟨x, n, rfl, hl, q⟩ := hp
    cases x with
    | dict kvs => exact s_dict 0 rfl
    | tuple xs =>
      have hz := hl xs rfl
      repeat' walk_at "wp"
      refine iteB (fun e => ?_) (fun e => ?_)
      · repeat' walk_at "wp"
        refine e_mapT (fun y => .bool (isInt y)) rfl (by omega) (fun y _ => ?_) ?_
        · repeat' walk_at "wp"
          rfl
        · refine a_nil (cb_all_ _ (map_bools xs) ?_)
          rw [all_map_id]
          have q2 : Φ (.bool (decide ((xs.length : Int) = n) && xs.all isInt)) := q
          rw [e, Bool.true_and] at q2
          exact q2
      · have q2 : Φ (.bool (decide ((xs.length : Int) = n) && xs.all isInt)) := q
        rw [e, Bool.false_and] at q2
        exact q2
    | _ => (repeat' walk_at "wp") <;> exact q
⟩
theorem has_are_integers (D : Dn K mg "are_integers" s_are_integers) (tx : Tx mg) (h_is_integer : Has P w K mg base "is_integer" ["value"] 1 (SpF K pre_is_integer)) : Has P w K mg base "are_integers" ["value", "many"] 2 (SpF K pre_are_integers) := has_of D (fun _ _ _ _ _ _ us hl => match us, hl with | [_, _], _ => rfl) (ok_are_integers tx h_is_integer)

theorem ok_first_place (tx : Tx mg) : ∀ f fd, FnP K "first_place" s_first_place f fd → FnOk P w K mg base CX0 1 f fd ["row"] (SpF K pre_first_place) := fun f fd F =>
  F.ok sc_first_place (fun vs H Q E s => lenF (fun ds Φ h => by
    obtain ⟨_, rfl, _⟩ := h; rfl) s) fun cdv A outer s H vs Q E hr h => ⟨_, PSs.nox (pss_cons (ps_for PassesOwn.never rfl (FwE.pi_enumT (by rfl) tx.enumerate (pa_cons (pv 0) pa_nil)) (pg_tup (by rfl) (pgs_cons (pg_name (i := 1) sc_first_place.nd rfl (.inl rfl)) (pgs_cons (pg_name (i := 2) sc_first_place.nd rfl (.inl rfl)) pgs_nil))) (pss_one (ps_if (pt_cmpR op_ne (pv 2) pe_int (nomark _)) (pss_one (ps_ret (pv 1))) pss_nil)))
    (pss_one (ps_ret pe_non))),
  bodyF h fun ds Φ hp => by
    obtain ⟨ns, rfl, hl, q⟩ := hp
    refine s_seq (s_for (js := [1] ++ ([2] ++ [])) (i_enumT_ (a_cons (e_var rfl (a_nil ⟨_, rfl, fun i e => (∀ j, j < i → ns[j]? = some 0) ∧ ∃ a b, e = [.dat (tupI ns), a, b], ⟨fun j hj => absurd hj (Nat.not_lt_zero _), _, _, rfl⟩, fun i x e hx => ?_, ?_⟩)))))
    · rintro ⟨zs, a, b, rfl⟩
      have hlt : i < ns.length := by
        have := (List.getElem?_eq_some_iff.mp hx).1
        rw [enumD_len, List.length_map] at this
        exact this
      have e1 := enumD_get (xs := ns.map .int) (i := i) (x := .int ns[i]) (by rw [List.getElem?_map, List.getElem?_eq_getElem hlt]; rfl)
      rw [e1] at hx
      cases hx
      refine g_tup_ [_, _] rfl rfl (g_cons (g_name (g_cons (g_name (g_nil ?_)))))
      repeat' walk_at "wp"
      refine iteNP (fun h => ?_) (fun h => ?_)
      · repeat' walk_at "wp"
        have e : ns.findIdx? (fun n => decide (n ≠ 0)) = some i := by
          rw [List.findIdx?_eq_some_iff_getElem]
          refine ⟨hlt, by simpa using h, fun j hj => ?_⟩
          have := zs j hj
          have hj' : j < ns.length := by omega
          rw [List.getElem?_eq_getElem hj'] at this
          rw [Option.some.inj this]
          decide
        have q2 := q
        unfold firstD at q2
        rw [e] at q2
        exact q2
      · repeat' walk_at "wp"
        refine ⟨fun j hj => ?_, _, _, rfl⟩
        by_cases hj2 : j < i
        · exact zs j hj2
        · have : j = i := by omega
          subst this
          rw [List.getElem?_eq_getElem hlt, h]
    · rintro e ⟨zs, a, b, rfl⟩
      repeat' walk_at "wp"
      rw [enumD_len, List.length_map] at zs
      have e : ns.findIdx? (fun n => decide (n ≠ 0)) = none := by
        rw [List.findIdx?_eq_none_iff]
        intro x hx
        obtain ⟨j, hj, rfl⟩ := List.getElem_of_mem hx
        have := zs j hj
        rw [List.getElem?_eq_getElem hj] at this
        rw [Option.some.inj this]
        decide
      have q2 := q
      unfold firstD at q2
      rw [e] at q2
      exact q2
⟩
theorem has_first_place (D : Dn K mg "first_place" s_first_place) (tx : Tx mg) : Has P w K mg base "first_place" ["row"] 1 (SpF K pre_first_place) := has_of D (fun _ _ _ _ _ _ us hl => match us, hl with | [_], _ => rfl) (ok_first_place tx)

theorem ok_put_on (tx : Tx mg) : ∀ f fd, FnP K "put_on" s_put_on f fd → FnOk P w K mg base CX0 1 f fd ["row", "many", "other"] (SpF K pre_put_on) := fun f fd F =>
  F.ok sc_put_on (fun vs H Q E s => lenF (fun ds Φ h => by
    obtain ⟨_, _, _, rfl, _⟩ := h; rfl) s) fun cdv A outer s H vs Q E hr h => ⟨_, PSs.nox (pss_one (ps_ret (pe_callTy call_tuple_of (by rfl) tx.tuple (by decide +kernel) (pa_cons (pe_lc (own := [("number", 3), ("more", 4)]) (g := gTup K 2 (gCons (gName 3) (gCons (gName 4) gNil))) (by rfl) sc_put_on.nd (RZ.pi_zipA (by rfl) tx.zip (pa_cons (pv 0) (pa_cons (pv 2) pa_nil))) (blkOk_by (N := N_put_on) (sc := defScope s_put_on) (by decide +kernel)) (fun _ _ _ _ _ => (pg_tup (by rfl) (pgs_cons (pg_name (i := 3) sc_put_on.nd rfl (.inl rfl)) (pgs_cons (pg_name (i := 4) sc_put_on.nd rfl (.inl rfl)) pgs_nil)))) (fun _ _ _ _ _ => pts_nil) (fun _ _ _ _ _ => (pe_op op_add (pv 3) (pe_op op_mul (pv 1) (pv 4))))) pa_nil)))),
  bodyF h fun ds Φ hp => by
    obtain ⟨row, m, other, rfl, m1, m2, hl, q⟩ := hp
    repeat' walk_at "wp"
    refine e_mapZ (fun a b => .int (toI a + m * toI b)) rfl rfl (by rw [List.length_map]; omega) (fun a b ha hb => ?_) ?_
    · obtain ⟨x, _, rfl⟩ := List.mem_map.mp ha
      obtain ⟨y, _, rfl⟩ := List.mem_map.mp hb
      repeat' walk_at "wp"
      · exact .inl ⟨m1, m2⟩
      · rfl
    · repeat' walk_at "wp"
      exact Eq.mpr (congrArg (fun l => Φ (PyData.tuple l)) (zip_ints (fun a b => a + m * b) row other)) q
⟩
theorem has_put_on (D : Dn K mg "put_on" s_put_on) (tx : Tx mg) : Has P w K mg base "put_on" ["row", "many", "other"] 1 (SpF K pre_put_on) := has_of D (fun _ _ _ _ _ _ us hl => match us, hl with | [_, _, _], _ => rfl) (ok_put_on tx)

theorem ok_inner (tx : Tx mg) : ∀ f fd, FnP K "inner" s_inner f fd → FnOk P w K mg base CX0 1 f fd ["row", "other"] (SpF K pre_inner) := fun f fd F =>
  F.ok sc_inner (fun vs H Q E s => lenF (fun ds Φ h => by
    obtain ⟨_, _, rfl, _⟩ := h; rfl) s) fun cdv A outer s H vs Q E hr h => ⟨_, PSs.nox (pss_one (ps_ret (pe_callB (cr_sum rfl) (by rfl) tx.sum (by decide +kernel) (pa_cons (pe_lc (own := [("number", 2), ("by", 3)]) (g := gTup K 2 (gCons (gName 2) (gCons (gName 3) gNil))) (by rfl) sc_inner.nd (RZ.pi_zipA (by rfl) tx.zip (pa_cons (pv 0) (pa_cons (pv 1) pa_nil))) (blkOk_by (N := N_inner) (sc := defScope s_inner) (by decide +kernel)) (fun _ _ _ _ _ => (pg_tup (by rfl) (pgs_cons (pg_name (i := 2) sc_inner.nd rfl (.inl rfl)) (pgs_cons (pg_name (i := 3) sc_inner.nd rfl (.inl rfl)) pgs_nil)))) (fun _ _ _ _ _ => pts_nil) (fun _ _ _ _ _ => (pe_op op_mul (pv 2) (pv 3)))) pa_nil)))),
  bodyF h fun ds Φ hp => by
    obtain ⟨row, other, rfl, hb, hl, q⟩ := hp
    repeat' walk_at "wp"
    refine e_mapZ (fun a b => .int (toI a * toI b)) rfl rfl (by rw [List.length_map]; omega) (fun a b ha hb' => ?_) ?_
    · obtain ⟨x, hx, rfl⟩ := List.mem_map.mp ha
      obtain ⟨y, _, rfl⟩ := List.mem_map.mp hb'
      repeat' walk_at "wp"
      · have := hb x hx
        exact .inl ⟨by omega, by omega⟩
      · rfl
    · exact a_nil (cb_sum_ (List.zipWith (fun a b => a * b) row other) (zip_ints (fun a b => a * b) row other) q)
⟩
theorem has_inner (D : Dn K mg "inner" s_inner) (tx : Tx mg) : Has P w K mg base "inner" ["row", "other"] 1 (SpF K pre_inner) := has_of D (fun _ _ _ _ _ _ us hl => match us, hl with | [_, _], _ => rfl) (ok_inner tx)

theorem ok_bezout (tx : Tx mg) (h_put_on : Has P w K mg base "put_on" ["row", "many", "other"] 1 (SpF K pre_put_on)) : ∀ f fd, FnP K "bezout" s_bezout f fd → FnOk P w K mg base CX0 2 f fd ["one", "other"] (SpF K pre_bezout) := fun f fd F =>
  F.ok sc_bezout (fun vs H Q E s => lenF (fun ds Φ h => by
    obtain ⟨_, _, rfl, _⟩ := h; rfl) s) fun cdv A outer s H vs Q E hr h => ⟨_, PSs.nox (pss_cons (ps_par (i := 2) (j := 3) (by rfl) sc_bezout.nd rfl rfl (by decide) rfl rfl (pa_cons (pe_tup (pa_cons (pv 0) (pa_cons pe_int (pa_cons pe_int pa_nil)))) (pa_cons (pe_tup (pa_cons (pv 1) (pa_cons pe_int (pa_cons pe_int pa_nil)))) pa_nil)) (by rfl))
    (pss_cons (ps_while PassesOwn.never (pt_cmpR op_ne (pe_ix ix_tup (pv 3) pe_int (fun _ _ => rfl)) pe_int (nomark _)) (pss_cons (ps_set (i := 4) sc_bezout.nd rfl (.inl rfl) (pe_op op_fdivN (pe_ix ix_tup (pv 2) pe_int (fun _ _ => rfl)) (pe_ix ix_tup (pv 3) pe_int (fun _ _ => rfl))))
    (pss_one (ps_par (i := 2) (j := 3) (by rfl) sc_bezout.nd rfl rfl (by decide) rfl rfl (pa_cons (pv 3) (pa_cons (pe_callH h_put_on (hr.mono (by decide)) (by rfl) (pa_cons (pv 2) (pa_cons (pe_un un_neg (pv 4)) (pa_cons (pv 3) pa_nil)))) pa_nil)) (by rfl)))))
    (pss_cons (ps_if (pt_cmpR op_lt (pe_ix ix_tup (pv 2) pe_int (fun _ _ => rfl)) pe_int (nomark _)) (pss_one (ps_ret (pe_callH h_put_on (hr.mono (by decide)) (by rfl) (pa_cons (pe_tup (pa_cons pe_int (pa_cons pe_int (pa_cons pe_int pa_nil)))) (pa_cons (pe_un un_neg pe_int) (pa_cons (pv 2) pa_nil)))))) pss_nil)
    (pss_one (ps_ret (pv 2)))))),
  bodyF h fun ds Φ hp => by
    obtain ⟨a, b, rfl, ha, hb, q⟩ := hp
    repeat' walk_at "wp"
    refine s_while (fun m e => ∃ r0 s0 t0 r1 s1 t1 x, e = [.dat (.int a), .dat (.int b), .dat (.tuple [.int r0, .int s0, .int t0]), .dat (.tuple [.int r1, .int s1, .int t1]), x] ∧ Bz a b r0 s0 t0 r1 s1 t1 ∧ r1.natAbs = m) b.natAbs ⟨a, 1, 0, b, 0, 1, _, rfl, Bz.start ha hb, rfl⟩ ?_
    rintro m e ⟨r0, s0, t0, r1, s1, t1, x, rfl, B, rfl⟩
    repeat' walk_at "wp"
    refine od_ixT_ (d := .int r1) (by with_unfolding_all rfl) ?_
    repeat' walk_at "wp"
    have b0 := B.b0
    have b1 := B.b1
    refine iteNP (fun h => ?_) (fun h => ?_)
    · repeat' walk_at "wp"
      refine od_ixT_ (d := .int r0) (by with_unfolding_all rfl) ?_
      repeat' walk_at "wp"
      refine od_ixT_ (d := .int r1) (by with_unfolding_all rfl) ?_
      have hq : (r0.fdiv r1).natAbs ≤ r0.natAbs := fdiv_abs
      refine od_fdivN ⟨h, by omega⟩ ?_
      repeat' walk_at "wp"
      refine ⟨[r0, s0, t0], -(r0.fdiv r1), [r1, s1, t1], rfl, by omega, by omega, by simp, ?_⟩
      repeat' walk_at "wp"
      obtain ⟨B2, lt⟩ := B.step h
      exact ⟨_, lt, r1, s1, t1, _, _, _, _, rfl, B2, rfl⟩
    · subst h
      have hg := B.last
      have e0 := B.e0
      have hs := B.bs
      repeat' walk_at "wp"
      refine od_ixT_ (d := .int r0) (by with_unfolding_all rfl) ?_
      repeat' walk_at "wp"
      refine iteP (fun h => ?_) (fun h => ?_)
      · repeat' walk_at "wp"
        refine ⟨[0, 0, 0], -1, [r0, s0, t0], rfl, by decide, by decide, by decide, ?_⟩
        refine q (0 + -1 * r0) (0 + -1 * s0) (0 + -1 * t0) ?_ (by omega) (by omega)
        rw [Int.add_mul, Int.add_mul, Int.mul_assoc, Int.mul_assoc]
        omega
      · repeat' walk_at "wp"
        exact q _ _ _ e0 (by omega) hs
⟩
theorem has_bezout (D : Dn K mg "bezout" s_bezout) (tx : Tx mg) (h_put_on : Has P w K mg base "put_on" ["row", "many", "other"] 1 (SpF K pre_put_on)) : Has P w K mg base "bezout" ["one", "other"] 2 (SpF K pre_bezout) := has_of D (fun _ _ _ _ _ _ us hl => match us, hl with | [_, _], _ => rfl) (ok_bezout tx h_put_on)

theorem ok_is_row (tx : Tx mg) (h_is_integer : Has P w K mg base "is_integer" ["value"] 1 (SpF K pre_is_integer)) : ∀ f fd, FnP K "is_row" s_is_row f fd → FnOk P w K mg base CX0 2 f fd ["value"] (SpF K pre_is_row) := fun f fd F =>
  F.ok sc_is_row (fun vs H Q E s => lenF (fun ds Φ h => by
    obtain ⟨_, rfl, _⟩ := h; rfl) s) fun cdv A outer s H vs Q E hr h => ⟨_, PSs.nox (pss_cons (ps_if (PW.pt (pw_or (pt_not (pt_val (pe_callB call_isi (by rfl) tx.isinstance (by decide +kernel) (pa_cons (pv 0) (pa_cons (pe_bltn (v := .ty "tuple") (by rfl) tx.tuple (by decide +kernel) rfl) pa_nil))))) (pw_or1 (pt_not (pt_chain op_le op_le pe_int (pe_callB call_len_seq (by rfl) tx.len (by decide +kernel) (pa_cons (pv 0) pa_nil)) (pe_glob (v := .int 40) (by rfl) tx.MOST_NUMBERS.choose_spec ⟨_, rfl⟩)))))) (pss_one (ps_ret pe_bl)) pss_nil)
    (pss_one (ps_ret (pe_callB (cr_all rfl) (by rfl) tx.all (by decide +kernel) (pa_cons (pe_lc (own := [("number", 1)]) (g := gName 1) (by rfl) sc_is_row.nd (pi_tup (pv 0)) (blkOk_by (N := N_is_row) (sc := defScope s_is_row) (by decide +kernel)) (fun _ _ _ _ _ => (pg_name (i := 1) sc_is_row.nd rfl (.inl rfl))) (fun _ _ _ _ _ => pts_nil) (fun _ _ _ _ _ => (pe_and (pe_callH h_is_integer (hr.mono (by decide)) (by rfl) (pa_cons (pv 1) pa_nil)) (pe_one (pe_cmpR op_le (pe_callB call_abs (by rfl) tx.abs (by decide +kernel) (pa_cons (pv 1) pa_nil)) (pe_glob (v := .int 1000000) (by rfl) tx.MOST_SIZE.choose_spec ⟨_, rfl⟩) (nomark _)))))) pa_nil))))),
  bodyF h fun ds Φ hp => by
    obtain ⟨ns, rfl, r, q⟩ := hp
    have r1 := r.one
    have r2 := r.most
    repeat' walk_at "wp"
    refine e_mapT (fun _ => .bool true) rfl (by rw [List.length_map]; omega) (fun y hy => ?_) ?_
    · obtain ⟨x, hx, rfl⟩ := List.mem_map.mp hy
      have sz := r.size x hx
      repeat' walk_at "wp"
      simp only [PyData.bool.injEq, decide_eq_true_eq]
      split <;> omega
    · refine a_nil (cb_all_ (ns.map fun _ => true) (by rw [List.map_map, List.map_map]; rfl) ?_)
      rw [all_map_id]
      have e : (ns.all fun _ => true) = true := List.all_eq_true.mpr fun _ _ => rfl
      rw [e]
      exact q
⟩
theorem has_is_row (D : Dn K mg "is_row" s_is_row) (tx : Tx mg) (h_is_integer : Has P w K mg base "is_integer" ["value"] 1 (SpF K pre_is_integer)) : Has P w K mg base "is_row" ["value"] 2 (SpF K pre_is_row) := has_of D (fun _ _ _ _ _ _ us hl => match us, hl with | [_], _ => rfl) (ok_is_row tx h_is_integer)

theorem ok_check_row (tx : Tx mg) (h_is_row : Has P w K mg base "is_row" ["value"] 2 (SpF K pre_is_row)) : ∀ f fd, FnP K "check_row" s_check_row f fd → FnOk P w K mg base CX0 3 f fd ["value"] (SpF K pre_check_row) := fun f fd F =>
  F.ok sc_check_row (fun vs H Q E s => lenF (fun ds Φ h => by
    obtain ⟨_, rfl, _⟩ := h; rfl) s) fun cdv A outer s H vs Q E hr h => ⟨_, PSs.nox (pss_one (ps_if (pt_not (pt_val (pe_callH h_is_row (hr.mono (by decide)) (by rfl) (pa_cons (pv 0) pa_nil)))) (pss_one ps_never) pss_nil)),
  bodyF h fun ds Φ hp => by
    obtain ⟨ns, rfl, r, q⟩ := hp
    repeat' walk_at "wp"
    exact q
⟩
theorem has_check_row (D : Dn K mg "check_row" s_check_row) (tx : Tx mg) (h_is_row : Has P w K mg base "is_row" ["value"] 2 (SpF K pre_is_row)) : Has P w K mg base "check_row" ["value"] 3 (SpF K pre_check_row) := has_of D (fun _ _ _ _ _ _ us hl => match us, hl with | [_], _ => rfl) (ok_check_row tx h_is_row)

theorem ok_check_two_rows (tx : Tx mg) (h_check_row : Has P w K mg base "check_row" ["value"] 3 (SpF K pre_check_row)) : ∀ f fd, FnP K "check_two_rows" s_check_two_rows f fd → FnOk P w K mg base CX0 4 f fd ["one", "other"] (SpF K pre_check_two_rows) := fun f fd F =>
  F.ok sc_check_two_rows (fun vs H Q E s => lenF (fun ds Φ h => by
    obtain ⟨_, _, rfl, _⟩ := h; rfl) s) fun cdv A outer s H vs Q E hr h => ⟨_, PSs.nox (pss_cons (ps_expr (pe_callH h_check_row (hr.mono (by decide)) (by rfl) (pa_cons (pv 0) pa_nil)))
    (pss_cons (ps_expr (pe_callH h_check_row (hr.mono (by decide)) (by rfl) (pa_cons (pv 1) pa_nil)))
    (pss_one (ps_if (pt_cmpR op_ne (pe_callB call_len_seq (by rfl) tx.len (by decide +kernel) (pa_cons (pv 0) pa_nil)) (pe_callB call_len_seq (by rfl) tx.len (by decide +kernel) (pa_cons (pv 1) pa_nil)) (nomark _)) (pss_one ps_never) pss_nil)))),
  bodyF h fun ds Φ hp => by
    obtain ⟨ns, ms, rfl, r1, r2, e, q⟩ := hp
    repeat' walk_at "wp"
    exact q
⟩
theorem has_check_two_rows (D : Dn K mg "check_two_rows" s_check_two_rows) (tx : Tx mg) (h_check_row : Has P w K mg base "check_row" ["value"] 3 (SpF K pre_check_row)) : Has P w K mg base "check_two_rows" ["one", "other"] 4 (SpF K pre_check_two_rows) := has_of D (fun _ _ _ _ _ _ us hl => match us, hl with | [_, _], _ => rfl) (ok_check_two_rows tx h_check_row)

theorem ok_added (tx : Tx mg) (h_check_two_rows : Has P w K mg base "check_two_rows" ["one", "other"] 4 (SpF K pre_check_two_rows)) (h_put_on : Has P w K mg base "put_on" ["row", "many", "other"] 1 (SpF K pre_put_on)) : ∀ f fd, FnP K "added" s_added f fd → FnOk P w K mg base CX0 5 f fd ["one", "other"] (SpF K pre_added) := fun f fd F =>
  F.ok sc_added (fun vs H Q E s => lenF (fun ds Φ h => by
    obtain ⟨_, _, rfl, _⟩ := h; rfl) s) fun cdv A outer s H vs Q E hr h => ⟨_, PSs.nox (pss_cons (ps_expr (pe_callH h_check_two_rows (hr.mono (by decide)) (by rfl) (pa_cons (pv 0) (pa_cons (pv 1) pa_nil))))
    (pss_one (ps_ret (pe_callH h_put_on (hr.mono (by decide)) (by rfl) (pa_cons (pv 0) (pa_cons pe_int (pa_cons (pv 1) pa_nil))))))),
  bodyF h fun ds Φ hp => by
    obtain ⟨ns, ms, rfl, r1, r2, e, q⟩ := hp
    have := r1.most
    repeat' walk_at "wp"
    exact q
⟩
theorem has_added (D : Dn K mg "added" s_added) (tx : Tx mg) (h_check_two_rows : Has P w K mg base "check_two_rows" ["one", "other"] 4 (SpF K pre_check_two_rows)) (h_put_on : Has P w K mg base "put_on" ["row", "many", "other"] 1 (SpF K pre_put_on)) : Has P w K mg base "added" ["one", "other"] 5 (SpF K pre_added) := has_of D (fun _ _ _ _ _ _ us hl => match us, hl with | [_, _], _ => rfl) (ok_added tx h_check_two_rows h_put_on)

theorem ok_taken (tx : Tx mg) (h_check_row : Has P w K mg base "check_row" ["value"] 3 (SpF K pre_check_row)) (h_is_integer : Has P w K mg base "is_integer" ["value"] 1 (SpF K pre_is_integer)) : ∀ f fd, FnP K "taken" s_taken f fd → FnOk P w K mg base CX0 4 f fd ["row", "many"] (SpF K pre_taken) := fun f fd F =>
  F.ok sc_taken (fun vs H Q E s => lenF (fun ds Φ h => by
    obtain ⟨_, _, rfl, _⟩ := h; rfl) s) fun cdv A outer s H vs Q E hr h => ⟨_, PSs.nox (pss_cons (ps_expr (pe_callH h_check_row (hr.mono (by decide)) (by rfl) (pa_cons (pv 0) pa_nil)))
    (pss_cons (ps_if (PW.pt (pw_or (pt_not (pt_val (pe_callH h_is_integer (hr.mono (by decide)) (by rfl) (pa_cons (pv 1) pa_nil)))) (pw_or1 (pt_cmpR op_gt (pe_callB call_abs (by rfl) tx.abs (by decide +kernel) (pa_cons (pv 1) pa_nil)) (pe_glob (v := .int 1000000) (by rfl) tx.MOST_SIZE.choose_spec ⟨_, rfl⟩) (nomark _))))) (pss_one ps_never) pss_nil)
    (pss_one (ps_ret (pe_callTy call_tuple_of (by rfl) tx.tuple (by decide +kernel) (pa_cons (pe_lc (own := [("number", 2)]) (g := gName 2) (by rfl) sc_taken.nd (pi_tup (pv 0)) (blkOk_by (N := N_taken) (sc := defScope s_taken) (by decide +kernel)) (fun _ _ _ _ _ => (pg_name (i := 2) sc_taken.nd rfl (.inl rfl))) (fun _ _ _ _ _ => pts_nil) (fun _ _ _ _ _ => (pe_op op_mul (pv 2) (pv 1)))) pa_nil)))))),
  bodyF h fun ds Φ hp => by
    obtain ⟨ns, m, rfl, r, m1, m2, q⟩ := hp
    have r2 := r.most
    repeat' walk_at "wp"
    refine e_mapT (fun y => .int (toI y * m)) rfl (by rw [List.length_map]; omega) (fun y hy => ?_) ?_
    · obtain ⟨x, hx, rfl⟩ := List.mem_map.mp hy
      repeat' walk_at "wp"
      · exact .inr ⟨by omega, by omega⟩
      · rfl
    · repeat' walk_at "wp"
      exact Eq.mpr (congrArg (fun l => Φ (PyData.tuple l)) (by rw [List.map_map, List.map_map]; rfl)) q
⟩
theorem has_taken (D : Dn K mg "taken" s_taken) (tx : Tx mg) (h_check_row : Has P w K mg base "check_row" ["value"] 3 (SpF K pre_check_row)) (h_is_integer : Has P w K mg base "is_integer" ["value"] 1 (SpF K pre_is_integer)) : Has P w K mg base "taken" ["row", "many"] 4 (SpF K pre_taken) := has_of D (fun _ _ _ _ _ _ us hl => match us, hl with | [_, _], _ => rfl) (ok_taken tx h_check_row h_is_integer)

theorem ok_product (tx : Tx mg) (h_check_two_rows : Has P w K mg base "check_two_rows" ["one", "other"] 4 (SpF K pre_check_two_rows)) (h_inner : Has P w K mg base "inner" ["row", "other"] 1 (SpF K pre_inner)) : ∀ f fd, FnP K "product" s_product f fd → FnOk P w K mg base CX0 5 f fd ["one", "other"] (SpF K pre_product) := fun f fd F =>
  F.ok sc_product (fun vs H Q E s => lenF (fun ds Φ h => by
    obtain ⟨_, _, rfl, _⟩ := h; rfl) s) fun cdv A outer s H vs Q E hr h => ⟨_, PSs.nox (pss_cons (ps_expr (pe_callH h_check_two_rows (hr.mono (by decide)) (by rfl) (pa_cons (pv 0) (pa_cons (pv 1) pa_nil))))
    (pss_one (ps_ret (pe_callH h_inner (hr.mono (by decide)) (by rfl) (pa_cons (pv 0) (pa_cons (pv 1) pa_nil)))))),
  bodyF h fun ds Φ hp => by
    obtain ⟨ns, ms, rfl, r1, r2, e, q⟩ := hp
    have := r1.most
    have := r1.size
    repeat' walk_at "wp"
    exact q
⟩
theorem has_product (D : Dn K mg "product" s_product) (tx : Tx mg) (h_check_two_rows : Has P w K mg base "check_two_rows" ["one", "other"] 4 (SpF K pre_check_two_rows)) (h_inner : Has P w K mg base "inner" ["row", "other"] 1 (SpF K pre_inner)) : Has P w K mg base "product" ["one", "other"] 5 (SpF K pre_product) := has_of D (fun _ _ _ _ _ _ us hl => match us, hl with | [_, _], _ => rfl) (ok_product tx h_check_two_rows h_inner)

theorem ok_head (tx : Tx mg) (h_check_row : Has P w K mg base "check_row" ["value"] 3 (SpF K pre_check_row)) (h_first_place : Has P w K mg base "first_place" ["row"] 1 (SpF K pre_first_place)) : ∀ f fd, FnP K "head" s_head f fd → FnOk P w K mg base CX0 4 f fd ["row"] (SpF K pre_head) := fun f fd F =>
  F.ok sc_head (fun vs H Q E s => lenF (fun ds Φ h => by
    obtain ⟨_, rfl, _⟩ := h; rfl) s) fun cdv A outer s H vs Q E hr h => ⟨_, PSs.nox (pss_cons (ps_expr (pe_callH h_check_row (hr.mono (by decide)) (by rfl) (pa_cons (pv 0) pa_nil)))
    (pss_one (ps_ret (pe_callH h_first_place (hr.mono (by decide)) (by rfl) (pa_cons (pv 0) pa_nil))))),
  bodyF h fun ds Φ hp => by
    obtain ⟨ns, rfl, r, q⟩ := hp
    have := r.most
    repeat' walk_at "wp"
    exact q
⟩
theorem has_head (D : Dn K mg "head" s_head) (tx : Tx mg) (h_check_row : Has P w K mg base "check_row" ["value"] 3 (SpF K pre_check_row)) (h_first_place : Has P w K mg base "first_place" ["row"] 1 (SpF K pre_first_place)) : Has P w K mg base "head" ["row"] 4 (SpF K pre_head) := has_of D (fun _ _ _ _ _ _ us hl => match us, hl with | [_], _ => rfl) (ok_head tx h_check_row h_first_place)

theorem ok_divisor_of (tx : Tx mg) : ∀ f fd, FnP K "divisor_of" s_divisor_of f fd → FnOk P w K mg base CX0 1 f fd ["numbers"] (SpF K pre_divisor_of) := fun f fd F =>
  F.ok sc_divisor_of (fun vs H Q E s => lenF (fun ds Φ h => by
    obtain ⟨_, rfl, _⟩ := h; rfl) s) fun cdv A outer s H vs Q E hr h => ⟨_, PSs.nox (pss_cons (ps_set (i := 1) sc_divisor_of.nd rfl (.inl rfl) pe_int)
    (pss_cons (ps_for PassesOwn.never rfl (pi_tup (pv 0)) (pg_name (i := 2) sc_divisor_of.nd rfl (.inl rfl)) (pss_one (ps_set (i := 1) sc_divisor_of.nd rfl (.inl rfl) (pe_callBfun cr_gcd (by rfl) tx.gcd (pa_cons (pv 1) (pa_cons (pv 2) pa_nil))))))
    (pss_one (ps_ret (pv 1))))),
  bodyF h fun ds Φ hp => by
    obtain ⟨ns, rfl, q⟩ := hp
    repeat' walk_at "wp"
    refine s_for (js := [2]) (i_tup_ (e_var rfl ⟨_, rfl, fun i e => ∃ x, e = [.dat (tupI ns), .dat (.int (gcdL (ns.take i))), x], ⟨_, rfl⟩, fun i x e hx => ?_, ?_⟩))
    · rintro ⟨y, rfl⟩
      rw [List.getElem?_map] at hx
      cases hn : ns[i]? with
      | none => rw [hn] at hx; cases hx
      | some n =>
        rw [hn] at hx
        cases hx
        refine g_name ?_
        repeat' walk_at "wp"
        have e : gcdL (ns.take (i + 1)) = ((Nat.gcd (gcdL (ns.take i)).natAbs n.natAbs : Nat) : Int) := by
          unfold gcdL
          rw [List.take_add_one, hn, List.foldl_append]
          rfl
        exact ⟨.dat (.int n), by rw [e]; rfl⟩
    · rintro e ⟨x, rfl⟩
      repeat' walk_at "wp"
      rw [List.length_map, List.take_length]
      exact q
⟩
theorem has_divisor_of (D : Dn K mg "divisor_of" s_divisor_of) (tx : Tx mg) : Has P w K mg base "divisor_of" ["numbers"] 1 (SpF K pre_divisor_of) := has_of D (fun _ _ _ _ _ _ us hl => match us, hl with | [_], _ => rfl) (ok_divisor_of tx)

theorem ok_divisor (tx : Tx mg) (h_check_row : Has P w K mg base "check_row" ["value"] 3 (SpF K pre_check_row)) (h_divisor_of : Has P w K mg base "divisor_of" ["numbers"] 1 (SpF K pre_divisor_of)) : ∀ f fd, FnP K "divisor" s_divisor f fd → FnOk P w K mg base CX0 4 f fd ["row"] (SpF K pre_divisor) := fun f fd F =>
  F.ok sc_divisor (fun vs H Q E s => lenF (fun ds Φ h => by
    obtain ⟨_, rfl, _⟩ := h; rfl) s) fun cdv A outer s H vs Q E hr h => ⟨_, PSs.nox (pss_cons (ps_expr (pe_callH h_check_row (hr.mono (by decide)) (by rfl) (pa_cons (pv 0) pa_nil)))
    (pss_one (ps_ret (pe_callH h_divisor_of (hr.mono (by decide)) (by rfl) (pa_cons (pv 0) pa_nil))))),
  bodyF h fun ds Φ hp => by
    obtain ⟨ns, rfl, r, q⟩ := hp
    repeat' walk_at "wp"
    exact q
⟩
theorem has_divisor (D : Dn K mg "divisor" s_divisor) (tx : Tx mg) (h_check_row : Has P w K mg base "check_row" ["value"] 3 (SpF K pre_check_row)) (h_divisor_of : Has P w K mg base "divisor_of" ["numbers"] 1 (SpF K pre_divisor_of)) : Has P w K mg base "divisor" ["row"] 4 (SpF K pre_divisor) := has_of D (fun _ _ _ _ _ _ us hl => match us, hl with | [_], _ => rfl) (ok_divisor tx h_check_row h_divisor_of)

theorem ok_share (tx : Tx mg) (h_check_row : Has P w K mg base "check_row" ["value"] 3 (SpF K pre_check_row)) (h_bezout : Has P w K mg base "bezout" ["one", "other"] 2 (SpF K pre_bezout)) : ∀ f fd, FnP K "share" s_share f fd → FnOk P w K mg base CX0 4 f fd ["row"] (SpF K pre_share) := fun f fd F =>
  F.ok sc_share (fun vs H Q E s => lenF (fun ds Φ h => by
    obtain ⟨_, rfl, _⟩ := h; rfl) s) fun cdv A outer s H vs Q E hr h => ⟨_, PSs.nox (pss_cons (ps_expr (pe_callH h_check_row (hr.mono (by decide)) (by rfl) (pa_cons (pv 0) pa_nil)))
    (pss_cons (ps_set (i := 1) sc_share.nd rfl (.inl rfl) pe_int)
    (pss_cons (ps_set (i := 2) sc_share.nd rfl (.inl rfl) (pe_lst pa_nil))
    (pss_cons (ps_for PassesOwn.never rfl (pi_tup (pv 0)) (pg_name (i := 3) sc_share.nd rfl (.inl rfl)) (pss_one (ps_if (PW.pt (pw_and (pt_cmpR op_ne (pv 1) pe_int (nomark _)) (pw_and1 (pt_cmpR op_eq (pe_op op_modN (pv 3) (pv 1)) pe_int (nomark _))))) (pss_one (ps_expr (pe_bm PySem.F.plainAttrs_list PySem.F.slot_list_append PySem.F.type_list_append mt_append (pv 2) (pa_cons pe_int pa_nil)))) (pss_cons (ps_asg (pe_callH h_bezout (hr.mono (by decide)) (by rfl) (pa_cons (pv 1) (pa_cons (pv 3) pa_nil))) (pg_tup (by rfl) (pgs_cons (pg_name (i := 1) sc_share.nd rfl (.inl rfl)) (pgs_cons (pg_name (i := 4) sc_share.nd rfl (.inr rfl)) (pgs_cons (pg_name (i := 5) sc_share.nd rfl (.inl rfl)) pgs_nil)))))
    (pss_one (ps_set (i := 2) sc_share.nd rfl (.inl rfl) (pe_op op_cat (pe_lc (own := [("part", 6)]) (g := gName 6) (by rfl) sc_share.nd (pi_list (pv 2)) (blkOk_by (N := N_share) (sc := defScope s_share) (by decide +kernel)) (fun _ _ _ _ _ => (pg_name (i := 6) sc_share.nd rfl (.inl rfl))) (fun _ _ _ _ _ => pts_nil) (fun _ _ _ _ _ => (pe_op op_mul (pv 6) (pv 4)))) (pe_lst (pa_cons (pv 5) pa_nil)))))))))
    (pss_one (ps_ret (pe_callTy call_tuple_of (by rfl) tx.tuple (by decide +kernel) (pa_cons (pv 2) pa_nil)))))))),
  bodyF h fun ds Φ hp => by
    obtain ⟨ns, rfl, r, q⟩ := hp
    have r2 := r.most
    repeat' walk_at "wp"
    refine s_for (js := [3]) (i_tup_ (e_var rfl ⟨_, rfl, fun i e => ∃ (ps : List Int) (a b c : Slot), e = [.dat (tupI ns), .dat (.int (gcdL (ns.take i))), .own (ps.map .int), a, b, c, .no] ∧ ps.length = i ∧ innerI (ns.take i) ps = gcdL (ns.take i), ⟨[], _, _, _, rfl, rfl, rfl⟩, fun i x e hx => ?_, ?_⟩))
    · rintro ⟨ps, a, b, c, rfl, hl, hin⟩
      have hlt : i < ns.length := by
        have := (List.getElem?_eq_some_iff.mp hx).1
        rw [List.length_map] at this
        exact this
      rw [List.getElem?_map, List.getElem?_eq_getElem hlt] at hx
      cases hx
      have hn := r.size _ (List.getElem_mem hlt)
      have c0 := gcdL_nonneg ns i (by omega)
      have c1 := gcdL_le r.size i (by omega)
      have gs := gcdL_succ (List.getElem?_eq_getElem hlt)
      have tk := take_map_succ (List.getElem?_eq_getElem hlt)
      have tl : (ns.take i).length = ps.length := by rw [List.length_take]; omega
      refine g_name ?_
      refine s_if (WpT.mono (Φ := fun b => b = (!decide (gcdL (ns.take i) = 0) && decide ((ns[i]).fmod (gcdL (ns.take i)) = 0))) ?_ ?_)
      · repeat' walk_at "wp"
        refine iteNP (fun h => ?_) (fun h => ?_)
        · repeat' walk_at "wp"
          · exact h
          · rw [decide_eq_false h]
            rfl
        · rw [decide_eq_true h]
          rfl
      · intro t ht
        subst ht
        refine iteB (fun h => ?_) (fun h => ?_)
        · rw [Bool.and_eq_true, decide_eq_true_eq] at h
          have hg := gcd_of_fmod h.2 c0
          repeat' walk_at "wp"
          refine ⟨ps ++ [0], .dat (.int ns[i]), b, c, ?_, by rw [List.length_append, hl]; rfl, ?_⟩
          · rw [gs, hg, List.map_append]
            rfl
          · rw [gs, hg, tk, inner_app tl, hin]
            omega
        · refine s_seq (s_asgG (js := [1] ++ ([4] ++ ([5] ++ []))) ?_)
          repeat' walk_at "wp"
          intro g s t e1 e2 e3
          refine g_tup_ [_, _, _] rfl rfl (g_cons (g_name (g_cons (g_name (g_cons (g_name (g_nil ?_)))))))
          refine s_ownF (f_cat (f_own (i := 2) rfl (f_mapL (fun y => .int (toI y * s)) rfl (by rw [List.length_map]; omega) (fun y hy => ?_) ⟨?_, f_lst ?_⟩)))
          · obtain ⟨z, _, rfl⟩ := List.mem_map.mp hy
            repeat' walk_at "wp"
            · exact .inr ⟨by omega, by omega⟩
            · rfl
          · exact flat_ints (fun y => toI y * s) _
          · repeat' walk_at "wp"
            refine ⟨ps.map (· * s) ++ [t], .dat (.int ns[i]), .dat (.int s), .dat (.int t), ?_, by rw [List.length_append, List.length_map, hl]; rfl, ?_⟩
            · rw [gs, ← e2, List.map_append, List.map_map, List.map_map]
              rfl
            · rw [gs, ← e2, tk, inner_app (by rw [List.length_map]; exact tl), inner_times, hin, e1, Int.mul_comm s, Int.mul_comm t]
    · rintro e ⟨ps, a, b, c, rfl, hl, hin⟩
      rw [List.length_map] at hl hin
      rw [List.take_length] at hin
      refine s_pub (i := 2) rfl ?_
      repeat' walk_at "wp"
      exact q ps hl hin
⟩
theorem has_share (D : Dn K mg "share" s_share) (tx : Tx mg) (h_check_row : Has P w K mg base "check_row" ["value"] 3 (SpF K pre_check_row)) (h_bezout : Has P w K mg base "bezout" ["one", "other"] 2 (SpF K pre_bezout)) : Has P w K mg base "share" ["row"] 4 (SpF K pre_share) := has_of D (fun _ _ _ _ _ _ us hl => match us, hl with | [_], _ => rfl) (ok_share tx h_check_row h_bezout)

theorem ok_is_share (tx : Tx mg) (h_check_row : Has P w K mg base "check_row" ["value"] 3 (SpF K pre_check_row)) (h_are_integers : Has P w K mg base "are_integers" ["value", "many"] 2 (SpF K pre_are_integers)) (h_inner : Has P w K mg base "inner" ["row", "other"] 1 (SpF K pre_inner)) (h_divisor_of : Has P w K mg base "divisor_of" ["numbers"] 1 (SpF K pre_divisor_of)) : ∀ f fd, FnP K "is_share" s_is_share f fd → FnOk P w K mg base CX0 4 f fd ["row", "value"] (SpF K pre_is_share) := fun f fd F =>
  F.ok sc_is_share (fun vs H Q E s => lenF (fun ds Φ h => by
    obtain ⟨_, _, rfl, _⟩ := h; rfl) s) fun cdv A outer s H vs Q E hr h => ⟨_, PSs.nox (pss_cons (ps_expr (pe_callH h_check_row (hr.mono (by decide)) (by rfl) (pa_cons (pv 0) pa_nil)))
    (pss_one (ps_ret (pe_and (pe_callH h_are_integers (hr.mono (by decide)) (by rfl) (pa_cons (pv 1) (pa_cons (pe_callB call_len_seq (by rfl) tx.len (by decide +kernel) (pa_cons (pv 0) pa_nil)) pa_nil))) (pe_one (pe_cmpR op_eq (pe_callH h_inner (hr.mono (by decide)) (by rfl) (pa_cons (pv 0) (pa_cons (pv 1) pa_nil))) (pe_callH h_divisor_of (hr.mono (by decide)) (by rfl) (pa_cons (pv 0) pa_nil)) (nomark _))))))),
  bodyF h fun ds Φ hp => by
    obtain ⟨ns, v, rfl, r, hv, q⟩ := hp
    have r2 := r.most
    have r3 := r.size
    repeat' walk_at "wp"
    refine iteB (fun e => ?_) (fun e => ?_)
    · cases v with
      | tuple xs =>
        have e2 : (decide ((xs.length : Int) = ((ns.map PyData.int).length : Int)) && xs.all isInt) = true := e
        have e3 := (Bool.and_eq_true_iff.mp e2).2
        have e4 := ints_of e3
        have q2 : Φ (.bool (areInts (.tuple xs) ns.length && decide (innerI ns (xs.map toI) = gcdL ns))) := q
        rw [List.length_map] at e
        rw [e, Bool.true_and] at q2
        generalize xs.map toI = ms at e4 q2
        subst e4
        repeat' walk_at "wp"
        exact q2
      | _ => cases e
    · have q2 : Φ (.bool (areInts v ns.length && _)) := q
      rw [List.length_map] at e
      rw [e, Bool.false_and] at q2
      exact q2
⟩
theorem has_is_share (D : Dn K mg "is_share" s_is_share) (tx : Tx mg) (h_check_row : Has P w K mg base "check_row" ["value"] 3 (SpF K pre_check_row)) (h_are_integers : Has P w K mg base "are_integers" ["value", "many"] 2 (SpF K pre_are_integers)) (h_inner : Has P w K mg base "inner" ["row", "other"] 1 (SpF K pre_inner)) (h_divisor_of : Has P w K mg base "divisor_of" ["numbers"] 1 (SpF K pre_divisor_of)) : Has P w K mg base "is_share" ["row", "value"] 4 (SpF K pre_is_share) := has_of D (fun _ _ _ _ _ _ us hl => match us, hl with | [_, _], _ => rfl) (ok_is_share tx h_check_row h_are_integers h_inner h_divisor_of)

theorem ok__law_pot (tx : Tx mg) : ∀ f fd, FnP K "_law_pot" s__law_pot f fd → FnOk P w K mg base CX0 1 f fd ["_law_script", "_law_k"] (SpN K pre__law_pot) := fun f fd F =>
  F.ok sc__law_pot (fun vs H Q E s => lenN (fun ds Φ h => by
    obtain ⟨_, rfl, _⟩ := h; rfl) s) fun cdv A outer s H vs Q E hr h => ⟨_, PSs.nox (pss_cons (ps_set (i := 2) sc__law_pot.nd rfl (.inl rfl) (pe_op op_add (pe_op op_mul pe_int (pv 1)) pe_int))
    (pss_cons (ps_if (pt_cmpR op_lt (pv 1) (pe_callB call_len_seq (by rfl) tx.len (by decide +kernel) (pa_cons (pv 0) pa_nil)) (nomark _)) (pss_one (ps_set (i := 2) sc__law_pot.nd rfl (.inl rfl) (pe_callB call_abs (by rfl) tx.abs (by decide +kernel) (pa_cons (pe_ix ix_list (pv 0) (pv 1) (fun _ _ => rfl)) pa_nil)))) pss_nil)
    (pss_one (ps_ret (pe_lst (pa_cons (pe_callB (call_max2 rfl) (by rfl) tx.max (by decide +kernel) (pa_cons pe_int (pa_cons (pe_op op_sub (pv 2) (pe_op op_pow pe_int pe_int)) pa_nil))) (pa_cons (pe_op op_add (pe_op op_modN (pe_op op_mul (pe_callTy call_int1 (by rfl) tx.int (by decide +kernel) (pa_cons (pe_op op_add (pe_op op_modN (pe_callTy call_int1 (by rfl) tx.int (by decide +kernel) (pa_cons (pv 2) pa_nil)) pe_int) pe_int) pa_nil)) (pe_op op_pow (pe_op op_add (pe_op op_mul pe_int (pv 1)) pe_int) pe_int)) pe_int) pe_int) pa_nil))))))),
  bodyN h fun ds Φ hp => by
    obtain ⟨ns, rfl, nl, q⟩ := hp
    refine s_seq (s_asg (WpE.mono (Φ := fun d => ∃ c : Int, d = .int c) ?_ ?_))
    · repeat' walk_at "wp"
      · exact .inl ⟨by decide, by decide⟩
      · exact ⟨_, rfl⟩
    rintro d ⟨c, rfl⟩
    refine s_seq (s_cut (fun e => ∃ c : Int, e = [.dat (.list (ns.map .int)), .dat (.int 0), .dat (.int c)]) (s_if ?_) ?_)
    · repeat' walk_at "wp"
      refine iteP (fun h => ?_) (fun h => ?_)
      · repeat' walk_at "wp"
        refine od_ixL_ (ix_ints (by decide) (by rw [List.length_map] at h; omega)) ?_
        repeat' walk_at "wp"
        exact ⟨_, rfl⟩
      · exact s_next ⟨_, rfl⟩
    · clear c
      rintro e ⟨c, rfl⟩
      have f1 := Int.fmod_nonneg_of_pos c (show (0 : Int) < 2147483549 by decide)
      have f2 := Int.fmod_lt_of_pos c (show (0 : Int) < 2147483549 by decide)
      refine s_retF (f_lst ?_)
      repeat' walk_at "wp"
      all_goals try first | decide | exact .inl ⟨by omega, by omega⟩ | exact ⟨by decide, by decide, by decide⟩
      refine q _ _ ⟨?_, ?_, ?_⟩
      · split <;> omega
      · have := Int.fmod_nonneg_of_pos ((c.fmod 2147483549 + 55) * (2 * 0 + 3) ^ Int.toNat 3) (show (0 : Int) < 2147483477 by decide)
        omega
      · have := Int.fmod_lt_of_pos ((c.fmod 2147483549 + 55) * (2 * 0 + 3) ^ Int.toNat 3) (show (0 : Int) < 2147483477 by decide)
        omega
⟩
theorem has__law_pot (D : Dn K mg "_law_pot" s__law_pot) (tx : Tx mg) : Has P w K mg base "_law_pot" ["_law_script", "_law_k"] 1 (SpN K pre__law_pot) := has_of D (fun _ _ _ _ _ _ us hl => match us, hl with | [_, _], _ => rfl) (ok__law_pot tx)

theorem ok__law_draw (tx : Tx mg) : ∀ f fd, FnP K "_law_draw" s__law_draw f fd → FnOk P w K mg base CX0 1 f fd ["_law_pot_here", "_law_room"] (SpG K pre__law_draw) := fun f fd F =>
  F.ok sc__law_draw (fun vs H Q E s => lenG (fun ds Φ h => by
    obtain ⟨_, rfl, _⟩ := h; rfl) s) fun cdv A outer s H vs Q E hr h => ⟨_, PSs.nox (pss_cons (ps_if (pt_cmpR op_gt (pe_ix ix_list (pv 0) pe_int (fun _ _ => rfl)) pe_int (nomark _)) (pss_cons (ps_asg (pe_callB call_divmod (by rfl) tx.divmod (by decide +kernel) (pa_cons (pe_ix ix_list (pv 0) pe_int (fun _ _ => rfl)) (pa_cons (pv 1) pa_nil))) (pg_tup (by rfl) (pgs_cons (pg_sub (pv 0) pe_int set_list) (pgs_cons (pg_name (i := 2) sc__law_draw.nd rfl (.inl rfl)) pgs_nil))))
    (pss_one (ps_ret (pv 2)))) pss_nil)
    (pss_cons (ps_asg (pe_op op_modN (pe_callTy call_int1 (by rfl) tx.int (by decide +kernel) (pa_cons (pe_op op_add (pe_op op_mul (pe_ix ix_list (pv 0) pe_int (fun _ _ => rfl)) pe_int) pe_int) pa_nil)) pe_int) (pg_sub (pv 0) pe_int set_list))
    (pss_one (ps_ret (pe_op op_modN (pe_callTy call_int1 (by rfl) tx.int (by decide +kernel) (pa_cons (pe_op op_fdivN (pe_op op_modN (pe_callTy call_int1 (by rfl) tx.int (by decide +kernel) (pa_cons (pe_op op_mul (pe_ix ix_list (pv 0) pe_int (fun _ _ => rfl)) (pe_ix ix_list (pv 0) pe_int (fun _ _ => rfl))) pa_nil)) pe_int) pe_int) pa_nil)) (pv 1)))))),
  bodyG h fun q ds Φ hp => by
    obtain ⟨n, rfl, n0, n1, q⟩ := hp
    refine s_seq (s_if ?_)
    repeat' walk_at "wp"
    intro a a0
    repeat' walk_at "wp"
    refine iteP (fun h => ?_) (fun h => ?_)
    · refine s_seq (s_potDig rfl (by decide) ?_)
      repeat' walk_at "wp"
      intro b b0
      repeat' walk_at "wp"
      refine cb_divmod ⟨by omega, by omega⟩ ?_
      refine ⟨_, _, rfl, Int.ediv_nonneg b0 (by omega), ?_⟩
      repeat' walk_at "wp"
      exact q _ (Int.emod_nonneg _ (by omega)) (Int.emod_lt_of_pos _ (by omega))
    · repeat' walk_at "wp"
      refine s_pot1 rfl ?_
      repeat' walk_at "wp"
      intro b b0 b1
      repeat' walk_at "wp"
      · exact .inl ⟨by omega, by omega⟩
      · decide
      refine ⟨?_, Int.lt_trans (Int.fmod_lt_of_pos _ (show (0 : Int) < 2147483587 by decide)) (by decide), ?_⟩
      · exact Int.fmod_nonneg_of_pos _ (by decide)
      repeat' walk_at "wp"
      intro c c0 c1
      repeat' walk_at "wp"
      intro d d0 d1
      repeat' walk_at "wp"
      · exact .inl ⟨by omega, by omega⟩
      · decide
      · exact ⟨by decide, by decide⟩
      · omega
      exact q _ (Int.fmod_nonneg_of_pos _ (by omega)) (Int.fmod_lt_of_pos _ (by omega))
⟩
theorem has__law_draw (D : Dn K mg "_law_draw" s__law_draw) (tx : Tx mg) : Has P w K mg base "_law_draw" ["_law_pot_here", "_law_room"] 1 (SpG K pre__law_draw) := has_of D (fun _ _ _ _ _ _ us hl => match us, hl with | [_, _], _ => rfl) (ok__law_draw tx)

theorem ok__law_is_integer (tx : Tx mg) : ∀ f fd, FnP K "_law_is_integer" s__law_is_integer f fd → FnOk P w K mg base CX0 1 f fd ["_law_value"] (SpF K pre__law_is_integer) := fun f fd F =>
  F.ok sc__law_is_integer (fun vs H Q E s => lenF (fun ds Φ h => by
    obtain ⟨x, rfl, _⟩ := h; rfl) s) fun cdv A outer s H vs Q E hr h => ⟨_, PSs.nox (pss_one (ps_ret (pe_and (pe_callB call_isi (by rfl) tx.isinstance (by decide +kernel) (pa_cons (pv 0) (pa_cons (pe_bltn (v := .ty "int") (by rfl) tx.int (by decide +kernel) rfl) pa_nil))) (pe_one (pe_not (pe_callB call_isi (by rfl) tx.isinstance (by decide +kernel) (pa_cons (pv 0) (pa_cons (pe_bltn (v := .ty "bool") (by rfl) tx.bool (by decide +kernel) rfl) pa_nil)))))))),
  bodyF h fun ds Φ hp => by
    obtain ⟨x, rfl, q⟩ := hp
    cases x with
    | dict kvs => exact s_dict 0 rfl
    | _ => (repeat' walk_at "wp") <;> exact q
⟩
theorem has__law_is_integer (D : Dn K mg "_law_is_integer" s__law_is_integer) (tx : Tx mg) : Has P w K mg base "_law_is_integer" ["_law_value"] 1 (SpF K pre__law_is_integer) := has_of D (fun _ _ _ _ _ _ us hl => match us, hl with | [_], _ => rfl) (ok__law_is_integer tx)

theorem ok__law_gcd (tx : Tx mg) : ∀ f fd, FnP K "_law_gcd" s__law_gcd f fd → FnOk P w K mg base CX0 1 f fd ["_law_one", "_law_other"] (SpF K pre__law_gcd) := fun f fd F =>
  F.ok sc__law_gcd (fun vs H Q E s => lenF (fun ds Φ h => by
    obtain ⟨_, _, rfl, _⟩ := h; rfl) s) fun cdv A outer s H vs Q E hr h => ⟨_, PSs.nox (pss_cons (ps_while PassesOwn.never (pt_cmpR op_ne (pv 1) pe_int (nomark _)) (pss_one (ps_par (i := 0) (j := 1) (by rfl) sc__law_gcd.nd rfl rfl (by decide) rfl rfl (pa_cons (pv 1) (pa_cons (pe_op op_modN (pv 0) (pv 1)) pa_nil)) (by rfl))))
    (pss_one (ps_ret (pe_callB call_abs (by rfl) tx.abs (by decide +kernel) (pa_cons (pv 0) pa_nil))))),
  bodyF h fun ds Φ hp => by
    obtain ⟨a, b, rfl, q⟩ := hp
    refine s_seq (s_while (fun m e => ∃ x y : Int, e = [.dat (.int x), .dat (.int y)] ∧ Nat.gcd x.natAbs y.natAbs = Nat.gcd a.natAbs b.natAbs ∧ y.natAbs = m) b.natAbs ⟨a, b, rfl, rfl, rfl⟩ ?_)
    rintro m e ⟨x, y, rfl, hg, rfl⟩
    repeat' walk_at "wp"
    refine iteNP (fun h => ?_) (fun h => ?_)
    · repeat' walk_at "wp"
      · exact h
      · refine ⟨_, (fmod_small h).1, y, x.fmod y, rfl, ?_, rfl⟩
        have e : x.fmod y = x - x.fdiv y * y := by rw [Int.fmod_def, Int.mul_comm]
        rw [e, gcd_step, hg]
    · subst h
      repeat' walk_at "wp"
      have e : (if x < 0 then -x else x) = ((Nat.gcd a.natAbs b.natAbs : Nat) : Int) := by
        rw [← hg]
        simp
        split <;> omega
      rw [e]
      exact q
⟩
theorem has__law_gcd (D : Dn K mg "_law_gcd" s__law_gcd) (tx : Tx mg) : Has P w K mg base "_law_gcd" ["_law_one", "_law_other"] 1 (SpF K pre__law_gcd) := has_of D (fun _ _ _ _ _ _ us hl => match us, hl with | [_, _], _ => rfl) (ok__law_gcd tx)

theorem ok__law_divisor (tx : Tx mg) (h__law_gcd : Has P w K mg base "_law_gcd" ["_law_one", "_law_other"] 1 (SpF K pre__law_gcd)) : ∀ f fd, FnP K "_law_divisor" s__law_divisor f fd → FnOk P w K mg base CX0 2 f fd ["_law_row_here"] (SpF K pre__law_divisor) := fun f fd F =>
  F.ok sc__law_divisor (fun vs H Q E s => lenF (fun ds Φ h => by
    obtain ⟨_, rfl, _⟩ := h; rfl) s) fun cdv A outer s H vs Q E hr h => ⟨_, PSs.nox (pss_cons (ps_set (i := 1) sc__law_divisor.nd rfl (.inl rfl) pe_int)
    (pss_cons (ps_for PassesOwn.never rfl (pi_tup (pv 0)) (pg_name (i := 2) sc__law_divisor.nd rfl (.inl rfl)) (pss_one (ps_set (i := 1) sc__law_divisor.nd rfl (.inl rfl) (pe_callH h__law_gcd (hr.mono (by decide)) (by rfl) (pa_cons (pv 1) (pa_cons (pv 2) pa_nil))))))
    (pss_one (ps_ret (pv 1))))),
  bodyF h fun ds Φ hp => by
    obtain ⟨ns, rfl, q⟩ := hp
    repeat' walk_at "wp"
    refine s_for (js := [2]) (i_tup_ (e_var rfl ⟨_, rfl, fun i e => ∃ x, e = [.dat (tupI ns), .dat (.int (gcdL (ns.take i))), x], ⟨_, rfl⟩, fun i x e hx => ?_, ?_⟩))
    · rintro ⟨y, rfl⟩
      rw [List.getElem?_map] at hx
      cases hn : ns[i]? with
      | none => rw [hn] at hx; cases hx
      | some n =>
        rw [hn] at hx
        cases hx
        refine g_name ?_
        repeat' walk_at "wp"
        exact ⟨.dat (.int n), by rw [gcdL_succ hn]; rfl⟩
    · rintro e ⟨x, rfl⟩
      repeat' walk_at "wp"
      rw [List.length_map, List.take_length]
      exact q
⟩
theorem has__law_divisor (D : Dn K mg "_law_divisor" s__law_divisor) (tx : Tx mg) (h__law_gcd : Has P w K mg base "_law_gcd" ["_law_one", "_law_other"] 1 (SpF K pre__law_gcd)) : Has P w K mg base "_law_divisor" ["_law_row_here"] 2 (SpF K pre__law_divisor) := has_of D (fun _ _ _ _ _ _ us hl => match us, hl with | [_], _ => rfl) (ok__law_divisor tx h__law_gcd)

theorem ok__law_product (tx : Tx mg) : ∀ f fd, FnP K "_law_product" s__law_product f fd → FnOk P w K mg base CX0 1 f fd ["_law_one", "_law_other"] (SpF K pre__law_product) := fun f fd F =>
  F.ok sc__law_product (fun vs H Q E s => lenF (fun ds Φ h => by
    obtain ⟨_, _, rfl, _⟩ := h; rfl) s) fun cdv A outer s H vs Q E hr h => ⟨_, PSs.nox (pss_one (ps_ret (pe_callB (cr_sum rfl) (by rfl) tx.sum (by decide +kernel) (pa_cons (pe_lc (own := [("_law_near", 2), ("_law_far", 3)]) (g := gTup K 2 (gCons (gName 2) (gCons (gName 3) gNil))) (by rfl) sc__law_product.nd (RZ.pi_zipA (by rfl) tx.zip (pa_cons (pv 0) (pa_cons (pv 1) pa_nil))) (blkOk_by (N := N__law_product) (sc := defScope s__law_product) (by decide +kernel)) (fun _ _ _ _ _ => (pg_tup (by rfl) (pgs_cons (pg_name (i := 2) sc__law_product.nd rfl (.inl rfl)) (pgs_cons (pg_name (i := 3) sc__law_product.nd rfl (.inl rfl)) pgs_nil)))) (fun _ _ _ _ _ => pts_nil) (fun _ _ _ _ _ => (pe_op op_mul (pv 2) (pv 3)))) pa_nil)))),
  bodyF h fun ds Φ hp => by
    obtain ⟨row, other, rfl, hb, hl, q⟩ := hp
    repeat' walk_at "wp"
    refine e_mapZ (fun a b => .int (toI a * toI b)) rfl rfl (by rw [List.length_map]; omega) (fun a b ha hb' => ?_) ?_
    · obtain ⟨x, hx, rfl⟩ := List.mem_map.mp ha
      obtain ⟨y, _, rfl⟩ := List.mem_map.mp hb'
      repeat' walk_at "wp"
      · have := hb x hx
        exact .inl ⟨by omega, by omega⟩
      · rfl
    · exact a_nil (cb_sum_ (List.zipWith (fun a b => a * b) row other) (zip_ints (fun a b => a * b) row other) q)
⟩
theorem has__law_product (D : Dn K mg "_law_product" s__law_product) (tx : Tx mg) : Has P w K mg base "_law_product" ["_law_one", "_law_other"] 1 (SpF K pre__law_product) := has_of D (fun _ _ _ _ _ _ us hl => match us, hl with | [_, _], _ => rfl) (ok__law_product tx)

theorem ok__law_head (tx : Tx mg) : ∀ f fd, FnP K "_law_head" s__law_head f fd → FnOk P w K mg base CX0 1 f fd ["_law_row_here"] (SpF K pre__law_head) := fun f fd F =>
  F.ok sc__law_head (fun vs H Q E s => lenF (fun ds Φ h => by
    obtain ⟨_, rfl, _⟩ := h; rfl) s) fun cdv A outer s H vs Q E hr h => ⟨_, PSs.nox (pss_cons (ps_setLc (i := 1)  (own := [("_law_at", 2), ("_law_number_here", 3)]) (g := gTup K 2 (gCons (gName 2) (gCons (gName 3) gNil))) (by rfl) sc__law_head.nd rfl rfl (sw_true rfl rfl rfl (by decide +kernel)) (FwE.pi_enumT (by rfl) tx.enumerate (pa_cons (pv 0) pa_nil)) (blkOk_by (N := N__law_head) (sc := defScope s__law_head) (by decide +kernel)) (fun _ _ _ _ _ => (pg_tup (by rfl) (pgs_cons (pg_name (i := 2) sc__law_head.nd rfl (.inl rfl)) (pgs_cons (pg_name (i := 3) sc__law_head.nd rfl (.inl rfl)) pgs_nil)))) (fun _ _ _ _ _ => (pts_one (pt_cmpR op_ne (pv 3) pe_int (nomark _)))) (fun _ _ _ _ _ => (pv 2)))
    (pss_one (ps_ret (pe_ifExp (pt_cmpR (op_neD (hu64 hr)) (pv 1) (pe_lst pa_nil) (nomark _)) (pe_ix ix_list (pv 1) pe_int (fun _ _ => rfl)) pe_non)))),
  bodyF h fun ds Φ hp => by
    obtain ⟨ns, rfl, hl, q⟩ := hp
    refine s_seq (s_asg (e_new (f_lc (js := [2] ++ ([3] ++ [])) (by decide) (i_enumT_ (a_cons (e_var rfl (a_nil ⟨_, rfl, by rw [enumD_len, List.length_map]; omega, fun i acc => acc = ((List.range i).filter fun j => decide (ns[j]? ≠ some 0)).map (fun j => PyData.int (j : Nat)), rfl, fun i x acc hx inv _ => ?_, fun acc _ inv => ?_⟩)))))))
    · have hlt : i < ns.length := by
        have := (List.getElem?_eq_some_iff.mp hx).1
        rw [enumD_len, List.length_map] at this
        exact this
      have e1 := enumD_get (xs := ns.map .int) (i := i) (x := .int ns[i]) (by rw [List.getElem?_map, List.getElem?_eq_getElem hlt]; rfl)
      rw [e1] at hx
      cases hx
      have e0 : ns[i]? = some ns[i] := List.getElem?_eq_getElem hlt
      refine g_tup_ [_, _] rfl rfl (g_cons (g_name (g_cons (g_name (g_nil ?_)))))
      repeat' walk_at "wp"
      refine iteNP (fun h => ?_) (fun h => ?_)
      · repeat' walk_at "wp"
        dsimp only
        rw [inv, List.range_succ, List.filter_append, List.map_append]
        have : decide (ns[i]? ≠ some 0) = true := decide_eq_true (by rw [e0]; exact fun z => h (Option.some.inj z))
        rw [List.filter_cons, if_pos this]
        rfl
      · dsimp only
        rw [inv, List.range_succ, List.filter_append, List.map_append]
        have : ¬ decide (ns[i]? ≠ some 0) = true := by rw [e0, h]; decide
        rw [List.filter_cons, if_neg this]
        show _ = _ ++ []
        rw [List.append_nil]
    · rw [enumD_len, List.length_map] at inv
      have ei : acc = (nz ns).map (fun j => PyData.int (j : Nat)) := inv
      subst ei
      have tmL : Tm (.list ((nz ns).map fun j => PyData.int (j : Nat))) 1 1000 := by
        refine (tm_list (k := 0) (b := 0) (n := 1000) (fun x hx => ?_) ?_).mono (Nat.le_refl _) (by omega)
        · obtain ⟨j, hj, rfl⟩ := List.mem_map.mp hx
          have := List.mem_range.mp (List.mem_filter.mp hj).1
          exact tm_int (by omega) (by omega)
        · rw [List.length_map]
          have := List.length_filter_le (fun j => decide (ns[j]? ≠ some 0)) (List.range ns.length)
          rw [List.length_range] at this
          unfold nz
          omega
      repeat' walk_at "wp"
      refine od_neD_ (tmL.shaped (by decide)) (by decide) ?_
      rw [firstD_nz] at q
      cases hz : nz ns with
      | nil =>
        rw [hz] at q
        show ∃ c, PyData.bool (!true) = PyData.bool c ∧ _
        repeat' walk_at "wp"
        exact q
      | cons j js =>
        rw [hz] at q
        show ∃ c, PyData.bool (!false) = PyData.bool c ∧ _
        repeat' walk_at "wp"
        exact od_ixL_ (d := .int j) (atI_nat (j := 0) rfl) q
⟩
theorem has__law_head (D : Dn K mg "_law_head" s__law_head) (tx : Tx mg) : Has P w K mg base "_law_head" ["_law_row_here"] 1 (SpF K pre__law_head) := has_of D (fun _ _ _ _ _ _ us hl => match us, hl with | [_], _ => rfl) (ok__law_head tx)

theorem ok__law_number (tx : Tx mg) (h__law_draw : Has P w K mg base "_law_draw" ["_law_pot_here", "_law_room"] 1 (SpG K pre__law_draw)) : ∀ f fd, FnP K "_law_number" s__law_number f fd → FnOk P w K mg base CX0 2 f fd ["_law_pot_here"] (SpG K pre__law_number) := fun f fd F =>
  F.ok sc__law_number (fun vs H Q E s => lenG (fun ds Φ h => by
    obtain ⟨rfl, _⟩ := h; rfl) s) fun cdv A outer s H vs Q E hr h => ⟨_, PSs.nox (pss_cons (ps_set (i := 1) sc__law_number.nd rfl (.inl rfl) (pe_callH h__law_draw (hr.mono (by decide)) (by rfl) (pa_cons (pv 0) (pa_cons pe_int pa_nil))))
    (pss_cons (ps_if (pt_cmpR op_eq (pv 1) pe_int (nomark _)) (pss_one (ps_ret (pe_op op_sub (pe_callH h__law_draw (hr.mono (by decide)) (by rfl) (pa_cons (pv 0) (pa_cons pe_int pa_nil))) pe_int))) pss_nil)
    (pss_one (ps_ret (pe_ifExp (pt_cmpR op_lt (pv 1) pe_int (nomark _)) (pe_op op_sub (pe_callH h__law_draw (hr.mono (by decide)) (by rfl) (pa_cons (pv 0) (pa_cons pe_int pa_nil))) pe_int) pe_int))))),
  bodyG h fun q ds Φ hp => by
    obtain ⟨rfl, q⟩ := hp
    repeat' walk_at "wp"
    intro r r0 r1
    repeat' walk_at "wp"
    refine iteP (fun h => ?_) (fun h => ?_)
    · repeat' walk_at "wp"
      intro x x0 x1
      repeat' walk_at "wp"
      exact q _ (by omega) (by omega)
    · repeat' walk_at "wp"
      refine iteP (fun h => ?_) (fun h => ?_)
      · repeat' walk_at "wp"
        intro x x0 x1
        repeat' walk_at "wp"
        exact q _ (by omega) (by omega)
      · repeat' walk_at "wp"
        exact q _ (by omega) (by omega)
⟩
theorem has__law_number (D : Dn K mg "_law_number" s__law_number) (tx : Tx mg) (h__law_draw : Has P w K mg base "_law_draw" ["_law_pot_here", "_law_room"] 1 (SpG K pre__law_draw)) : Has P w K mg base "_law_number" ["_law_pot_here"] 2 (SpG K pre__law_number) := has_of D (fun _ _ _ _ _ _ us hl => match us, hl with | [_], _ => rfl) (ok__law_number tx h__law_draw)

theorem ok__law_row (tx : Tx mg) (h__law_number : Has P w K mg base "_law_number" ["_law_pot_here"] 2 (SpG K pre__law_number)) : ∀ f fd, FnP K "_law_row" s__law_row f fd → FnOk P w K mg base CX0 3 f fd ["_law_pot_here", "_law_many"] (SpG K pre__law_row) := fun f fd F =>
  F.ok sc__law_row (fun vs H Q E s => lenG (fun ds Φ h => by
    obtain ⟨_, rfl, _⟩ := h; rfl) s) fun cdv A outer s H vs Q E hr h => ⟨_, PSs.nox (pss_cons (ps_set (i := 2) sc__law_row.nd rfl (.inl rfl) (pe_lst pa_nil))
    (pss_cons (ps_for PassesOwn.never rfl (pi_range1 (by rfl) tx.range (pa_cons (pv 1) pa_nil)) (pg_name (i := 3) sc__law_row.nd rfl (.inl rfl)) (pss_one (ps_expr (pe_bm PySem.F.plainAttrs_list PySem.F.slot_list_append PySem.F.type_list_append mt_append (pv 2) (pa_cons (pe_callH h__law_number (hr.mono (by decide)) (by rfl) (pa_cons (pv 0) pa_nil)) pa_nil)))))
    (pss_one (ps_ret (pe_callTy call_tuple_of (by rfl) tx.tuple (by decide +kernel) (pa_cons (pv 2) pa_nil)))))),
  bodyG h fun q ds Φ hp => by
    obtain ⟨n, rfl, hn, q⟩ := hp
    repeat' walk_at "wp"
    refine s_for (js := [3]) (i_rng1 (a_cons (e_var rfl (a_nil ⟨_, rfl, by omega, by omega, fun i e => ∃ (ns : List Int) (s : Slot), e = [.pot, .dat (.int n), .own (ns.map .int), s] ∧ ns.length = i ∧ ∀ m ∈ ns, -999 ≤ m ∧ m ≤ 999, ⟨[], _, rfl, rfl, fun _ h => nomatch h⟩, fun i x e hx => ?_, ?_⟩))))
    · rintro ⟨ns, s, rfl, hl, hs⟩
      refine g_name ?_
      have hlt : i < n := by
        have := (List.getElem?_eq_some_iff.mp hx).1
        rw [rng_len] at this
        omega
      refine s_app2 rfl ?_
      repeat' walk_at "wp"
      refine ⟨rfl, fun r r0 r1 => ⟨by rw [List.length_map]; omega, ns ++ [r], .dat x, ?_, by rw [List.length_append, hl]; rfl, fun m hm => ?_⟩⟩
      · rw [List.map_append]
        rfl
      · rcases List.mem_append.mp hm with z | z
        · exact hs m z
        · rw [List.mem_singleton.mp z]
          exact ⟨r0, r1⟩
    · rintro e ⟨ns, s, rfl, hl, hs⟩
      refine s_pub (i := 2) rfl ?_
      repeat' walk_at "wp"
      rw [rng_len] at hl
      exact q ns (by omega) hs
⟩
theorem has__law_row (D : Dn K mg "_law_row" s__law_row) (tx : Tx mg) (h__law_number : Has P w K mg base "_law_number" ["_law_pot_here"] 2 (SpG K pre__law_number)) : Has P w K mg base "_law_row" ["_law_pot_here", "_law_many"] 3 (SpG K pre__law_row) := has_of D (fun _ _ _ _ _ _ us hl => match us, hl with | [_, _], _ => rfl) (ok__law_row tx h__law_number)

theorem ok__law_pair_right (tx : Tx mg) (h__law_row : Has P w K mg base "_law_row" ["_law_pot_here", "_law_many"] 3 (SpG K pre__law_row)) (h__law_draw : Has P w K mg base "_law_draw" ["_law_pot_here", "_law_room"] 1 (SpG K pre__law_draw)) (h_added : Has P w K mg base "added" ["one", "other"] 5 (SpF K pre_added)) (h_taken : Has P w K mg base "taken" ["row", "many"] 4 (SpF K pre_taken)) (h_product : Has P w K mg base "product" ["one", "other"] 5 (SpF K pre_product)) (h_is_row : Has P w K mg base "is_row" ["value"] 2 (SpF K pre_is_row)) (h__law_product : Has P w K mg base "_law_product" ["_law_one", "_law_other"] 1 (SpF K pre__law_product)) (hk_added : HasK P w K mg base "added" ["one", "other"] ["other", "one"] 5 (SpF K pre_added) (onlyK swap2)) (hk_taken : HasK P w K mg base "taken" ["row", "many"] ["many", "row"] 4 (SpF K pre_taken) (onlyK swap2)) (hk_product : HasK P w K mg base "product" ["one", "other"] ["other", "one"] 5 (SpF K pre_product) (onlyK swap2)) : ∀ f fd, FnP K "_law_pair_right" s__law_pair_right f fd → FwG.FnG P w K mg base CX0 6 f fd ["_law_pot_here", "_law_one", "_law_other"] (SpG K pre__law_pair_right) := fun f fd F =>
  FwG.okG F sc__law_pair_right (fun vs H Q E s => lenG (fun ds Φ h => by
    obtain ⟨_, _, rfl, _⟩ := h; rfl) s) fun cdv A outer s H vs Q E gA hr h => ⟨_, PSs.nox (pss_cons (ps_set (i := 3) sc__law_pair_right.nd rfl (.inr rfl) (pe_op op_sub (pe_callH h__law_draw (hr.mono (by decide)) (by rfl) (pa_cons (pv 0) (pa_cons pe_int pa_nil))) pe_int))
    (pss_cons (ps_set (i := 4) sc__law_pair_right.nd rfl (.inl rfl) (pe_callTy call_tuple_of (by rfl) tx.tuple (by decide +kernel) (pa_cons (pe_lc (own := [("_law_near", 8), ("_law_far", 9)]) (g := gTup K 2 (gCons (gName 8) (gCons (gName 9) gNil))) (by rfl) sc__law_pair_right.nd (RZ.pi_zipA (by rfl) tx.zip (pa_cons (pv 1) (pa_cons (pv 2) pa_nil))) (blkOk_by (N := N__law_pair_right) (sc := defScope s__law_pair_right) (by decide +kernel)) (fun _ _ _ _ _ => (pg_tup (by rfl) (pgs_cons (pg_name (i := 8) sc__law_pair_right.nd rfl (.inl rfl)) (pgs_cons (pg_name (i := 9) sc__law_pair_right.nd rfl (.inl rfl)) pgs_nil)))) (fun _ _ _ _ _ => pts_nil) (fun _ _ _ _ _ => (pe_op op_add (pv 8) (pv 9)))) pa_nil)))
    (pss_cons (ps_set (i := 5) sc__law_pair_right.nd rfl (.inl rfl) (pe_lst (pa_cons (pe_callH h_added (hr.mono (by decide)) (by rfl) (pa_cons (pv 1) (pa_cons (pv 2) pa_nil))) (pa_cons (pe_callHK hk_added (hr.mono (by decide)) (by rfl) (pk_cons (pv 1) (pk_cons (pv 2) pk_nil))) (pa_cons (pe_callH h_taken (hr.mono (by decide)) (by rfl) (pa_cons (pv 1) (pa_cons (pv 3) pa_nil))) (pa_cons (pe_callHK hk_taken (hr.mono (by decide)) (by rfl) (pk_cons (pv 3) (pk_cons (pv 1) pk_nil))) pa_nil))))))
    (pss_cons (ps_set (i := 6) sc__law_pair_right.nd rfl (.inl rfl) (pe_callTy call_tuple_of (by rfl) tx.tuple (by decide +kernel) (pa_cons (pe_lc (own := [("_law_number_here", 10)]) (g := gName 10) (by rfl) sc__law_pair_right.nd (pi_tup (pv 1)) (blkOk_by (N := N__law_pair_right) (sc := defScope s__law_pair_right) (by decide +kernel)) (fun _ _ _ _ _ => (pg_name (i := 10) sc__law_pair_right.nd rfl (.inl rfl))) (fun _ _ _ _ _ => pts_nil) (fun _ _ _ _ _ => (pe_op op_mul (pv 3) (pv 10)))) pa_nil)))
    (pss_cons (ps_if (pt_cmpR op_ne (pe_callB (FwE.call_reprD gA (hu61 hr)) (by rfl) tx.repr (by decide +kernel) (pa_cons (pv 5) pa_nil)) (pe_callB (FwE.call_reprD gA (hu61 hr)) (by rfl) tx.repr (by decide +kernel) (pa_cons (pe_lst (pa_cons (pv 4) (pa_cons (pv 4) (pa_cons (pv 6) (pa_cons (pv 6) pa_nil))))) pa_nil)) (nomark _)) (pss_one (ps_ret pe_bl)) pss_nil)
    (pss_cons (ps_if (pt_cmpR op_ne (pe_callB (FwE.call_reprD gA (hu61 hr)) (by rfl) tx.repr (by decide +kernel) (pa_cons (pe_lst (pa_cons (pe_callH h_product (hr.mono (by decide)) (by rfl) (pa_cons (pv 1) (pa_cons (pv 2) pa_nil))) (pa_cons (pe_callHK hk_product (hr.mono (by decide)) (by rfl) (pk_cons (pv 1) (pk_cons (pv 2) pk_nil))) pa_nil))) pa_nil)) (pe_callB (FwE.call_reprD gA (hu61 hr)) (by rfl) tx.repr (by decide +kernel) (pa_cons (pe_op op_rep (pe_lst (pa_cons (pe_callH h__law_product (hr.mono (by decide)) (by rfl) (pa_cons (pv 1) (pa_cons (pv 2) pa_nil))) pa_nil)) pe_int) pa_nil)) (nomark _)) (pss_one (ps_ret pe_bl)) pss_nil)
    (pss_cons (ps_set (i := 7) sc__law_pair_right.nd rfl (.inl rfl) (pe_callH h__law_row (hr.mono (by decide)) (by rfl) (pa_cons (pv 0) (pa_cons (pe_callB call_len_seq (by rfl) tx.len (by decide +kernel) (pa_cons (pv 1) pa_nil)) pa_nil))))
    (pss_one (ps_ret (pe_and (pe_cmpR op_eq (pe_callH h_product (hr.mono (by decide)) (by rfl) (pa_cons (pv 4) (pa_cons (pv 7) pa_nil))) (pe_op op_add (pe_callH h_product (hr.mono (by decide)) (by rfl) (pa_cons (pv 1) (pa_cons (pv 7) pa_nil))) (pe_callH h_product (hr.mono (by decide)) (by rfl) (pa_cons (pv 2) (pa_cons (pv 7) pa_nil)))) (nomark _)) (pe_one (pe_cmpR op_isBl (pe_callH h_is_row (hr.mono (by decide)) (by rfl) (pa_cons (pv 4) pa_nil)) pe_bl (nomark _))))))))))))),
  bodyG h fun q ds Φ hp => by
    obtain ⟨xs, ys, rfl, sx, sy, e, q⟩ := hp
    have rx := sx.row
    have ry := sy.row
    have x1 := sx.one
    have x6 := sx.most
    have rb := small_add sx sy e
    repeat' walk_at "wp"
    intro r r0 r1
    repeat' walk_at "wp"
    refine e_mapZ (fun a b => .int (toI a + toI b)) rfl rfl (by rw [List.length_map]; omega) (fun a b ha hb => ?_) ?_
    · obtain ⟨x, _, rfl⟩ := List.mem_map.mp ha
      obtain ⟨y, _, rfl⟩ := List.mem_map.mp hb
      repeat' walk_at "wp"
      rfl
    rw [zip_ints (fun a b => a + b) xs ys]
    repeat' walk_at "wp"
    rw [put_one, put_one, zip_add_comm ys xs]
    refine e_mapT (fun y => .int ((r - 20) * toI y)) rfl (by rw [List.length_map]; omega) (fun y hy => ?_) ?_
    · obtain ⟨x, _, rfl⟩ := List.mem_map.mp hy
      repeat' walk_at "wp"
      · exact .inl ⟨by omega, by omega⟩
      · rfl
    rw [map_times]
    have tb : Tm (tupI (List.zipWith (fun a b => a + b) xs ys)) 1 100 := (tm_tupI (n := 40) (fun m hm => by have := rb.size m hm; omega) rb.most).mono (by decide) (by decide)
    have to : Tm (tupI (xs.map fun x => x * (r - 20))) 1 100 := (tm_tupI (n := 40) (fun m hm => by
      obtain ⟨x, hx, rfl⟩ := List.mem_map.mp hm
      have := mul_le (sx.size x hx) (show -(20 : Int) ≤ r - 20 ∧ r - 20 ≤ 20 by omega)
      omega) (by rw [List.length_map]; exact rx.most)).mono (by decide) (by decide)
    have tl := tm_list (xs := [tupI (List.zipWith (fun a b => a + b) xs ys), tupI (List.zipWith (fun a b => a + b) xs ys), tupI (xs.map fun x => x * (r - 20)), tupI (xs.map fun x => x * (r - 20))]) (k := 1) (b := 100) (n := 4) (fun x hx => by
      simp only [List.mem_cons, List.not_mem_nil, or_false] at hx
      rcases hx with rfl | rfl | rfl | rfl
      · exact tb
      · exact tb
      · exact to
      · exact to) (by simp)
    repeat' walk_at "wp"
    refine cb_reprT tl rfl (by decide) (by decide) ?_
    repeat' walk_at "wp"
    refine cb_reprT tl rfl (by decide) (by decide) ?_
    repeat' walk_at "wp"
    refine iteND rfl ?_
    have i1 := inner_le xs ys sx.size sy.size
    have ti : Tm (.int (innerI xs ys)) 0 0 := tm_int (by omega) (by omega)
    have tp := tm_list (xs := [PyData.int (innerI xs ys), PyData.int (innerI xs ys)]) (k := 0) (b := 0) (n := 2) (fun x hx => by
      simp only [List.mem_cons, List.not_mem_nil, or_false] at hx
      rcases hx with rfl | rfl
      · exact ti
      · exact ti) (by simp)
    repeat' walk_at "wp"
    rw [inner_comm ys xs]
    refine cb_reprT tp rfl (by decide) (by decide) ?_
    repeat' walk_at "wp"
    refine ⟨rx.size, by omega, ?_⟩
    repeat' walk_at "wp"
    refine cb_reprT tp rfl (by decide) (by decide) ?_
    repeat' walk_at "wp"
    refine iteND rfl ?_
    repeat' walk_at "wp"
    intro zs hz sz
    rw [List.length_map] at hz
    have rz := isRow_of (by omega) (by omega) sz
    have e4 : (List.zipWith (fun a b => a + b) xs ys).length = zs.length := by rw [List.length_zipWith]; omega
    have e5 : xs.length = zs.length := by omega
    have e6 : ys.length = zs.length := by omega
    have ia := inner_add xs ys zs e
    repeat' walk_at "wp"
    exact q
⟩
theorem has__law_pair_right (D : Dn K mg "_law_pair_right" s__law_pair_right) (tx : Tx mg) (h__law_row : Has P w K mg base "_law_row" ["_law_pot_here", "_law_many"] 3 (SpG K pre__law_row)) (h__law_draw : Has P w K mg base "_law_draw" ["_law_pot_here", "_law_room"] 1 (SpG K pre__law_draw)) (h_added : Has P w K mg base "added" ["one", "other"] 5 (SpF K pre_added)) (h_taken : Has P w K mg base "taken" ["row", "many"] 4 (SpF K pre_taken)) (h_product : Has P w K mg base "product" ["one", "other"] 5 (SpF K pre_product)) (h_is_row : Has P w K mg base "is_row" ["value"] 2 (SpF K pre_is_row)) (h__law_product : Has P w K mg base "_law_product" ["_law_one", "_law_other"] 1 (SpF K pre__law_product)) (hk_added : HasK P w K mg base "added" ["one", "other"] ["other", "one"] 5 (SpF K pre_added) (onlyK swap2)) (hk_taken : HasK P w K mg base "taken" ["row", "many"] ["many", "row"] 4 (SpF K pre_taken) (onlyK swap2)) (hk_product : HasK P w K mg base "product" ["one", "other"] ["other", "one"] 5 (SpF K pre_product) (onlyK swap2)) : HasG P w K mg base "_law_pair_right" ["_law_pot_here", "_law_one", "_law_other"] 6 (SpG K pre__law_pair_right) := hasG_of D (fun _ _ _ _ _ _ us hl => match us, hl with | [_, _, _], _ => rfl) (ok__law_pair_right tx h__law_row h__law_draw h_added h_taken h_product h_is_row h__law_product hk_added hk_taken hk_product)

theorem ok__law_row_right (tx : Tx mg) (h__law_divisor : Has P w K mg base "_law_divisor" ["_law_row_here"] 2 (SpF K pre__law_divisor)) (h_share : Has P w K mg base "share" ["row"] 4 (SpF K pre_share)) (h__law_draw : Has P w K mg base "_law_draw" ["_law_pot_here", "_law_room"] 1 (SpG K pre__law_draw)) (h__law_product : Has P w K mg base "_law_product" ["_law_one", "_law_other"] 1 (SpF K pre__law_product)) (h_is_share : Has P w K mg base "is_share" ["row", "value"] 4 (SpF K pre_is_share)) (h_head : Has P w K mg base "head" ["row"] 4 (SpF K pre_head)) (h__law_head : Has P w K mg base "_law_head" ["_law_row_here"] 1 (SpF K pre__law_head)) (h__law_is_integer : Has P w K mg base "_law_is_integer" ["_law_value"] 1 (SpF K pre__law_is_integer)) (hk_divisor : HasK P w K mg base "divisor" ["row"] ["row"] 4 (SpF K pre_divisor) (onlyK same1)) (hk_is_share : HasK P w K mg base "is_share" ["row", "value"] ["value", "row"] 4 (SpF K pre_is_share) (onlyK swap2)) : ∀ f fd, FnP K "_law_row_right" s__law_row_right f fd → FwG.FnG P w K mg base CX0 5 f fd ["_law_pot_here", "_law_row_here"] (SpG K pre__law_row_right) := fun f fd F =>
  FwG.okG F sc__law_row_right (fun vs H Q E s => lenG (fun ds Φ h => by
    obtain ⟨_, rfl, _⟩ := h; rfl) s) fun cdv A outer s H vs Q E gA hr h => ⟨_, PSs.nox (pss_cons (ps_set (i := 2) sc__law_row_right.nd rfl (.inl rfl) (pe_callH h__law_divisor (hr.mono (by decide)) (by rfl) (pa_cons (pv 1) pa_nil)))
    (pss_cons (ps_if (pt_cmpR op_ne (pe_callB (FwE.call_reprD gA (hu61 hr)) (by rfl) tx.repr (by decide +kernel) (pa_cons (pe_lst (pa_cons (pe_callH h_head (hr.mono (by decide)) (by rfl) (pa_cons (pv 1) pa_nil)) (pa_cons (pe_callHK hk_divisor (hr.mono (by decide)) (by rfl) (pk_cons (pv 1) pk_nil)) pa_nil))) pa_nil)) (pe_callB (FwE.call_reprD gA (hu61 hr)) (by rfl) tx.repr (by decide +kernel) (pa_cons (pe_lst (pa_cons (pe_callH h__law_head (hr.mono (by decide)) (by rfl) (pa_cons (pv 1) pa_nil)) (pa_cons (pv 2) pa_nil))) pa_nil)) (nomark _)) (pss_one (ps_ret pe_bl)) pss_nil)
    (pss_cons (ps_set (i := 3) sc__law_row_right.nd rfl (.inl rfl) (pe_callH h_share (hr.mono (by decide)) (by rfl) (pa_cons (pv 1) pa_nil)))
    (pss_cons (ps_if (PW.pt (pw_or (pt_not (pt_val (pe_callB call_isi (by rfl) tx.isinstance (by decide +kernel) (pa_cons (pv 3) (pa_cons (pe_bltn (v := .ty "tuple") (by rfl) tx.tuple (by decide +kernel) rfl) pa_nil))))) (pw_or (pt_cmpR op_ne (pe_callB call_len_seq (by rfl) tx.len (by decide +kernel) (pa_cons (pv 3) pa_nil)) (pe_callB call_len_seq (by rfl) tx.len (by decide +kernel) (pa_cons (pv 1) pa_nil)) (nomark _)) (pw_or1 (pt_not (pt_val (pe_callB (cr_all rfl) (by rfl) tx.all (by decide +kernel) (pa_cons (pe_lc (own := [("_law_one", 10)]) (g := gName 10) (by rfl) sc__law_row_right.nd (pi_tup (pv 3)) (blkOk_by (N := N__law_row_right) (sc := defScope s__law_row_right) (by decide +kernel)) (fun _ _ _ _ _ => (pg_name (i := 10) sc__law_row_right.nd rfl (.inl rfl))) (fun _ _ _ _ _ => pts_nil) (fun _ _ _ _ _ => (pe_callH h__law_is_integer (hr.mono (by decide)) (by rfl) (pa_cons (pv 10) pa_nil)))) pa_nil)))))))) (pss_one (ps_ret pe_bl)) pss_nil)
    (pss_cons (ps_if (PW.pt (pw_or (pt_cmpR op_ne (pe_callH h__law_product (hr.mono (by decide)) (by rfl) (pa_cons (pv 1) (pa_cons (pv 3) pa_nil))) (pv 2) (nomark _)) (pw_or1 (pt_cmpR op_notBl (pe_callH h_is_share (hr.mono (by decide)) (by rfl) (pa_cons (pv 1) (pa_cons (pv 3) pa_nil))) pe_bl (nomark _))))) (pss_one (ps_ret pe_bl)) pss_nil)
    (pss_cons (ps_par (i := 4) (j := 5) (by rfl) sc__law_row_right.nd rfl rfl (by decide) rfl rfl (pa_cons (pe_callH h__law_draw (hr.mono (by decide)) (by rfl) (pa_cons (pv 0) (pa_cons (pe_callB call_len_seq (by rfl) tx.len (by decide +kernel) (pa_cons (pv 1) pa_nil)) pa_nil))) (pa_cons (pe_op op_add pe_int (pe_callH h__law_draw (hr.mono (by decide)) (by rfl) (pa_cons (pv 0) (pa_cons pe_int pa_nil)))) pa_nil)) (by rfl))
    (pss_cons (ps_set (i := 6) sc__law_row_right.nd rfl (.inl rfl) (pe_op op_catA (pe_op op_catA (pe_slice sl_tupA (pv 3) po_none (po_some (pv 4))) (pe_tup (pa_cons (pe_op op_add (pe_ix ix_tup (pv 3) (pv 4) (fun _ _ => rfl)) (pv 5)) pa_nil))) (pe_slice sl_tupA (pv 3) (po_some (pe_op op_add (pv 4) pe_int)) po_none)))
    (pss_cons (ps_set (i := 7) sc__law_row_right.nd rfl (.inl rfl) (pe_lst (pa_cons (pv 6) (pa_cons (pe_callTy call_list_of (by rfl) tx.list (by decide +kernel) (pa_cons (pv 3) pa_nil)) (pa_cons (pe_op op_catA (pv 3) (pe_tup (pa_cons pe_int pa_nil))) (pa_cons (pe_slice sl_tupA (pv 3) (po_some pe_int) po_none) (pa_cons pe_non (pa_cons (pe_op op_catA (pe_slice sl_tupA (pv 3) po_none (po_some (pe_un un_neg pe_int))) (pe_tup (pa_cons pe_bl pa_nil))) pa_nil))))))))
    (pss_cons (ps_if (pt_cmpR op_gt (pe_callB call_len_seq (by rfl) tx.len (by decide +kernel) (pa_cons (pv 1) pa_nil)) pe_int (nomark _)) (pss_one (ps_expr (pe_bm PySem.F.plainAttrs_list PySem.F.slot_list_append PySem.F.type_list_append mt_append (pv 7) (pa_cons (pe_op op_catA (pe_tup (pa_cons (pe_op op_add (pe_ix ix_tup (pv 3) pe_int (fun _ _ => rfl)) (pe_op op_mul (pv 5) (pe_ix ix_tup (pv 1) pe_int (fun _ _ => rfl)))) (pa_cons (pe_op op_sub (pe_ix ix_tup (pv 3) pe_int (fun _ _ => rfl)) (pe_op op_mul (pv 5) (pe_ix ix_tup (pv 1) pe_int (fun _ _ => rfl)))) pa_nil))) (pe_slice sl_tupA (pv 3) (po_some pe_int) po_none)) pa_nil)))) pss_nil)
    (pss_cons (ps_for PassesOwn.never rfl (pi_list (pv 7)) (pg_name (i := 8) sc__law_row_right.nd rfl (.inl rfl)) (pss_cons (ps_set (i := 9) sc__law_row_right.nd rfl (.inl rfl) (pe_and (pe_callB call_isi (by rfl) tx.isinstance (by decide +kernel) (pa_cons (pv 8) (pa_cons (pe_bltn (v := .ty "tuple") (by rfl) tx.tuple (by decide +kernel) rfl) pa_nil))) (pe_and (pe_cmpR op_eq (pe_callB call_len_seq (by rfl) tx.len (by decide +kernel) (pa_cons (pv 8) pa_nil)) (pe_callB call_len_seq (by rfl) tx.len (by decide +kernel) (pa_cons (pv 1) pa_nil)) (nomark _)) (pe_one (pe_callB (cr_all rfl) (by rfl) tx.all (by decide +kernel) (pa_cons (pe_lc (own := [("_law_one", 10)]) (g := gName 10) (by rfl) sc__law_row_right.nd (pi_tup (pv 8)) (blkOk_by (N := N__law_row_right) (sc := defScope s__law_row_right) (by decide +kernel)) (fun _ _ _ _ _ => (pg_name (i := 10) sc__law_row_right.nd rfl (.inl rfl))) (fun _ _ _ _ _ => pts_nil) (fun _ _ _ _ _ => (pe_callH h__law_is_integer (hr.mono (by decide)) (by rfl) (pa_cons (pv 10) pa_nil)))) pa_nil))))))
    (pss_one (ps_if (pt_cmpR op_ne (pe_callB FwE.call_reprB (by rfl) tx.repr (by decide +kernel) (pa_cons (pe_callHK hk_is_share (hr.mono (by decide)) (by rfl) (pk_cons (pv 8) (pk_cons (pv 1) pk_nil))) pa_nil)) (pe_callB FwE.call_reprB (by rfl) tx.repr (by decide +kernel) (pa_cons (pe_and (pv 9) (pe_one (pe_cmpR op_eq (pe_callH h__law_product (hr.mono (by decide)) (by rfl) (pa_cons (pv 1) (pa_cons (pv 8) pa_nil))) (pv 2) (nomark _)))) pa_nil)) (nomark _)) (pss_one (ps_ret pe_bl)) pss_nil))))
    (pss_one (ps_ret pe_bl)))))))))))),
  bodyG h fun q ds Φ hp => by
    obtain ⟨xs, rfl, sx, q⟩ := hp
    have rx := sx.row
    have x1 := sx.one
    have x6 := sx.most
    have x7 := rx.size
    repeat' walk_at "wp"
    have gl := gcdL_all x7
    have tg : Fw.Tm (PyData.int (gcdL xs)) 0 0 := tm_int (by omega) (by omega)
    have tl := tm_list (xs := [firstD xs, PyData.int (gcdL xs)]) (k := 0) (b := 0) (n := 2) (fun x hx => by
      simp only [List.mem_cons, List.not_mem_nil, or_false] at hx
      rcases hx with rfl | rfl
      · exact tm_firstD (by omega)
      · exact tg) (by simp)
    refine cb_reprT tl rfl (by decide) (by decide) ?_
    repeat' walk_at "wp"
    refine cb_reprT tl rfl (by decide) (by decide) ?_
    repeat' walk_at "wp"
    refine iteND rfl ?_
    repeat' walk_at "wp"
    intro ps hl hi
    repeat' walk_at "wp"
    refine e_mapT (fun y => .bool (isInt y)) rfl (by rw [List.length_map]; omega) (fun y _ => ?_) ?_
    · repeat' walk_at "wp"
      rfl
    refine a_nil (cb_all_ _ (map_bools _) ?_)
    rw [all_map_id, all_ints]
    repeat' walk_at "wp"
    have isT : isShare xs (tupI ps) = true := by rw [isShare_tup, decide_eq_true hl, decide_eq_true hi]; rfl
    refine ⟨fun ys e => by cases e; rw [List.length_map]; omega, ?_⟩
    repeat' walk_at "wp"
    intro at_ a0 a1
    repeat' walk_at "wp"
    intro m m0 m1
    repeat' walk_at "wp"
    have a2 : at_.toNat < ps.length := by rw [List.length_map] at a1; omega
    refine od_ixT_ (d := .int ps[at_.toNat]) (ix_ints a0 a2) ?_
    repeat' walk_at "wp"
    rw [cut_to a0]
    refine od_catT_ (by rw [List.length_take, List.length_map, List.length_singleton]; omega) ?_
    repeat' walk_at "wp"
    rw [cut_from (by omega)]
    refine od_catT_ (by rw [List.length_append, List.length_take, List.length_drop, List.length_map, List.length_singleton]; omega) ?_
    have eb : PyData.tuple ((ps.map PyData.int).take at_.toNat ++ [PyData.int (ps[at_.toNat] + (1 + m))] ++ (ps.map PyData.int).drop (at_ + 1).toNat) = tupI (ps.take at_.toNat ++ [ps[at_.toNat] + (1 + m)] ++ ps.drop (at_ + 1).toNat) := by
      rw [tupI, List.map_append, List.map_append, List.map_take, List.map_drop]
      rfl
    rw [eb]
    generalize hbe : ps.take at_.toNat ++ [ps[at_.toNat] + (1 + m)] ++ ps.drop (at_ + 1).toNat = be
    have bl : be.length ≤ 100 := by
      rw [← hbe, List.length_append, List.length_append, List.length_take, List.length_drop, List.length_singleton]
      omega
    refine s_seq (s_ownF (f_lst ?_))
    repeat' walk_at "wp"
    refine od_catT_ (by rw [List.length_map, List.length_singleton]; omega) ?_
    have ec : PyData.tuple (ps.map PyData.int ++ [PyData.int 0]) = tupI (ps ++ [0]) := by rw [tupI, List.map_append]; rfl
    rw [ec]
    repeat' walk_at "wp"
    rw [cut_init, cut_from (by decide)]
    refine od_catT_ (by rw [List.length_dropLast, List.length_map, List.length_singleton]; omega) ?_
    refine a_nil ⟨by simp, ?_⟩
    generalize hsv : [tupI be, PyData.list (ps.map PyData.int), tupI (ps ++ [0]), PyData.tuple ((ps.map PyData.int).drop (1 : Int).toNat), PyData.none, PyData.tuple ((ps.map PyData.int).dropLast ++ [PyData.bool true])] = sv
    have gv : ∀ v ∈ sv, v = .none ∨ (∃ l, v = .list l) ∨ ∃ l, v = .tuple l ∧ l.length ≤ 1000 := by
      rw [← hsv]
      intro v hv
      simp only [List.mem_cons, List.not_mem_nil, or_false] at hv
      rcases hv with rfl | rfl | rfl | rfl | rfl | rfl
      · exact .inr (.inr ⟨_, rfl, by rw [List.length_map]; omega⟩)
      · exact .inr (.inl ⟨_, rfl⟩)
      · exact .inr (.inr ⟨_, rfl, by rw [List.length_map, List.length_append, List.length_singleton]; omega⟩)
      · exact .inr (.inr ⟨_, rfl, by rw [List.length_drop, List.length_map]; omega⟩)
      · exact .inl rfl
      · exact .inr (.inr ⟨_, rfl, by rw [List.length_append, List.length_dropLast, List.length_map, List.length_singleton]; omega⟩)
    have sl : sv.length ≤ 6 := by rw [← hsv]; exact Nat.le_refl _
    refine s_seq (s_cut (fun e => ∃ vs : List PyData, e = [.pot, .dat (tupI xs), .dat (.int (gcdL xs)), .dat (tupI ps), .dat (.int at_), .dat (.int (1 + m)), .dat (tupI be), .own vs, .no, .no, .no] ∧ vs.length ≤ 7 ∧ ∀ v ∈ vs, v = .none ∨ (∃ l, v = .list l) ∨ ∃ l, v = .tuple l ∧ l.length ≤ 1000) (s_if ?_) ?_)
    · repeat' walk_at "wp"
      refine iteP (fun hlen => ?_) (fun hlen => ?_)
      · have b1 : 1 < xs.length := by rw [List.length_map] at hlen; omega
        refine s_app2 rfl ?_
        repeat' walk_at "wp"
        refine od_ixT_ (ix_ints (by decide) (by omega)) ?_
        repeat' walk_at "wp"
        refine od_ixT_ (ix_ints (by decide) (by omega)) ?_
        repeat' walk_at "wp"
        · exact .inl ⟨by omega, by omega⟩
        refine od_ixT_ (ix_ints (by decide) (by omega)) ?_
        repeat' walk_at "wp"
        refine od_ixT_ (ix_ints (by decide) (by omega)) ?_
        repeat' walk_at "wp"
        · exact .inl ⟨by omega, by omega⟩
        rw [cut_from (by decide)]
        refine od_catT_ (by rw [List.length_drop, List.length_map]; simp; omega) ?_
        refine ⟨by omega, sv ++ [_], rfl, by rw [List.length_append, List.length_singleton]; omega, fun v hv => ?_⟩
        rcases List.mem_append.mp hv with z | z
        · exact gv v z
        · rw [List.mem_singleton.mp z]
          exact .inr (.inr ⟨_, rfl, by rw [List.length_append, List.length_drop, List.length_map]; simp; omega⟩)
      · refine s_next ⟨sv, rfl, by omega, gv⟩
    · rintro e ⟨vs, rfl, vl, hv⟩
      refine s_pub (i := 7) rfl ?_
      refine s_seq (s_for (js := [8]) (i_list_ (e_var rfl ⟨_, rfl, fun i e => ∃ s8 s9 s10, e = [.pot, .dat (tupI xs), .dat (.int (gcdL xs)), .dat (tupI ps), .dat (.int at_), .dat (.int (1 + m)), .dat (tupI be), .dat (.list vs), s8, s9, s10], ⟨_, _, _, rfl⟩, fun i x e hx => ?_, ?_⟩)))
      · rintro ⟨s8, s9, s10, rfl⟩
        refine g_name ?_
        have hx2 := hv x (List.mem_of_getElem? hx)
        refine s_seq (s_asg (WpE.mono (Φ := fun d => d = .bool (areInts x xs.length)) ?_ ?_))
        · rcases hx2 with rfl | ⟨l, rfl⟩ | ⟨l, rfl, ll⟩
          · repeat' walk_at "wp"
            rfl
          · repeat' walk_at "wp"
            rfl
          · repeat' walk_at "wp"
            rw [List.length_map]
            refine iteB (fun e => ?_) (fun e => ?_)
            · repeat' walk_at "wp"
              refine e_mapT (fun y => .bool (isInt y)) rfl (by omega) (fun y _ => ?_) ?_
              · repeat' walk_at "wp"
                rfl
              refine a_nil (cb_all_ _ (map_bools _) ?_)
              rw [all_map_id]
              show PyData.bool _ = PyData.bool (decide ((l.length : Int) = xs.length) && l.all isInt)
              rw [e, Bool.true_and]
            · show PyData.bool false = PyData.bool (decide ((l.length : Int) = xs.length) && l.all isInt)
              rw [e]
              rfl
        · rintro d rfl
          have hx3 : ∀ ys, x = .tuple ys → ys.length ≤ 1000 := by
            rintro ys rfl
            rcases hx2 with z | ⟨l, z⟩ | ⟨l, z, ll⟩
            · cases z
            · cases z
            · cases z
              exact ll
          repeat' walk_at "wp"
          refine iteB (fun e => ?_) (fun e => ?_)
          · obtain ⟨ms, rfl⟩ : ∃ ms, x = tupI ms := by
              cases x with
              | tuple l =>
                have e2 : (decide ((l.length : Int) = (xs.length : Int)) && l.all isInt) = true := e
                exact ⟨_, congrArg PyData.tuple (ints_of (Bool.and_eq_true_iff.mp e2).2)⟩
              | _ => cases e
            have es : isShare xs (tupI ms) = decide (innerI xs ms = gcdL xs) := by
              show (areInts (tupI ms) xs.length && decide (innerI xs ((ms.map .int).map toI) = gcdL xs)) = _
              rw [e, Bool.true_and, toI_ints]
            rw [es]
            repeat' walk_at "wp"
            refine iteND rfl ?_
            repeat' walk_at "wp"
            exact ⟨_, _, _, rfl⟩
          · have es : isShare xs x = false := by
              show (areInts x xs.length && _) = false
              rw [e]
              rfl
            rw [es]
            repeat' walk_at "wp"
            refine iteND rfl ?_
            repeat' walk_at "wp"
            exact ⟨_, _, _, rfl⟩
      · rintro e ⟨s8, s9, s10, rfl⟩
        repeat' walk_at "wp"
        exact q
⟩
theorem has__law_row_right (D : Dn K mg "_law_row_right" s__law_row_right) (tx : Tx mg) (h__law_divisor : Has P w K mg base "_law_divisor" ["_law_row_here"] 2 (SpF K pre__law_divisor)) (h_share : Has P w K mg base "share" ["row"] 4 (SpF K pre_share)) (h__law_draw : Has P w K mg base "_law_draw" ["_law_pot_here", "_law_room"] 1 (SpG K pre__law_draw)) (h__law_product : Has P w K mg base "_law_product" ["_law_one", "_law_other"] 1 (SpF K pre__law_product)) (h_is_share : Has P w K mg base "is_share" ["row", "value"] 4 (SpF K pre_is_share)) (h_head : Has P w K mg base "head" ["row"] 4 (SpF K pre_head)) (h__law_head : Has P w K mg base "_law_head" ["_law_row_here"] 1 (SpF K pre__law_head)) (h__law_is_integer : Has P w K mg base "_law_is_integer" ["_law_value"] 1 (SpF K pre__law_is_integer)) (hk_divisor : HasK P w K mg base "divisor" ["row"] ["row"] 4 (SpF K pre_divisor) (onlyK same1)) (hk_is_share : HasK P w K mg base "is_share" ["row", "value"] ["value", "row"] 4 (SpF K pre_is_share) (onlyK swap2)) : HasG P w K mg base "_law_row_right" ["_law_pot_here", "_law_row_here"] 5 (SpG K pre__law_row_right) := hasG_of D (fun _ _ _ _ _ _ us hl => match us, hl with | [_, _], _ => rfl) (ok__law_row_right tx h__law_divisor h_share h__law_draw h__law_product h_is_share h_head h__law_head h__law_is_integer hk_divisor hk_is_share)

theorem ok__law_right (tx : Tx mg) (h__law_row_right : HasG P w K mg base "_law_row_right" ["_law_pot_here", "_law_row_here"] 5 (SpG K pre__law_row_right)) (h__law_draw : Has P w K mg base "_law_draw" ["_law_pot_here", "_law_room"] 1 (SpG K pre__law_draw)) (h__law_row : Has P w K mg base "_law_row" ["_law_pot_here", "_law_many"] 3 (SpG K pre__law_row)) (h__law_pair_right : HasG P w K mg base "_law_pair_right" ["_law_pot_here", "_law_one", "_law_other"] 6 (SpG K pre__law_pair_right)) : ∀ f fd, FnP K "_law_right" s__law_right f fd → FwG.FnG P w K mg base CX0 7 f fd ["_law_pot_here"] (SpG K pre__law_right) := fun f fd F =>
  FwG.okG F sc__law_right (fun vs H Q E s => lenG (fun ds Φ h => by
    obtain ⟨rfl, _⟩ := h; rfl) s) fun cdv A outer s H vs Q E gA hr h => ⟨_, PSs.nox (pss_cons (ps_for PassesOwn.never rfl (pi_range1 (by rfl) tx.range (pa_cons pe_int pa_nil)) (pg_name (i := 1) sc__law_right.nd rfl (.inl rfl)) (pss_cons (ps_set (i := 2) sc__law_right.nd rfl (.inl rfl) (pe_op op_add pe_int (pe_callH h__law_draw (hr.mono (by decide)) (by rfl) (pa_cons (pv 0) (pa_cons pe_int pa_nil)))))
    (pss_cons (ps_asg (pe_tup (pa_cons (pe_callH h__law_row (hr.mono (by decide)) (by rfl) (pa_cons (pv 0) (pa_cons (pv 2) pa_nil))) (pa_cons (pe_callH h__law_row (hr.mono (by decide)) (by rfl) (pa_cons (pv 0) (pa_cons (pv 2) pa_nil))) (pa_cons (pe_op op_add pe_int (pe_callH h__law_draw (hr.mono (by decide)) (by rfl) (pa_cons (pv 0) (pa_cons pe_int pa_nil)))) pa_nil)))) (pg_tup (by rfl) (pgs_cons (pg_name (i := 3) sc__law_right.nd rfl (.inl rfl)) (pgs_cons (pg_name (i := 4) sc__law_right.nd rfl (.inl rfl)) (pgs_cons (pg_name (i := 5) sc__law_right.nd rfl (.inr rfl)) pgs_nil)))))
    (pss_cons (ps_set (i := 3) sc__law_right.nd rfl (.inl rfl) (pe_ifExp (pt_cmpR op_eq (pe_callH h__law_draw (hr.mono (by decide)) (by rfl) (pa_cons (pv 0) (pa_cons pe_int pa_nil))) pe_int (nomark _)) (pe_callTy call_tuple_of (by rfl) tx.tuple (by decide +kernel) (pa_cons (pe_lc (own := [("_law_number_here", 6)]) (g := gName 6) (by rfl) sc__law_right.nd (pi_tup (pv 3)) (blkOk_by (N := N__law_right) (sc := defScope s__law_right) (by decide +kernel)) (fun _ _ _ _ _ => (pg_name (i := 6) sc__law_right.nd rfl (.inl rfl))) (fun _ _ _ _ _ => pts_nil) (fun _ _ _ _ _ => (pe_op op_mul (pv 5) (pv 6)))) pa_nil)) (pv 3)))
    (pss_one (ps_if (PW.pt (pw_or (pt_not (pt_val (pe_callHG h__law_pair_right gA (hr.mono (by decide)) (by rfl) (pa_cons (pv 0) (pa_cons (pv 3) (pa_cons (pv 4) pa_nil)))))) (pw_or (pt_not (pt_val (pe_callHG h__law_row_right gA (hr.mono (by decide)) (by rfl) (pa_cons (pv 0) (pa_cons (pv 3) pa_nil))))) (pw_or1 (pt_not (pt_val (pe_callHG h__law_row_right gA (hr.mono (by decide)) (by rfl) (pa_cons (pv 0) (pa_cons (pv 4) pa_nil))))))))) (pss_one (ps_ret pe_bl)) pss_nil))))))
    (pss_one (ps_ret (pe_callHG h__law_row_right gA (hr.mono (by decide)) (by rfl) (pa_cons (pv 0) (pa_cons (pe_op FwE.op_times (pe_tup (pa_cons pe_int pa_nil)) (pe_op op_add pe_int (pe_callH h__law_draw (hr.mono (by decide)) (by rfl) (pa_cons (pv 0) (pa_cons pe_int pa_nil))))) pa_nil)))))),
  bodyG h fun q ds Φ hp => by
    obtain ⟨rfl, q⟩ := hp
    refine s_seq (s_for (js := [1]) (i_rng1 (a_cons (e_int (a_nil ⟨_, rfl, by decide, by decide, fun i e => ∃ a b c d n m, e = [.pot, a, b, c, d, n, m], ⟨_, _, _, _, _, _, rfl⟩, fun i x e hx => ?_, ?_⟩)))))
    · rintro ⟨a, b, c, d, n, m, rfl⟩
      refine g_name ?_
      repeat' walk_at "wp"
      intro r r0 r1
      obtain ⟨k, rfl⟩ := Int.eq_ofNat_of_zero_le r0
      refine od_add ?_
      rw [show (1 + (k : Int)) = ((1 + k : Nat) : Int) by omega]
      repeat' walk_at "wp"
      refine s_asgG (js := [3] ++ ([4] ++ ([5] ++ []))) ?_
      repeat' walk_at "wp"
      intro xs hx sx
      repeat' walk_at "wp"
      intro ys hy sy
      repeat' walk_at "wp"
      intro u u0 u1
      repeat' walk_at "wp"
      have z1 := small_of (by omega) (by omega) sx
      have z2 := small_of (by omega) (by omega) sy
      refine g_tup_ [_, _, _] rfl rfl (g_cons (g_name (g_cons (g_name (g_cons (g_name (g_nil ?_)))))))
      refine s_seq (s_cut (fun e => ∃ zs, IsSmall zs ∧ zs.length = ys.length ∧ e = [.pot, .dat x, .dat (.int ((1 + k : Nat) : Int)), .dat (tupI zs), .dat (tupI ys), .dat (.int (1 + u)), m]) (s_asg ?_) ?_)
      · repeat' walk_at "wp"
        intro v v0 v1
        repeat' walk_at "wp"
        refine iteP (fun h => ?_) (fun h => ?_)
        · repeat' walk_at "wp"
          refine e_mapT (fun y => .int ((1 + u) * toI y)) rfl (by rw [List.length_map]; omega) (fun y hy => ?_) ?_
          · obtain ⟨w, _, rfl⟩ := List.mem_map.mp hy
            repeat' walk_at "wp"
            · exact .inl ⟨by omega, by omega⟩
            · rfl
          rw [map_times]
          repeat' walk_at "wp"
          exact ⟨_, small_times (by omega) (by omega) sx (by omega) (by omega), by rw [List.length_map]; omega, rfl⟩
        · repeat' walk_at "wp"
          exact ⟨xs, z1, by omega, rfl⟩
      · rintro e ⟨zs, z3, z4, rfl⟩
        repeat' walk_at "wp"
        exact ⟨_, _, _, _, _, _, rfl⟩
    · rintro e ⟨a, b, c, d, n, m, rfl⟩
      repeat' walk_at "wp"
      intro r r0 r1
      repeat' walk_at "wp"
      refine od_times_ (by simp) (by omega) (by omega) (by decide) ?_
      rw [rep_zero]
      refine a_nil ⟨_, rfl, small_zero (by omega) (by omega), q⟩
⟩
theorem has__law_right (D : Dn K mg "_law_right" s__law_right) (tx : Tx mg) (h__law_row_right : HasG P w K mg base "_law_row_right" ["_law_pot_here", "_law_row_here"] 5 (SpG K pre__law_row_right)) (h__law_draw : Has P w K mg base "_law_draw" ["_law_pot_here", "_law_room"] 1 (SpG K pre__law_draw)) (h__law_row : Has P w K mg base "_law_row" ["_law_pot_here", "_law_many"] 3 (SpG K pre__law_row)) (h__law_pair_right : HasG P w K mg base "_law_pair_right" ["_law_pot_here", "_law_one", "_law_other"] 6 (SpG K pre__law_pair_right)) : HasG P w K mg base "_law_right" ["_law_pot_here"] 7 (SpG K pre__law_right) := hasG_of D (fun _ _ _ _ _ _ us hl => match us, hl with | [_], _ => rfl) (ok__law_right tx h__law_row_right h__law_draw h__law_row h__law_pair_right)

theorem ok_law (tx : Tx mg) (h__law_right : HasG P w K mg base "_law_right" ["_law_pot_here"] 7 (SpG K pre__law_right)) (h__law_pot : Has P w K mg base "_law_pot" ["_law_script", "_law_k"] 1 (SpN K pre__law_pot)) : ∀ f fd, FnP K "law" s_law f fd → FwG.FnG P w K mg base CX0 8 f fd ["_law_script"] (SpF K pre_law) := fun f fd F =>
  FwG.okG F sc_law (fun vs H Q E s => lenF (fun ds Φ h => by
    obtain ⟨_, rfl, _⟩ := h; rfl) s) fun cdv A outer s H vs Q E gA hr h => ⟨_, PSs.nox (pss_one (ps_ret (pe_callHG h__law_right gA (hr.mono (by decide)) (by rfl) (pa_cons (pe_callH h__law_pot (hr.mono (by decide)) (by rfl) (pa_cons (pv 0) (pa_cons pe_int pa_nil))) pa_nil)))),
  bodyF h fun ds Φ hp => by
    obtain ⟨ns, rfl, nl, q⟩ := hp
    refine s_ret (e_callPot (f_call ?_))
    repeat' walk_at "wp"
    intro a b hab
    exact ⟨a, b, rfl, hab, rfl, q⟩
⟩
theorem has_law (D : Dn K mg "law" s_law) (tx : Tx mg) (h__law_right : HasG P w K mg base "_law_right" ["_law_pot_here"] 7 (SpG K pre__law_right)) (h__law_pot : Has P w K mg base "_law_pot" ["_law_script", "_law_k"] 1 (SpN K pre__law_pot)) : HasG P w K mg base "law" ["_law_script"] 8 (SpF K pre_law) := hasG_of D (fun _ _ _ _ _ _ us hl => match us, hl with | [_], _ => rfl) (ok_law tx h__law_right h__law_pot)
end
end K11
section
set_option maxHeartbeats 0
namespace K11
open PySem PySem.Spec PyProof.Rows L2
def d_is_integer : He.DefD := ⟨("is_integer", none), "is_integer", "is_integer", defArgs s_is_integer, defBody s_is_integer, defScope s_is_integer, [], []⟩
def d_are_integers : He.DefD := ⟨("are_integers", none), "are_integers", "are_integers", defArgs s_are_integers, defBody s_are_integers, defScope s_are_integers, [], []⟩
def d_first_place : He.DefD := ⟨("first_place", none), "first_place", "first_place", defArgs s_first_place, defBody s_first_place, defScope s_first_place, [], []⟩
def d_put_on : He.DefD := ⟨("put_on", none), "put_on", "put_on", defArgs s_put_on, defBody s_put_on, defScope s_put_on, [], []⟩
def d_inner : He.DefD := ⟨("inner", none), "inner", "inner", defArgs s_inner, defBody s_inner, defScope s_inner, [], []⟩
def d_bezout : He.DefD := ⟨("bezout", none), "bezout", "bezout", defArgs s_bezout, defBody s_bezout, defScope s_bezout, [], []⟩
def d_is_row : He.DefD := ⟨("is_row", none), "is_row", "is_row", defArgs s_is_row, defBody s_is_row, defScope s_is_row, [], []⟩
def d_check_row : He.DefD := ⟨("check_row", none), "check_row", "check_row", defArgs s_check_row, defBody s_check_row, defScope s_check_row, [], []⟩
def d_check_two_rows : He.DefD := ⟨("check_two_rows", none), "check_two_rows", "check_two_rows", defArgs s_check_two_rows, defBody s_check_two_rows, defScope s_check_two_rows, [], []⟩
def d_added : He.DefD := ⟨("added", none), "added", "added", defArgs s_added, defBody s_added, defScope s_added, [], []⟩
def d_taken : He.DefD := ⟨("taken", none), "taken", "taken", defArgs s_taken, defBody s_taken, defScope s_taken, [], []⟩
def d_product : He.DefD := ⟨("product", none), "product", "product", defArgs s_product, defBody s_product, defScope s_product, [], []⟩
def d_head : He.DefD := ⟨("head", none), "head", "head", defArgs s_head, defBody s_head, defScope s_head, [], []⟩
def d_divisor : He.DefD := ⟨("divisor", none), "divisor", "divisor", defArgs s_divisor, defBody s_divisor, defScope s_divisor, [], []⟩
def d_divisor_of : He.DefD := ⟨("divisor_of", none), "divisor_of", "divisor_of", defArgs s_divisor_of, defBody s_divisor_of, defScope s_divisor_of, [], []⟩
def d_share : He.DefD := ⟨("share", none), "share", "share", defArgs s_share, defBody s_share, defScope s_share, [], []⟩
def d_is_share : He.DefD := ⟨("is_share", none), "is_share", "is_share", defArgs s_is_share, defBody s_is_share, defScope s_is_share, [], []⟩
def d__law_pot : He.DefD := ⟨("_law_pot", none), "_law_pot", "_law_pot", defArgs s__law_pot, defBody s__law_pot, defScope s__law_pot, [], []⟩
def d__law_draw : He.DefD := ⟨("_law_draw", none), "_law_draw", "_law_draw", defArgs s__law_draw, defBody s__law_draw, defScope s__law_draw, [], []⟩
def d__law_is_integer : He.DefD := ⟨("_law_is_integer", none), "_law_is_integer", "_law_is_integer", defArgs s__law_is_integer, defBody s__law_is_integer, defScope s__law_is_integer, [], []⟩
def d__law_gcd : He.DefD := ⟨("_law_gcd", none), "_law_gcd", "_law_gcd", defArgs s__law_gcd, defBody s__law_gcd, defScope s__law_gcd, [], []⟩
def d__law_divisor : He.DefD := ⟨("_law_divisor", none), "_law_divisor", "_law_divisor", defArgs s__law_divisor, defBody s__law_divisor, defScope s__law_divisor, [], []⟩
def d__law_product : He.DefD := ⟨("_law_product", none), "_law_product", "_law_product", defArgs s__law_product, defBody s__law_product, defScope s__law_product, [], []⟩
def d__law_head : He.DefD := ⟨("_law_head", none), "_law_head", "_law_head", defArgs s__law_head, defBody s__law_head, defScope s__law_head, [], []⟩
def d__law_number : He.DefD := ⟨("_law_number", none), "_law_number", "_law_number", defArgs s__law_number, defBody s__law_number, defScope s__law_number, [], []⟩
def d__law_row : He.DefD := ⟨("_law_row", none), "_law_row", "_law_row", defArgs s__law_row, defBody s__law_row, defScope s__law_row, [], []⟩
def d__law_pair_right : He.DefD := ⟨("_law_pair_right", none), "_law_pair_right", "_law_pair_right", defArgs s__law_pair_right, defBody s__law_pair_right, defScope s__law_pair_right, [], []⟩
def d__law_row_right : He.DefD := ⟨("_law_row_right", none), "_law_row_right", "_law_row_right", defArgs s__law_row_right, defBody s__law_row_right, defScope s__law_row_right, [], []⟩
def d__law_right : He.DefD := ⟨("_law_right", none), "_law_right", "_law_right", defArgs s__law_right, defBody s__law_right, defScope s__law_right, [], []⟩
def d_law : He.DefD := ⟨("law", none), "law", "law", defArgs s_law, defBody s_law, defScope s_law, [], []⟩
def fn : List He.DefD := [d_is_integer, d_are_integers, d_first_place, d_put_on, d_inner, d_bezout, d_is_row, d_check_row, d_check_two_rows, d_added, d_taken, d_product, d_head, d_divisor, d_divisor_of, d_share, d_is_share, d__law_pot, d__law_draw, d__law_is_integer, d__law_gcd, d__law_divisor, d__law_product, d__law_head, d__law_number, d__law_row, d__law_pair_right, d__law_row_right, d__law_right, d_law]
def fa : List He.Fa := [.glo "is_integer", .glo "are_integers", .glo "first_place", .glo "put_on", .glo "inner", .glo "bezout", .glo "is_row", .glo "check_row", .glo "check_two_rows", .glo "added", .glo "taken", .glo "product", .glo "head", .glo "divisor", .glo "divisor_of", .glo "share", .glo "is_share", .glo "_law_pot", .glo "_law_draw", .glo "_law_is_integer", .glo "_law_gcd", .glo "_law_divisor", .glo "_law_product", .glo "_law_head", .glo "_law_number", .glo "_law_row", .glo "_law_pair_right", .glo "_law_row_right", .glo "_law_right", .glo "law", .free "isinstance", .free "int", .free "bool", .free "tuple", .free "len", .free "all", .free "enumerate", .free "zip", .free "sum", .free "abs", .free "list", .free "repr", .free "range", .free "max", .free "divmod", .int "MOST_NUMBERS" 40, .int "MOST_SIZE" 1000000]
def ex : PySem.W.Frag → Bool := FwH.bltB "gcd" "math.gcd"
abbrev R : PySem.W.OpenRow := PySem.W.OpenLaw.row PySem.Challenge.rw_sumroads_k11_whole_rows
abbrev hk : PySem.W.Hook := FwH.hookE 4 fa fn ex
def ob (s : PySem.W.SharedT) : He.AlD × Bool := FwH.obsE 4 fa fn ex (HandSHeadRun.getT s)
theorem ob_eq (s : PySem.W.SharedT) : ob s = hk.obs s.abs := FwH.obsE_eq (HandSHeadRun.getT_eq s)
def loose : List Str := [("gcd" : Str), ("TableError" : Str), ("InvalidRow" : Str), ("InvalidInteger" : Str), ("StateError" : Str), ("UnlikeLengths" : Str), ("is_integer" : Str), ("are_integers" : Str), ("first_place" : Str), ("put_on" : Str), ("inner" : Str), ("bezout" : Str), ("MOST_NUMBERS" : Str), ("MOST_SIZE" : Str), ("is_row" : Str), ("check_row" : Str), ("check_two_rows" : Str), ("added" : Str), ("taken" : Str), ("product" : Str), ("head" : Str), ("divisor" : Str), ("divisor_of" : Str), ("share" : Str), ("is_share" : Str), ("_law_pot" : Str), ("_law_draw" : Str), ("_law_is_integer" : Str), ("_law_gcd" : Str), ("_law_divisor" : Str), ("_law_product" : Str), ("_law_head" : Str), ("_law_number" : Str), ("_law_row" : Str), ("_law_pair_right" : Str), ("_law_row_right" : Str), ("_law_right" : Str)]
theorem run (w : World) : HandSHeadRun.RunEqI R (PySem.W.view R.prog [0, 41]) hk ob 4000 loose w := by
  delta HandSHeadRun.RunEqI
  kernel_rfl
end K11
end
section
set_option maxHeartbeats 0
namespace K11
open PySem PySem.Spec PyProof.Rows L2 Evl Fw
theorem vals_swap2 {zs : List V} {ws : List Value} (h : Vals zs ws) : Vals (swap2 zs) (swap2 ws) := by
  cases h with
  | nil => exact .nil
  | cons a t =>
    cases t with
    | nil => exact .nil
    | cons b t =>
      cases t with
      | nil => exact .cons b (.cons a .nil)
      | cons _ _ => exact .nil
theorem facts {P : Program} {w : World} {K : PySem.W.Frag} {h : Heap} {mg : Str → Option Value} {fl : Addr} (X : K.In h) (G : h.Ns mainGlobals mg) (hfa : mg ("law" : Str) = some (.ref fl)) (c : He.SaysD fa fn K) (cx : ex K = true) :
    ∃ fd : FuncData, (∀ (s : Shared) (v : Value), BindsTo s fd ⟨[v], []⟩ [("_law_script", v)]) ∧ ∀ base : Heap, K.In base → base.Ns mainGlobals mg → FwG.FnG P w K mg base CX0 8 fl fd ["_law_script"] (SpF K pre_law) := by
  have tx : Tx mg := {
    isinstance := He.free_ok X G (c.fact 30 (f := .free "isinstance") rfl)
    int := He.free_ok X G (c.fact 31 (f := .free "int") rfl)
    bool := He.free_ok X G (c.fact 32 (f := .free "bool") rfl)
    tuple := He.free_ok X G (c.fact 33 (f := .free "tuple") rfl)
    len := He.free_ok X G (c.fact 34 (f := .free "len") rfl)
    all := He.free_ok X G (c.fact 35 (f := .free "all") rfl)
    enumerate := He.free_ok X G (c.fact 36 (f := .free "enumerate") rfl)
    zip := He.free_ok X G (c.fact 37 (f := .free "zip") rfl)
    sum := He.free_ok X G (c.fact 38 (f := .free "sum") rfl)
    abs := He.free_ok X G (c.fact 39 (f := .free "abs") rfl)
    list := He.free_ok X G (c.fact 40 (f := .free "list") rfl)
    repr := He.free_ok X G (c.fact 41 (f := .free "repr") rfl)
    range := He.free_ok X G (c.fact 42 (f := .free "range") rfl)
    max := He.free_ok X G (c.fact 43 (f := .free "max") rfl)
    divmod := He.free_ok X G (c.fact 44 (f := .free "divmod") rfl)
    MOST_NUMBERS := He.int_ok X G (c.fact 45 (f := .int "MOST_NUMBERS" 40) rfl)
    MOST_SIZE := He.int_ok X G (c.fact 46 (f := .int "MOST_SIZE" 1000000) rfl)
    gcd := FwH.bltB_ok X G cx }
  have D_is_integer : Dn K mg "is_integer" s_is_integer := by
    obtain ⟨fd, F⟩ := c.def_ 0 (d := d_is_integer) rfl
    exact ⟨_, fd, F, He.glo_ok X G (c.fact 0 (f := .glo "is_integer") rfl)⟩
  have D_are_integers : Dn K mg "are_integers" s_are_integers := by
    obtain ⟨fd, F⟩ := c.def_ 1 (d := d_are_integers) rfl
    exact ⟨_, fd, F, He.glo_ok X G (c.fact 1 (f := .glo "are_integers") rfl)⟩
  have D_first_place : Dn K mg "first_place" s_first_place := by
    obtain ⟨fd, F⟩ := c.def_ 2 (d := d_first_place) rfl
    exact ⟨_, fd, F, He.glo_ok X G (c.fact 2 (f := .glo "first_place") rfl)⟩
  have D_put_on : Dn K mg "put_on" s_put_on := by
    obtain ⟨fd, F⟩ := c.def_ 3 (d := d_put_on) rfl
    exact ⟨_, fd, F, He.glo_ok X G (c.fact 3 (f := .glo "put_on") rfl)⟩
  have D_inner : Dn K mg "inner" s_inner := by
    obtain ⟨fd, F⟩ := c.def_ 4 (d := d_inner) rfl
    exact ⟨_, fd, F, He.glo_ok X G (c.fact 4 (f := .glo "inner") rfl)⟩
  have D_bezout : Dn K mg "bezout" s_bezout := by
    obtain ⟨fd, F⟩ := c.def_ 5 (d := d_bezout) rfl
    exact ⟨_, fd, F, He.glo_ok X G (c.fact 5 (f := .glo "bezout") rfl)⟩
  have D_is_row : Dn K mg "is_row" s_is_row := by
    obtain ⟨fd, F⟩ := c.def_ 6 (d := d_is_row) rfl
    exact ⟨_, fd, F, He.glo_ok X G (c.fact 6 (f := .glo "is_row") rfl)⟩
  have D_check_row : Dn K mg "check_row" s_check_row := by
    obtain ⟨fd, F⟩ := c.def_ 7 (d := d_check_row) rfl
    exact ⟨_, fd, F, He.glo_ok X G (c.fact 7 (f := .glo "check_row") rfl)⟩
  have D_check_two_rows : Dn K mg "check_two_rows" s_check_two_rows := by
    obtain ⟨fd, F⟩ := c.def_ 8 (d := d_check_two_rows) rfl
    exact ⟨_, fd, F, He.glo_ok X G (c.fact 8 (f := .glo "check_two_rows") rfl)⟩
  have D_added : Dn K mg "added" s_added := by
    obtain ⟨fd, F⟩ := c.def_ 9 (d := d_added) rfl
    exact ⟨_, fd, F, He.glo_ok X G (c.fact 9 (f := .glo "added") rfl)⟩
  have D_taken : Dn K mg "taken" s_taken := by
    obtain ⟨fd, F⟩ := c.def_ 10 (d := d_taken) rfl
    exact ⟨_, fd, F, He.glo_ok X G (c.fact 10 (f := .glo "taken") rfl)⟩
  have D_product : Dn K mg "product" s_product := by
    obtain ⟨fd, F⟩ := c.def_ 11 (d := d_product) rfl
    exact ⟨_, fd, F, He.glo_ok X G (c.fact 11 (f := .glo "product") rfl)⟩
  have D_head : Dn K mg "head" s_head := by
    obtain ⟨fd, F⟩ := c.def_ 12 (d := d_head) rfl
    exact ⟨_, fd, F, He.glo_ok X G (c.fact 12 (f := .glo "head") rfl)⟩
  have D_divisor : Dn K mg "divisor" s_divisor := by
    obtain ⟨fd, F⟩ := c.def_ 13 (d := d_divisor) rfl
    exact ⟨_, fd, F, He.glo_ok X G (c.fact 13 (f := .glo "divisor") rfl)⟩
  have D_divisor_of : Dn K mg "divisor_of" s_divisor_of := by
    obtain ⟨fd, F⟩ := c.def_ 14 (d := d_divisor_of) rfl
    exact ⟨_, fd, F, He.glo_ok X G (c.fact 14 (f := .glo "divisor_of") rfl)⟩
  have D_share : Dn K mg "share" s_share := by
    obtain ⟨fd, F⟩ := c.def_ 15 (d := d_share) rfl
    exact ⟨_, fd, F, He.glo_ok X G (c.fact 15 (f := .glo "share") rfl)⟩
  have D_is_share : Dn K mg "is_share" s_is_share := by
    obtain ⟨fd, F⟩ := c.def_ 16 (d := d_is_share) rfl
    exact ⟨_, fd, F, He.glo_ok X G (c.fact 16 (f := .glo "is_share") rfl)⟩
  have D__law_pot : Dn K mg "_law_pot" s__law_pot := by
    obtain ⟨fd, F⟩ := c.def_ 17 (d := d__law_pot) rfl
    exact ⟨_, fd, F, He.glo_ok X G (c.fact 17 (f := .glo "_law_pot") rfl)⟩
  have D__law_draw : Dn K mg "_law_draw" s__law_draw := by
    obtain ⟨fd, F⟩ := c.def_ 18 (d := d__law_draw) rfl
    exact ⟨_, fd, F, He.glo_ok X G (c.fact 18 (f := .glo "_law_draw") rfl)⟩
  have D__law_is_integer : Dn K mg "_law_is_integer" s__law_is_integer := by
    obtain ⟨fd, F⟩ := c.def_ 19 (d := d__law_is_integer) rfl
    exact ⟨_, fd, F, He.glo_ok X G (c.fact 19 (f := .glo "_law_is_integer") rfl)⟩
  have D__law_gcd : Dn K mg "_law_gcd" s__law_gcd := by
    obtain ⟨fd, F⟩ := c.def_ 20 (d := d__law_gcd) rfl
    exact ⟨_, fd, F, He.glo_ok X G (c.fact 20 (f := .glo "_law_gcd") rfl)⟩
  have D__law_divisor : Dn K mg "_law_divisor" s__law_divisor := by
    obtain ⟨fd, F⟩ := c.def_ 21 (d := d__law_divisor) rfl
    exact ⟨_, fd, F, He.glo_ok X G (c.fact 21 (f := .glo "_law_divisor") rfl)⟩
  have D__law_product : Dn K mg "_law_product" s__law_product := by
    obtain ⟨fd, F⟩ := c.def_ 22 (d := d__law_product) rfl
    exact ⟨_, fd, F, He.glo_ok X G (c.fact 22 (f := .glo "_law_product") rfl)⟩
  have D__law_head : Dn K mg "_law_head" s__law_head := by
    obtain ⟨fd, F⟩ := c.def_ 23 (d := d__law_head) rfl
    exact ⟨_, fd, F, He.glo_ok X G (c.fact 23 (f := .glo "_law_head") rfl)⟩
  have D__law_number : Dn K mg "_law_number" s__law_number := by
    obtain ⟨fd, F⟩ := c.def_ 24 (d := d__law_number) rfl
    exact ⟨_, fd, F, He.glo_ok X G (c.fact 24 (f := .glo "_law_number") rfl)⟩
  have D__law_row : Dn K mg "_law_row" s__law_row := by
    obtain ⟨fd, F⟩ := c.def_ 25 (d := d__law_row) rfl
    exact ⟨_, fd, F, He.glo_ok X G (c.fact 25 (f := .glo "_law_row") rfl)⟩
  have D__law_pair_right : Dn K mg "_law_pair_right" s__law_pair_right := by
    obtain ⟨fd, F⟩ := c.def_ 26 (d := d__law_pair_right) rfl
    exact ⟨_, fd, F, He.glo_ok X G (c.fact 26 (f := .glo "_law_pair_right") rfl)⟩
  have D__law_row_right : Dn K mg "_law_row_right" s__law_row_right := by
    obtain ⟨fd, F⟩ := c.def_ 27 (d := d__law_row_right) rfl
    exact ⟨_, fd, F, He.glo_ok X G (c.fact 27 (f := .glo "_law_row_right") rfl)⟩
  have D__law_right : Dn K mg "_law_right" s__law_right := by
    obtain ⟨fd, F⟩ := c.def_ 28 (d := d__law_right) rfl
    exact ⟨_, fd, F, He.glo_ok X G (c.fact 28 (f := .glo "_law_right") rfl)⟩
  obtain ⟨fd, F⟩ := c.def_ 29 (d := d_law) rfl
  have e := hfa.symm.trans (He.glo_ok X G (c.fact 29 (f := .glo "law") rfl))
  cases e
  have b := FunD.bindsA (ps := ["_law_script"]) F fun _ _ _ _ _ _ us hl => match us, hl with | [_], _ => rfl
  refine ⟨fd, fun s v => b s [v] rfl, fun base _ _ => ?_⟩
  have h_is_integer := has_is_integer (P := P) (w := w) (base := base) D_is_integer tx
  have h_are_integers := has_are_integers (P := P) (w := w) (base := base) D_are_integers tx h_is_integer
  have h_first_place := has_first_place (P := P) (w := w) (base := base) D_first_place tx
  have h_put_on := has_put_on (P := P) (w := w) (base := base) D_put_on tx
  have h_inner := has_inner (P := P) (w := w) (base := base) D_inner tx
  have h_bezout := has_bezout (P := P) (w := w) (base := base) D_bezout tx h_put_on
  have h_is_row := has_is_row (P := P) (w := w) (base := base) D_is_row tx h_is_integer
  have h_check_row := has_check_row (P := P) (w := w) (base := base) D_check_row tx h_is_row
  have h_check_two_rows := has_check_two_rows (P := P) (w := w) (base := base) D_check_two_rows tx h_check_row
  have h_added := has_added (P := P) (w := w) (base := base) D_added tx h_check_two_rows h_put_on
  have hk_added : HasK P w K mg base "added" ["one", "other"] ["other", "one"] 5 (SpF K pre_added) (onlyK swap2) := hasK_of swap2 D_added (ok_added tx h_check_two_rows h_put_on) (fun _ _ _ _ _ _ ws hl => match ws, hl with | [_, _], _ => rfl | [], hl => nomatch hl | [_], hl => nomatch hl | _ :: _ :: _ :: _, hl => nomatch hl) (vals_swap2) (by decide)
  have h_taken := has_taken (P := P) (w := w) (base := base) D_taken tx h_check_row h_is_integer
  have hk_taken : HasK P w K mg base "taken" ["row", "many"] ["many", "row"] 4 (SpF K pre_taken) (onlyK swap2) := hasK_of swap2 D_taken (ok_taken tx h_check_row h_is_integer) (fun _ _ _ _ _ _ ws hl => match ws, hl with | [_, _], _ => rfl | [], hl => nomatch hl | [_], hl => nomatch hl | _ :: _ :: _ :: _, hl => nomatch hl) (vals_swap2) (by decide)
  have h_product := has_product (P := P) (w := w) (base := base) D_product tx h_check_two_rows h_inner
  have hk_product : HasK P w K mg base "product" ["one", "other"] ["other", "one"] 5 (SpF K pre_product) (onlyK swap2) := hasK_of swap2 D_product (ok_product tx h_check_two_rows h_inner) (fun _ _ _ _ _ _ ws hl => match ws, hl with | [_, _], _ => rfl | [], hl => nomatch hl | [_], hl => nomatch hl | _ :: _ :: _ :: _, hl => nomatch hl) (vals_swap2) (by decide)
  have h_head := has_head (P := P) (w := w) (base := base) D_head tx h_check_row h_first_place
  have h_divisor_of := has_divisor_of (P := P) (w := w) (base := base) D_divisor_of tx
  have h_divisor := has_divisor (P := P) (w := w) (base := base) D_divisor tx h_check_row h_divisor_of
  have hk_divisor : HasK P w K mg base "divisor" ["row"] ["row"] 4 (SpF K pre_divisor) (onlyK same1) := hasK_of same1 D_divisor (ok_divisor tx h_check_row h_divisor_of) (fun _ _ _ _ _ _ ws hl => match ws, hl with | [_], _ => rfl) (fun h => h) (by decide)
  have h_share := has_share (P := P) (w := w) (base := base) D_share tx h_check_row h_bezout
  have h_is_share := has_is_share (P := P) (w := w) (base := base) D_is_share tx h_check_row h_are_integers h_inner h_divisor_of
  have hk_is_share : HasK P w K mg base "is_share" ["row", "value"] ["value", "row"] 4 (SpF K pre_is_share) (onlyK swap2) := hasK_of swap2 D_is_share (ok_is_share tx h_check_row h_are_integers h_inner h_divisor_of) (fun _ _ _ _ _ _ ws hl => match ws, hl with | [_, _], _ => rfl | [], hl => nomatch hl | [_], hl => nomatch hl | _ :: _ :: _ :: _, hl => nomatch hl) (vals_swap2) (by decide)
  have h__law_pot := has__law_pot (P := P) (w := w) (base := base) D__law_pot tx
  have h__law_draw := has__law_draw (P := P) (w := w) (base := base) D__law_draw tx
  have h__law_is_integer := has__law_is_integer (P := P) (w := w) (base := base) D__law_is_integer tx
  have h__law_gcd := has__law_gcd (P := P) (w := w) (base := base) D__law_gcd tx
  have h__law_divisor := has__law_divisor (P := P) (w := w) (base := base) D__law_divisor tx h__law_gcd
  have h__law_product := has__law_product (P := P) (w := w) (base := base) D__law_product tx
  have h__law_head := has__law_head (P := P) (w := w) (base := base) D__law_head tx
  have h__law_number := has__law_number (P := P) (w := w) (base := base) D__law_number tx h__law_draw
  have h__law_row := has__law_row (P := P) (w := w) (base := base) D__law_row tx h__law_number
  have h__law_pair_right := has__law_pair_right (P := P) (w := w) (base := base) D__law_pair_right tx h__law_row h__law_draw h_added h_taken h_product h_is_row h__law_product hk_added hk_taken hk_product
  have h__law_row_right := has__law_row_right (P := P) (w := w) (base := base) D__law_row_right tx h__law_divisor h_share h__law_draw h__law_product h_is_share h_head h__law_head h__law_is_integer hk_divisor hk_is_share
  have h__law_right := has__law_right (P := P) (w := w) (base := base) D__law_right tx h__law_row_right h__law_draw h__law_row h__law_pair_right
  exact ok_law tx h__law_right h__law_pot _ fd F
end K11
open PySem PySem.W PySem.Calls PyProof.Rows
set_option maxRecDepth 100000 in
set_option maxHeartbeats 0 in
theorem PySem.Challenge.cw_sumroads_k11_whole_rows_holds : PySem.Challenge.rw_sumroads_k11_whole_rows.Holds := by
  w_on; o_law
  refine HandSHeadRun.head_imp (r := OpenLaw.row PySem.Challenge.rw_sumroads_k11_whole_rows) (q := view (OpenLaw.row PySem.Challenge.rw_sumroads_k11_whole_rows).prog [0, 41]) (H := K11.hk) (ob := K11.ob) (M := 4000) (loose := K11.loose) (d := HandSHeadRun.topDef (OpenLaw.row PySem.Challenge.rw_sumroads_k11_whole_rows).prog 41) (kwd := []) K11.ob_eq K11.run (by kernel_rfl) (by kernel_rfl) (by kernel_rfl) (by rfl) (by first | assumption | decide +kernel) (by decide +kernel) ⟨rfl, rfl, rfl, rfl, rfl, by decide +kernel⟩ ?hw ?hc
  case hw => w_witness2
  case hc =>
    refine FwG.walkG (l := PySem.Challenge.rw_sumroads_k11_whole_rows) (n := 63) (k := 8) (x := "_law_script") rfl (by decide) (by kernel_rfl) ⟨rfl, by decide, by decide⟩ ?F
    intro w mg fa h Y G hmg0
    obtain ⟨K, KX, c, cx⟩ := Y
    have hmg : mg ("law" : PySem.Str) = some (.ref fa) := by
      have e : (HandSHeadRun.topDef (OpenLaw.row PySem.Challenge.rw_sumroads_k11_whole_rows).prog 41).name = ("law" : PySem.Str) := by kernel_rfl
      rw [← e]
      exact hmg0
    obtain ⟨fd, hb, hF⟩ := K11.facts (P := (PySem.Challenge.rw_sumroads_k11_whole_rows).prog) (w := w) KX G hmg c cx
    exact ⟨K, fd, Fw.SpF K Fw.pre_law, KX, hb, fun H a ns hl _ hS => Fw.lawProm hl hS, hF⟩
end
