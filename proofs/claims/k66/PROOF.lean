import PyProof.Rows.All
import Wide.All
import OpenK.AllK
import Wide.FinOn
import KE.KStateDown
import HandS.ForMost
import HandS.Evl
import HandS.Conv
import HandS.Zip
import HandS.TupAny
import HandS.TupMul
import HandS.Gcd
import HandS.IsInst
import HandS.Style
import HandS.RaiseMore
import HandS.Walk
import HandS.Wide
import HandS.WideBits
import HandS.Defaults
import HandS.HeadEnd
import HandS.MakeKwOnly
import HandS.Head0
import HandS.Head1
import HandS.Head2
import HandS.Head3
import HandS.HeadHook1
import HandS.HeadHook2
import KE.DataCmp
import KE.SortData
import KE.KDictKeyed
import KE.GoesDict
import HandS.DictComp
import HandS.TupLen
import KE.KTupSum
import KE.DataMinMax
import PyProof.Rows.RuleB_bool
import KE.GoesNew
import PyProof.Rows.SeqMore
import HandS.TupSets
import KE.DataAny
import KE.KDictSum
import KE.KDictCopyH
import HandS.WordsDict
import KE.KDictDisplayH
import HandS.Iter
import HandS.Text
import HandS.Comp
import HandS.Call
import PyProof.Rows.InDataRows
import KE.LtSeq
import PyProof.Rows.SetFrom
import PySem.Challenge.RW_sumroads_k66_whole_ties_sequences_holes
set_option Elab.async false
set_option linter.all false
set_option maxRecDepth 100000
set_option maxHeartbeats 4000000
/-! Fw: weakest preconditions of the layer's readings over data (PyData), with a known heap beside the real one. -/
namespace Fw
open PySem PySem.Spec PyProof.Rows L2 Evl

mutual
/-- a value stands for data; an empty dict too -/
inductive Dx (K : PySem.W.Frag) (H : Hp) : V → PyData → Prop
  | non : Dx K H .non .none
  | bl (b : Bool) : Dx K H (.bl b) (.bool b)
  | int (n : Int) : Dx K H (.int n) (.int n)
  | str (t : Str) : Dx K H (.str t) (.str t)
  | lst {l : Addr} {vs : List V} {es : List PyData} (h : SqL K H l vs) (r : DxAll K H vs es) : Dx K H (.ref l) (.list es)
  | tup {l : Addr} {vs : List V} {es : List PyData} (h : SqT K H l vs) (r : DxAll K H vs es) : Dx K H (.ref l) (.tuple es)
  | dic {l : Addr} (h : H l = some (.dK [])) : Dx K H (.ref l) (.dict [])
inductive DxAll (K : PySem.W.Frag) (H : Hp) : List V → List PyData → Prop
  | nil : DxAll K H [] []
  | cons {v : V} {vs : List V} {e : PyData} {es : List PyData} (h : Dx K H v e) (r : DxAll K H vs es) : DxAll K H (v :: vs) (e :: es)
end
mutual
theorem dp_dx {K : PySem.W.Frag} {H : Hp} : ∀ (d : PyData) {v : V}, Dp K H v d → Dx K H v d
  | .none, _, h => by cases h; exact .non
  | .bool _, _, h => by cases h; exact .bl _
  | .int _, _, h => by cases h; exact .int _
  | .str _, _, h => by cases h; exact .str _
  | .list ds, _, h => by
    cases h with
    | lst h a => exact .lst h (dpAll_dx ds a)
  | .tuple ds, _, h => by
    cases h with
    | tup h a => exact .tup h (dpAll_dx ds a)
  | .dict _, _, h => by cases h
theorem dpAll_dx {K : PySem.W.Frag} {H : Hp} : ∀ (ds : List PyData) {vs : List V}, DpAll K H vs ds → DxAll K H vs ds
  | [], _, h => by cases h; exact .nil
  | d :: ds, _, h => by
    cases h with
    | cons h t => exact .cons (dp_dx d h) (dpAll_dx ds t)
end
mutual
theorem dx_dp {K : PySem.W.Frag} {H : Hp} : ∀ (d : PyData) {v : V}, d.hasDict = false → Dx K H v d → Dp K H v d
  | .none, _, _, h => by cases h; exact .non
  | .bool _, _, _, h => by cases h; exact .bl _
  | .int _, _, _, h => by cases h; exact .int _
  | .str _, _, _, h => by cases h; exact .str _
  | .list ds, _, n, h => by
    cases h with
    | lst h a => exact .lst h (dxAll_dp ds n a)
  | .tuple ds, _, n, h => by
    cases h with
    | tup h a => exact .tup h (dxAll_dp ds n a)
  | .dict _, _, n, h => by cases n
theorem dxAll_dp {K : PySem.W.Frag} {H : Hp} : ∀ (ds : List PyData) {vs : List V}, PyData.hasDictAll ds = false → DxAll K H vs ds → DpAll K H vs ds
  | [], _, _, h => by cases h; exact .nil
  | d :: ds, _, n, h => by
    have n' : d.hasDict = false ∧ PyData.hasDictAll ds = false := by
      have e : (d.hasDict || PyData.hasDictAll ds) = false := n
      simpa using e
    cases h with
    | cons h t => exact .cons (dx_dp d n'.1 h) (dxAll_dp ds n'.2 t)
end
section
variable {K : PySem.W.Frag}
mutual
theorem dp_mono {H H' : Hp} (e : Ex H H') : ∀ (d : PyData) {v : V}, Dx K H v d → Dx K H' v d
  | .none, _, h => by cases h; exact .non
  | .bool _, _, h => by cases h; exact .bl _
  | .int _, _, h => by cases h; exact .int _
  | .str _, _, h => by cases h; exact .str _
  | .list ds, _, h => by
    cases h with
    | lst h a => exact .lst (ex_l e h) (dpAll_mono e ds a)
  | .tuple ds, _, h => by
    cases h with
    | tup h a => exact .tup (ex_t e h) (dpAll_mono e ds a)
  | .dict _, _, h => by
    cases h with
    | dic h => exact .dic (e _ _ h)
theorem dpAll_mono {H H' : Hp} (e : Ex H H') : ∀ (ds : List PyData) {vs : List V}, DxAll K H vs ds → DxAll K H' vs ds
  | [], _, h => by cases h; exact .nil
  | d :: ds, _, h => by
    cases h with
    | cons h t => exact .cons (dp_mono e d h) (dpAll_mono e ds t)
end
mutual
theorem dp_noDict {H : Hp} : ∀ (d : PyData) {v : V}, Dp K H v d → d.hasDict = false
  | .none, _, _ => rfl
  | .bool _, _, _ => rfl
  | .int _, _, _ => rfl
  | .str _, _, _ => rfl
  | .list ds, _, h => by
    cases h with
    | lst h a => exact dpAll_noDict ds a
  | .tuple ds, _, h => by
    cases h with
    | tup h a => exact dpAll_noDict ds a
  | .dict _, _, h => by cases h
theorem dpAll_noDict {H : Hp} : ∀ (ds : List PyData) {vs : List V}, DpAll K H vs ds → PyData.hasDictAll ds = false
  | [], _, _ => rfl
  | d :: ds, _, h => by
    cases h with
    | cons h t =>
      show (d.hasDict || PyData.hasDictAll ds) = false
      rw [dp_noDict d h, dpAll_noDict ds t]
      rfl
end
theorem dp_mono0 {H H' : Hp} (e : Ex H H') (d : PyData) {v : V} (h : Dp K H v d) : Dp K H' v d := dx_dp d (dp_noDict d h) (dp_mono e d (dp_dx d h))
theorem dpAll_len {H : Hp} : ∀ {vs : List V} {ds : List PyData}, DxAll K H vs ds → vs.length = ds.length
  | _, _, .nil => rfl
  | _, _, .cons _ t => by rw [List.length_cons, List.length_cons, dpAll_len t]
theorem dpAll_get {H : Hp} : ∀ {vs : List V} {ds : List PyData} {i : Nat} {d : PyData}, DxAll K H vs ds → ds[i]? = some d → ∃ v, vs[i]? = some v ∧ Dx K H v d
  | _, _, _, _, .nil, h => by simp at h
  | _, _, 0, _, .cons (v := v) h _, e => by
    have e' := Option.some.inj e
    subst e'
    exact ⟨v, rfl, h⟩
  | _, _, i + 1, _, .cons _ t, e => by
    obtain ⟨v, h1, h2⟩ := dpAll_get (i := i) t e
    exact ⟨v, h1, h2⟩
theorem dpAll_app {H : Hp} : ∀ {vs : List V} {ds : List PyData} {ws : List V} {es : List PyData}, DxAll K H vs ds → DxAll K H ws es → DxAll K H (vs ++ ws) (ds ++ es)
  | _, _, _, _, .nil, h => h
  | _, _, _, _, .cons h t, h2 => .cons h (dpAll_app t h2)
theorem dpAll_take {H : Hp} : ∀ (n : Nat) {vs : List V} {ds : List PyData}, DxAll K H vs ds → DxAll K H (vs.take n) (ds.take n)
  | 0, _, _, _ => .nil
  | _ + 1, _, _, .nil => .nil
  | n + 1, _, _, .cons h t => .cons h (dpAll_take n t)
theorem dpAll_drop {H : Hp} : ∀ (n : Nat) {vs : List V} {ds : List PyData}, DxAll K H vs ds → DxAll K H (vs.drop n) (ds.drop n)
  | 0, _, _, h => h
  | _ + 1, _, _, .nil => .nil
  | n + 1, _, _, .cons _ t => dpAll_drop n t
theorem dpAll_rev {H : Hp} : ∀ {vs : List V} {ds : List PyData}, DxAll K H vs ds → DxAll K H vs.reverse ds.reverse
  | _, _, .nil => .nil
  | _, _, .cons h t => by
    rw [List.reverse_cons, List.reverse_cons]
    exact dpAll_app (dpAll_rev t) (.cons h .nil)
theorem dpAll_set {H : Hp} {v : V} {d : PyData} (hv : Dx K H v d) : ∀ (n : Nat) {vs : List V} {ds : List PyData}, DxAll K H vs ds → DxAll K H (vs.set n v) (ds.set n d)
  | _, _, _, .nil => .nil
  | 0, _, _, .cons _ t => .cons hv t
  | n + 1, _, _, .cons h t => .cons h (dpAll_set hv n t)
theorem dpAll_rep {H : Hp} {vs : List V} {ds : List PyData} (h : DxAll K H vs ds) : ∀ n : Nat, DxAll K H (List.replicate n vs).flatten (List.replicate n ds).flatten
  | 0 => .nil
  | n + 1 => by
    rw [List.replicate_succ, List.replicate_succ, List.flatten_cons, List.flatten_cons]
    exact dpAll_app h (dpAll_rep h n)
theorem dpAll_ints {H : Hp} : ∀ {ns : List Int} {vs : List V}, DxAll K H vs (ns.map .int) → vs = ns.map V.int
  | [], _, h => by cases h; rfl
  | n :: ns, _, h => by
    cases h with
    | cons h t =>
      cases h
      rw [dpAll_ints t]
      rfl
theorem dpAll_bools {H : Hp} : ∀ {ns : List Bool} {vs : List V}, DxAll K H vs (ns.map .bool) → vs = ns.map V.bl
  | [], _, h => by cases h; rfl
  | n :: ns, _, h => by
    cases h with
    | cons h t =>
      cases h
      rw [dpAll_bools t]
      rfl
theorem dp_tup {H : Hp} {v : V} {ds : List PyData} (h : Dx K H v (.tuple ds)) : ∃ a xs, v = .ref a ∧ SqT K H a xs ∧ DxAll K H xs ds := by
  cases h with
  | tup h a => exact ⟨_, _, rfl, h, a⟩
theorem dp_lst {H : Hp} {v : V} {ds : List PyData} (h : Dx K H v (.list ds)) : ∃ a xs, v = .ref a ∧ SqL K H a xs ∧ DxAll K H xs ds := by
  cases h with
  | lst h a => exact ⟨_, _, rfl, h, a⟩
theorem dp_int {H : Hp} {v : V} {i : Int} (h : Dx K H v (.int i)) : v = .int i := by cases h; rfl
theorem dp_bl {H : Hp} {v : V} {i : Bool} (h : Dx K H v (.bool i)) : v = .bl i := by cases h; rfl
theorem dp_str {H : Hp} {v : V} {i : Str} (h : Dx K H v (.str i)) : v = .str i := by cases h; rfl
theorem dp_non {H : Hp} {v : V} (h : Dx K H v .none) : v = .non := by cases h; rfl

/-! ### data without lists -/
mutual
def flatD : PyData → Bool
  | .list _ => false
  | .dict _ => false
  | .tuple xs => flatAllD xs
  | _ => true
def flatAllD : List PyData → Bool
  | [] => true
  | x :: xs => flatD x && flatAllD xs
end
def del (H : Hp) (l : Addr) : Hp := fun a => if a = l then none else H a
theorem del_same {H : Hp} {l : Addr} : del H l l = none := if_pos rfl
theorem del_ne {H : Hp} {l a : Addr} (h : a ≠ l) : del H l a = H a := if_neg h
theorem sqT_del {H : Hp} {l a : Addr} {vs xs : List V} (hl : H l = some (.lst vs)) (h : SqT K H a xs) : SqT K (del H l) a xs := by
  have ne : ∀ {o : HO}, H a = some o → (∀ z, o ≠ .lst z) → a ≠ l := fun e n z => by
    rw [z, hl] at e
    exact n _ (Option.some.inj e).symm
  rcases h with (h | ⟨o, h⟩) | h
  · refine .inl (.inl ?_)
    rw [del_ne (ne h (fun _ q => nomatch q))]
    exact h
  · refine .inl (.inr ⟨o, ?_⟩)
    rw [del_ne (ne h (fun _ q => nomatch q))]
    exact h
  · exact .inr h
mutual
theorem dp_del {H : Hp} {l : Addr} {vs : List V} (hl : H l = some (.lst vs)) : ∀ (d : PyData) {v : V}, flatD d = true → Dx K H v d → Dx K (del H l) v d
  | .none, _, _, h => by cases h; exact .non
  | .bool _, _, _, h => by cases h; exact .bl _
  | .int _, _, _, h => by cases h; exact .int _
  | .str _, _, _, h => by cases h; exact .str _
  | .list ds, _, f, h => by cases f
  | .tuple ds, _, f, h => by
    cases h with
    | tup h a => exact .tup (sqT_del hl h) (dpAll_del hl ds (by simpa [flatD] using f) a)
  | .dict _, _, f, h => by cases f
theorem dpAll_del {H : Hp} {l : Addr} {vs : List V} (hl : H l = some (.lst vs)) : ∀ (ds : List PyData) {us : List V}, flatAllD ds = true → DxAll K H us ds → DxAll K (del H l) us ds
  | [], _, _, h => by cases h; exact .nil
  | d :: ds, _, f, h => by
    cases h with
    | cons h t =>
      have f' : flatD d = true ∧ flatAllD ds = true := by simpa [flatAllD] using f
      exact .cons (dp_del hl d f'.1 h) (dpAll_del hl ds f'.2 t)
end
end

/-! ### the state: the known heap, the real heap, one list of two ints that may change -/
def PotB (a b : Int) : Prop := 0 ≤ a ∧ 0 ≤ b ∧ b < 4294967296
def PotOk (Hk H : Hp) : Option Addr → Prop
  | none => True
  | some p => Hk p = none ∧ ∃ a b, H p = some (.lst [.int a, .int b]) ∧ PotB a b
structure Go (p : Option Addr) (Hk H Hk' H' : Hp) : Prop where
  kk : Ex Hk Hk'
  kr : Ex Hk' H'
  rr : ∀ a o, p ≠ some a → H a = some o → H' a = some o
  nk : ∀ a, H a ≠ none → Hk a = none → Hk' a = none
  po : PotOk Hk' H' p
section
variable {p : Option Addr} {Hk H Hk1 H1 Hk2 H2 : Hp}
theorem Go.refl (e : Ex Hk H) (po : PotOk Hk H p) : Go p Hk H Hk H := ⟨Ex.refl _, e, fun _ _ _ h => h, fun _ _ h => h, po⟩
theorem Go.live (g : Go p Hk H Hk1 H1) {a : Addr} (h1 : H a ≠ none) : H1 a ≠ none := fun z => by
  by_cases e : p = some a
  · subst e
    obtain ⟨_, _, _, h, _⟩ := g.po
    rw [z] at h
    cases h
  · cases q : H a with
    | none => exact h1 q
    | some o =>
      rw [g.rr a o e q] at z
      cases z
theorem Go.trans (g : Go p Hk H Hk1 H1) (g2 : Go p Hk1 H1 Hk2 H2) : Go p Hk H Hk2 H2 :=
  ⟨g.kk.trans g2.kk, g2.kr, fun a o n h => g2.rr a o n (g.rr a o n h), fun a h1 h2 => g2.nk a (g.live h1) (g.nk a h1 h2), g2.po⟩
theorem Go.new {q : Addr} {o : HO} (e : Ex Hk H) (po : PotOk Hk H p) (hq : H q = none) : Go p Hk H (upd Hk q o) (upd H q o) := by
  have hk : Hk q = none := fresh_back e hq
  refine ⟨Ex.new hk, fun a u h => ?_, fun a u _ h => ?_, fun a h1 h2 => ?_, ?_⟩
  · by_cases z : a = q
    · subst z
      rw [upd_same] at h
      rw [upd_same]
      exact h
    · rw [upd_ne z] at h
      rw [upd_ne z]
      exact e a u h
  · rw [upd_ne (ne_of_none h hq)]
    exact h
  · have z : a ≠ q := fun z => h1 (by rw [z]; exact hq)
    rw [upd_ne z]
    exact h2
  · cases p with
    | none => exact True.intro
    | some p =>
      obtain ⟨h1, a, b, h2, h3⟩ := po
      have z : p ≠ q := ne_of_none h2 hq
      refine ⟨?_, a, b, ?_, h3⟩
      · rw [upd_ne z]
        exact h1
      · rw [upd_ne z]
        exact h2
theorem Go.lift (po : PotOk Hk H p) (g : Go none Hk H Hk1 H1) : Go p Hk H Hk1 H1 :=
  ⟨g.kk, g.kr, fun a o _ h => g.rr a o (fun z => nomatch z) h, g.nk, by
    cases p with
    | none => exact True.intro
    | some p =>
      obtain ⟨h1, a, b, h2, h3⟩ := po
      exact ⟨g.nk p (fun z => by rw [z] at h2; cases h2) h1, a, b, g.rr p _ (fun z => nomatch z) h2, h3⟩⟩
end

/-! ### the slots -/
/-- a known thing that stays as it is -/
structure Ext where
  S : Hp → V → Prop
  mono : ∀ Hk Hk' v, Ex Hk Hk' → S Hk v → S Hk' v
/-- an own thing that is no list, and may change -/
structure Mov where
  S : Hp → Addr → HO → Prop
  mono : ∀ Hk Hk' l o, Ex Hk Hk' → S Hk l o → S Hk' l o
  nl : ∀ Hk l o, S Hk l o → ∀ vs, o ≠ .lst vs
inductive Slot where
  | no
  | pot
  | dat (d : PyData)
  | own (ds : List PyData)
  | ext (S : Ext)
  | mov (S : Mov)
def SlOk (K : PySem.W.Frag) (p : Option Addr) (H0 Hk H : Hp) (ov : Option V) : Slot → Prop
  | .no => True
  | .pot => ∃ a, p = some a ∧ ov = some (.ref a)
  | .dat d => ∃ v, ov = some v ∧ Dx K Hk v d
  | .own ds => ∃ l vs, ov = some (.ref l) ∧ H0 l = none ∧ Hk l = none ∧ p ≠ some l ∧ H l = some (.lst vs) ∧ DxAll K Hk vs ds
  | .ext S => ∃ v, ov = some v ∧ S.S Hk v
  | .mov S => ∃ l o, ov = some (.ref l) ∧ H0 l = none ∧ Hk l = none ∧ p ≠ some l ∧ H l = some o ∧ S.S Hk l o
structure En (K : PySem.W.Frag) (p : Option Addr) (H0 Hk H : Hp) (σ : List (Option V)) (env : List Slot) : Prop where
  len : σ.length = env.length
  slot : ∀ (i : Nat) (sl : Slot), env[i]? = some sl → ∃ ov, σ[i]? = some ov ∧ SlOk K p H0 Hk H ov sl
  apart : ∀ (i j : Nat) (l : Addr) (ds es : List PyData), env[i]? = some (.own ds) → env[j]? = some (.own es) → σ[i]? = some (some (.ref l)) → σ[j]? = some (some (.ref l)) → i = j
section
variable {K : PySem.W.Frag} {p : Option Addr} {H0 Hk H Hk1 H1 : Hp} {σ : List (Option V)} {env : List Slot}
theorem SlOk.go (g : Go p Hk H Hk1 H1) {ov : Option V} : ∀ {sl : Slot}, SlOk K p H0 Hk H ov sl → SlOk K p H0 Hk1 H1 ov sl
  | .no, _ => True.intro
  | .pot, h => h
  | .dat d, h => let ⟨v, e, r⟩ := h; ⟨v, e, dp_mono g.kk d r⟩
  | .own ds, h => let ⟨l, vs, e, h0, hk, hp, hl, r⟩ := h
    ⟨l, vs, e, h0, g.nk l (fun z => by rw [z] at hl; cases hl) hk, hp, g.rr l _ hp hl, dpAll_mono g.kk ds r⟩
  | .ext S, h => let ⟨v, e, r⟩ := h; ⟨v, e, S.mono _ _ v g.kk r⟩
  | .mov S, h => let ⟨l, o, e, h0, hk, hp, hl, r⟩ := h
    ⟨l, o, e, h0, g.nk l (fun z => by rw [z] at hl; cases hl) hk, hp, g.rr l _ hp hl, S.mono _ _ l o g.kk r⟩
theorem En.go (h : En K p H0 Hk H σ env) (g : Go p Hk H Hk1 H1) : En K p H0 Hk1 H1 σ env :=
  ⟨h.len, fun i sl e => let ⟨ov, e1, r⟩ := h.slot i sl e; ⟨ov, e1, r.go g⟩, h.apart⟩
theorem En.set_any (h : En K p H0 Hk H σ env) {i : Nat} {ov : Option V} {sl : Slot} (r : SlOk K p H0 Hk H ov sl) (hn : ∀ ds, sl ≠ .own ds) : En K p H0 Hk H (σ.set i ov) (env.set i sl) := by
  refine ⟨by rw [List.length_set, List.length_set, h.len], fun j s e => ?_, fun j k l ds es e1 e2 e3 e4 => ?_⟩
  · by_cases z : i = j
    · subst z
      rw [List.getElem?_set] at e
      simp only [if_true] at e
      split at e
      · rename_i hlt
        have e' := Option.some.inj e
        subst e'
        exact ⟨ov, by rw [List.getElem?_set]; simp [h.len, hlt], r⟩
      · cases e
    · rw [List.getElem?_set_ne z] at e
      rw [List.getElem?_set_ne z]
      exact h.slot j s e
  · have n : ∀ {m : Nat} {ds : List PyData}, (env.set i sl)[m]? = some (.own ds) → i ≠ m ∧ env[m]? = some (.own ds) := fun {m ds} e => by
      by_cases z : i = m
      · subst z
        rw [List.getElem?_set] at e
        simp only [if_true] at e
        split at e
        · exact absurd (Option.some.inj e) (hn ds)
        · cases e
      · rw [List.getElem?_set_ne z] at e
        exact ⟨z, e⟩
    obtain ⟨n1, f1⟩ := n e1
    obtain ⟨n2, f2⟩ := n e2
    rw [List.getElem?_set_ne n1] at e3
    rw [List.getElem?_set_ne n2] at e4
    exact h.apart j k l ds es f1 f2 e3 e4
theorem En.set (h : En K p H0 Hk H σ env) {i : Nat} {v : V} {d : PyData} (r : Dx K Hk v d) : En K p H0 Hk H (σ.set i (some v)) (env.set i (.dat d)) :=
  h.set_any ⟨v, rfl, r⟩ (fun _ q => nomatch q)
theorem En.wipe1 (h : En K p H0 Hk H σ env) (i : Nat) : En K p H0 Hk H (σ.set i none) (env.set i .no) :=
  h.set_any True.intro (fun _ q => nomatch q)
/-- a new list that the def may change -/
theorem En.set_own (h : En K p H0 Hk H σ env) {i : Nat} {l : Addr} {vs : List V} {ds : List PyData} (h0 : H0 l = none) (hl : H l = none) (hk : Hk l = none) (hp : p ≠ some l) (r : DxAll K Hk vs ds) : En K p H0 Hk (upd H l (.lst vs)) (σ.set i (some (.ref l))) (env.set i (.own ds)) := by
  have old : ∀ {j : Nat} {s : Slot} {ov : Option V}, SlOk K p H0 Hk H ov s → SlOk K p H0 Hk (upd H l (.lst vs)) ov s := fun {j s ov} q => by
    cases s with
    | no => exact True.intro
    | pot => exact q
    | dat d => exact q
    | ext S => exact q
    | mov S =>
      obtain ⟨m, o, a1, a2, a3, a4, a5, a6⟩ := q
      refine ⟨m, o, a1, a2, a3, a4, ?_, a6⟩
      rw [upd_ne (ne_of_none a5 hl)]
      exact a5
    | own es =>
      obtain ⟨m, ws, a1, a2, a3, a4, a5, a6⟩ := q
      refine ⟨m, ws, a1, a2, a3, a4, ?_, a6⟩
      rw [upd_ne (ne_of_none a5 hl)]
      exact a5
  refine ⟨by rw [List.length_set, List.length_set, h.len], fun j s e => ?_, fun j k m ds' es e1 e2 e3 e4 => ?_⟩
  · by_cases z : i = j
    · subst z
      rw [List.getElem?_set] at e
      simp only [if_true] at e
      split at e
      · rename_i hlt
        have e' := Option.some.inj e
        subst e'
        exact ⟨some (.ref l), by rw [List.getElem?_set]; simp [h.len, hlt], l, vs, rfl, h0, hk, hp, upd_same, r⟩
      · cases e
    · rw [List.getElem?_set_ne z] at e
      rw [List.getElem?_set_ne z]
      obtain ⟨ov, e1, q⟩ := h.slot j s e
      exact ⟨ov, e1, old (j := j) q⟩
  · -- the new one is no one of the old
    have live : ∀ {m' : Addr} {j : Nat} {ds : List PyData}, env[j]? = some (.own ds) → σ[j]? = some (some (.ref m')) → m' ≠ l := fun {m' j ds} e f => by
      obtain ⟨ov, g1, m2, ws, a1, a2, a3, a4, a5, a6⟩ := h.slot j _ e
      rw [f] at g1
      have g2 := Option.some.inj g1
      rw [← g2] at a1
      have g3 : m' = m2 := by
        have := Option.some.inj a1
        injection this
      rw [g3]
      exact ne_of_none a5 hl
    by_cases z : i = j
    · by_cases z2 : i = k
      · rw [← z, ← z2]
      · subst z
        rw [List.getElem?_set_ne z2] at e2 e4
        have hj : m = l := by
          rw [List.getElem?_set] at e3
          simp only [if_true] at e3
          split at e3
          · have := Option.some.inj (Option.some.inj e3)
            injection this with q
            exact q.symm
          · cases e3
        exact absurd hj (live e2 e4)
    · by_cases z2 : i = k
      · subst z2
        rw [List.getElem?_set_ne z] at e1 e3
        have hj : m = l := by
          rw [List.getElem?_set] at e4
          simp only [if_true] at e4
          split at e4
          · have := Option.some.inj (Option.some.inj e4)
            injection this with q
            exact q.symm
          · cases e4
        exact absurd hj (live e1 e3)
      · rw [List.getElem?_set_ne z] at e1 e3
        rw [List.getElem?_set_ne z2] at e2 e4
        exact h.apart j k m ds' es e1 e2 e3 e4
/-- a list made since: the def's own -/
theorem En.add_own (h : En K p H0 Hk H σ env) (h' : En K p H0 Hk1 H1 σ env) {i : Nat} {l : Addr} {vs : List V} {ds : List PyData} (h0 : H0 l = none) (hl : H l = none) (h1 : H1 l = some (.lst vs)) (hk : Hk1 l = none) (hp : p ≠ some l) (r : DxAll K Hk1 vs ds) : En K p H0 Hk1 H1 (σ.set i (some (.ref l))) (env.set i (.own ds)) := by
  have live : ∀ {m' : Addr} {j : Nat} {ds : List PyData}, env[j]? = some (.own ds) → σ[j]? = some (some (.ref m')) → m' ≠ l := fun {m' j ds} e f => by
    obtain ⟨ov, g1, m2, ws, a1, a2, a3, a4, a5, a6⟩ := h.slot j _ e
    rw [f] at g1
    have g2 := Option.some.inj g1
    rw [← g2] at a1
    have g3 : m' = m2 := by
      have := Option.some.inj a1
      injection this
    rw [g3]
    exact ne_of_none a5 hl
  have isl : ∀ {m : Addr}, (σ.set i (some (V.ref l)))[i]? = some (some (V.ref m)) → m = l := fun {m} e3 => by
    rw [List.getElem?_set] at e3
    simp only [if_true] at e3
    split at e3
    · have := Option.some.inj (Option.some.inj e3)
      injection this with q
      exact q.symm
    · cases e3
  refine ⟨by rw [List.length_set, List.length_set, h.len], fun j s e => ?_, fun j k m ds' es e1 e2 e3 e4 => ?_⟩
  · by_cases z : i = j
    · subst z
      rw [List.getElem?_set] at e
      simp only [if_true] at e
      split at e
      · rename_i hlt
        have e' := Option.some.inj e
        subst e'
        exact ⟨some (.ref l), by rw [List.getElem?_set]; simp [h.len, hlt], l, vs, rfl, h0, hk, hp, h1, r⟩
      · cases e
    · rw [List.getElem?_set_ne z] at e
      rw [List.getElem?_set_ne z]
      exact h'.slot j s e
  · by_cases z : i = j
    · by_cases z2 : i = k
      · rw [← z, ← z2]
      · subst z
        rw [List.getElem?_set_ne z2] at e2 e4
        exact absurd (isl e3) (live e2 e4)
    · by_cases z2 : i = k
      · subst z2
        rw [List.getElem?_set_ne z] at e1 e3
        exact absurd (isl e4) (live e1 e3)
      · rw [List.getElem?_set_ne z] at e1 e3
        rw [List.getElem?_set_ne z2] at e2 e4
        exact h.apart j k m ds' es e1 e2 e3 e4
/-- an own list is changed -/
theorem En.put_own (h : En K p H0 Hk H σ env) {i : Nat} {l : Addr} {ws : List V} {ds es : List PyData} (e : env[i]? = some (.own ds)) (f : σ[i]? = some (some (.ref l))) (r : DxAll K Hk ws es) : En K p H0 Hk (upd H l (.lst ws)) σ (env.set i (.own es)) := by
  obtain ⟨ov, g1, l2, vs2, a1, a2, a3, a4, a5, a6⟩ := h.slot i _ e
  rw [f] at g1
  have g2 := Option.some.inj g1
  rw [← g2] at a1
  have g3 : l = l2 := by
    have := Option.some.inj a1
    injection this
  subst g3
  have hlt : i < env.length := (List.getElem?_eq_some_iff.mp e).1
  refine ⟨by rw [List.length_set, h.len], fun j s e' => ?_, fun j k m ds' es' e1 e2 e3 e4 => ?_⟩
  · by_cases z : i = j
    · subst z
      rw [List.getElem?_set] at e'
      simp only [if_true, hlt] at e'
      have e'' := Option.some.inj e'
      subst e''
      exact ⟨_, f, l, ws, rfl, a2, a3, a4, upd_same, r⟩
    · rw [List.getElem?_set_ne z] at e'
      obtain ⟨ov', e1, q⟩ := h.slot j s e'
      refine ⟨ov', e1, ?_⟩
      cases s with
      | no => exact True.intro
      | pot => exact q
      | dat d => exact q
      | ext S => exact q
      | mov S =>
        obtain ⟨m, o, b1, b2, b3, b4, b5, b6⟩ := q
        refine ⟨m, o, b1, b2, b3, b4, ?_, b6⟩
        have hm : m ≠ l := fun y => by
          rw [y, a5] at b5
          exact S.nl _ _ _ b6 _ (Option.some.inj b5).symm
        rw [upd_ne hm]
        exact b5
      | own es2 =>
        obtain ⟨m, ws2, b1, b2, b3, b4, b5, b6⟩ := q
        refine ⟨m, ws2, b1, b2, b3, b4, ?_, b6⟩
        have hm : m ≠ l := fun y => z (h.apart i j l ds es2 e e' f (by rw [e1, b1, y]))
        rw [upd_ne hm]
        exact b5
  · have n : ∀ {m : Nat} {ds0 : List PyData}, (env.set i (.own es))[m]? = some (.own ds0) → ∃ ds1, env[m]? = some (.own ds1) := fun {m ds0} e => by
      by_cases z : i = m
      · subst z
        exact ⟨ds, by assumption⟩
      · rw [List.getElem?_set_ne z] at e
        exact ⟨_, e⟩
    obtain ⟨d1, f1⟩ := n e1
    obtain ⟨d2, f2⟩ := n e2
    exact h.apart j k m d1 d2 f1 f2 e3 e4
/-- an own list is known from now on -/
theorem En.publish (h : En K p H0 Hk H σ env) {i : Nat} {l : Addr} {vs : List V} {ds : List PyData} (e : env[i]? = some (.own ds)) (f : σ[i]? = some (some (.ref l))) (hk : Hk l = none) (hl : H l = some (.lst vs)) (r : DxAll K Hk vs ds) :
    En K p H0 (upd Hk l (.lst vs)) H σ (env.set i (.dat (.list ds))) := by
  have hlt : i < env.length := (List.getElem?_eq_some_iff.mp e).1
  have x : Ex Hk (upd Hk l (.lst vs)) := Ex.new hk
  refine ⟨by rw [List.length_set, h.len], fun j s e' => ?_, fun j k m ds' es' e1 e2 e3 e4 => ?_⟩
  · by_cases z : i = j
    · subst z
      rw [List.getElem?_set] at e'
      simp only [if_true, hlt] at e'
      have e'' := Option.some.inj e'
      subst e''
      exact ⟨_, f, .ref l, rfl, .lst (SqL.of upd_same) (dpAll_mono x ds r)⟩
    · rw [List.getElem?_set_ne z] at e'
      obtain ⟨ov', e1, q⟩ := h.slot j s e'
      refine ⟨ov', e1, ?_⟩
      cases s with
      | no => exact True.intro
      | pot => exact q
      | dat d => exact let ⟨v, e, r⟩ := q; ⟨v, e, dp_mono x d r⟩
      | ext S => exact let ⟨v, e, r⟩ := q; ⟨v, e, S.mono _ _ v x r⟩
      | mov S =>
        obtain ⟨m, o, b1, b2, b3, b4, b5, b6⟩ := q
        have hm : m ≠ l := fun y => by
          rw [y, hl] at b5
          exact S.nl _ _ _ b6 _ (Option.some.inj b5).symm
        refine ⟨m, o, b1, b2, ?_, b4, b5, S.mono _ _ m o x b6⟩
        rw [upd_ne hm]
        exact b3
      | own es2 =>
        obtain ⟨m, ws2, b1, b2, b3, b4, b5, b6⟩ := q
        have hm : m ≠ l := fun y => z (h.apart i j l ds es2 e e' f (by rw [e1, b1, y]))
        refine ⟨m, ws2, b1, b2, ?_, b4, b5, dpAll_mono x es2 b6⟩
        rw [upd_ne hm]
        exact b3
  · have n : ∀ {m : Nat} {ds0 : List PyData}, (env.set i (.dat (.list ds)))[m]? = some (.own ds0) → env[m]? = some (.own ds0) := fun {m ds0} e => by
      by_cases z : i = m
      · subst z
        rw [List.getElem?_set] at e
        simp only [if_true, hlt] at e
        cases (Option.some.inj e)
      · rw [List.getElem?_set_ne z] at e
        exact e
    exact h.apart j k m ds' es' (n e1) (n e2) e3 e4
/-- a new own thing that is no list -/
theorem En.set_mov (h : En K p H0 Hk H σ env) (h' : En K p H0 Hk1 H1 σ env) {i : Nat} {l : Addr} {o : HO} {S : Mov} (h0 : H0 l = none) (h1 : H1 l = some o) (hk : Hk1 l = none) (hp : p ≠ some l) (r : S.S Hk1 l o) : En K p H0 Hk1 H1 (σ.set i (some (.ref l))) (env.set i (.mov S)) :=
  h'.set_any ⟨l, o, rfl, h0, hk, hp, h1, r⟩ (fun _ q => nomatch q)
/-- the only own thing of its kind -/
def OneMov (env : List Slot) (i : Nat) : Prop := ∀ j S, env[j]? = some (.mov S) → i = j
/-- it is changed -/
theorem En.put_mov (h : En K p H0 Hk H σ env) {i : Nat} {l : Addr} {o : HO} {S T : Mov} (one : OneMov env i) (e : env[i]? = some (.mov S)) (f : σ[i]? = some (some (.ref l))) (r : T.S Hk l o) : En K p H0 Hk (upd H l o) σ (env.set i (.mov T)) := by
  obtain ⟨ov, g1, l2, o2, a1, a2, a3, a4, a5, a6⟩ := h.slot i _ e
  rw [f] at g1
  have g2 := Option.some.inj g1
  rw [← g2] at a1
  have g3 : l = l2 := by
    have := Option.some.inj a1
    injection this
  subst g3
  have hlt : i < env.length := (List.getElem?_eq_some_iff.mp e).1
  refine ⟨by rw [List.length_set, h.len], fun j s e' => ?_, fun j k m ds' es' e1 e2 e3 e4 => ?_⟩
  · by_cases z : i = j
    · subst z
      rw [List.getElem?_set] at e'
      simp only [if_true, hlt] at e'
      have e'' := Option.some.inj e'
      subst e''
      exact ⟨_, f, l, o, rfl, a2, a3, a4, upd_same, r⟩
    · rw [List.getElem?_set_ne z] at e'
      obtain ⟨ov', e1, q⟩ := h.slot j s e'
      refine ⟨ov', e1, ?_⟩
      cases s with
      | no => exact True.intro
      | pot => exact q
      | dat d => exact q
      | ext S => exact q
      | mov S2 => exact absurd (one j S2 e') z
      | own es2 =>
        obtain ⟨m, ws2, b1, b2, b3, b4, b5, b6⟩ := q
        refine ⟨m, ws2, b1, b2, b3, b4, ?_, b6⟩
        have hm : m ≠ l := fun y => by
          rw [y, a5] at b5
          exact S.nl _ _ _ a6 _ (Option.some.inj b5)
        rw [upd_ne hm]
        exact b5
  · have n : ∀ {m : Nat} {ds0 : List PyData}, (env.set i (.mov T))[m]? = some (.own ds0) → env[m]? = some (.own ds0) := fun {m ds0} e => by
      by_cases z : i = m
      · subst z
        rw [List.getElem?_set] at e
        simp only [if_true, hlt] at e
        cases (Option.some.inj e)
      · rw [List.getElem?_set_ne z] at e
        exact e
    exact h.apart j k m ds' es' (n e1) (n e2) e3 e4
def wipeE (env : List Slot) : List Nat → List Slot
  | [] => env
  | v :: vs => (wipeE env vs).set v .no
theorem En.wipe (h : En K p H0 Hk H σ env) : ∀ vs : List Nat, En K p H0 Hk H (L2.wipe σ vs) (wipeE env vs)
  | [] => h
  | v :: vs => (En.wipe h vs).wipe1 v
end
end Fw
namespace Fw
open PySem PySem.Spec PyProof.Rows L2 Evl
theorem noDict_shaped {d : PyData} (h : SeqAt.shaped d = true) : d.hasDict = false := by
  unfold SeqAt.shaped at h
  rw [Bool.and_eq_true] at h
  exact PyData.hasDict_of_canLay d h.1
section
variable (K : PySem.W.Frag) (p : Option Addr)
def WpE (te : TE) (env : List Slot) (Φ : PyData → Prop) : Prop := ∀ (H0 : Hp) (σ : List (Option V)) (Hk H : Hp) (Q : VK), Ex Hk H → PotOk Hk H p → En K p H0 Hk H σ env →
  (∀ v d Hk' H', Go p Hk H Hk' H' → Dx K Hk' v d → Φ d → Q v H') → te σ H Q
def WpT (tt : TT) (env : List Slot) (Φ : Bool → Prop) : Prop := ∀ (H0 : Hp) (σ : List (Option V)) (Hk H : Hp) (Q : Bool → Hp → Prop), Ex Hk H → PotOk Hk H p → En K p H0 Hk H σ env →
  (∀ b Hk' H', Go p Hk H Hk' H' → Φ b → Q b H') → tt σ H Q
def WpA (ta : TA) (env : List Slot) (Φ : List PyData → Prop) : Prop := ∀ (H0 : Hp) (σ : List (Option V)) (Hk H : Hp) (Q : List V → Hp → Prop), Ex Hk H → PotOk Hk H p → En K p H0 Hk H σ env →
  (∀ vs ds Hk' H', Go p Hk H Hk' H' → DxAll K Hk' vs ds → Φ ds → Q vs H') → ta σ H Q
def WpO (to : TO) (env : List Slot) (Φ : Option Int → Prop) : Prop := ∀ (H0 : Hp) (σ : List (Option V)) (Hk H : Hp) (Q : Option Int → Hp → Prop), Ex Hk H → PotOk Hk H p → En K p H0 Hk H σ env →
  (∀ o Hk' H', Go p Hk H Hk' H' → Φ o → Q o H') → to σ H Q
/-- an operation on two values, a call of a built-in on values -/
def OpD (r : R2) (x y : PyData) (Φ : PyData → Prop) : Prop := ∀ (vx vy : V) (Hk H : Hp) (Q : VK), Ex Hk H → PotOk Hk H p → Dx K Hk vx x → Dx K Hk vy y →
  (∀ v d Hk' H', Go p Hk H Hk' H' → Dx K Hk' v d → Φ d → Q v H') → r vx vy H Q
def CbD (r : List V → Hp → VK → Prop) (xs : List PyData) (Φ : PyData → Prop) : Prop := ∀ (vs : List V) (Hk H : Hp) (Q : VK), Ex Hk H → PotOk Hk H p → DxAll K Hk vs xs →
  (∀ v d Hk' H', Go p Hk H Hk' H' → Dx K Hk' v d → Φ d → Q v H') → r vs H Q
def UnD (r : V → Hp → VK → Prop) (x : PyData) (Φ : PyData → Prop) : Prop := ∀ (vx : V) (Hk H : Hp) (Q : VK), Ex Hk H → PotOk Hk H p → Dx K Hk vx x →
  (∀ v d Hk' H', Go p Hk H Hk' H' → Dx K Hk' v d → Φ d → Q v H') → r vx H Q
def ItOk (J : It) (Hk : Hp) (xs : List PyData) : Prop := ∀ Hk1 H1, Ex Hk Hk1 → Ex Hk1 H1 → PotOk Hk1 H1 p →
  (∀ i, i < xs.length → J.go i H1) ∧ J.stop xs.length H1 ∧ ∀ i x H', i < xs.length → J.yld i H1 x H' → ∃ d Hk2, xs[i]? = some d ∧ Dx K Hk2 x d ∧ Go p Hk1 H1 Hk2 H'
def WpI (wi : TI) (env : List Slot) (Ψ : List PyData → Prop) : Prop := ∀ (H0 : Hp) (σ : List (Option V)) (Hk H : Hp) (R : It → Hp → Prop), Ex Hk H → PotOk Hk H p → En K p H0 Hk H σ env →
  (∀ J xs Hk' H', Go p Hk H Hk' H' → ItOk K p J Hk' xs → Ψ xs → R J H') → wi σ H R
/-- a target: only the slots js may change -/
def WpG (js : List Nat) (g : TG) (d : PyData) (env : List Slot) (Ψ : List Slot → Prop) : Prop := ∀ (H0 : Hp) (σ : List (Option V)) (Hk H : Hp) (v : V) (Q : List (Option V) → Hp → Prop), Ex Hk H → PotOk Hk H p → En K p H0 Hk H σ env → Dx K Hk v d →
  (∀ σ' env', En K p H0 Hk H σ' env' → (σ'.length = σ.length ∧ ∀ j, j ∉ js → σ'[j]? = σ[j]?) → Ψ env' → Q σ' H) → g v σ H Q
def WpGs (js : List Nat) (g : TGs) (ds : List PyData) (env : List Slot) (Ψ : List Slot → Prop) : Prop := ∀ (H0 : Hp) (σ : List (Option V)) (Hk H : Hp) (vs : List V) (Q : List (Option V) → Hp → Prop), Ex Hk H → PotOk Hk H p → En K p H0 Hk H σ env → DxAll K Hk vs ds →
  (∀ σ' env', En K p H0 Hk H σ' env' → (σ'.length = σ.length ∧ ∀ j, j ∉ js → σ'[j]? = σ[j]?) → Ψ env' → Q σ' H) → g vs σ H Q
structure Outs where
  nx : List Slot → Prop
  rt : PyData → Prop
  bk : List Slot → Prop
  ct : List Slot → Prop
  rf : List PyData → Prop := fun _ => False
structure EndsOk (H0 Hk0 : Hp) (D : Ends) (O : Outs) : Prop where
  nx : ∀ env σ Hk H, Go p Hk0 H0 Hk H → En K p H0 Hk H σ env → O.nx env → D.nx σ H
  rt : ∀ v d Hk H, Go p Hk0 H0 Hk H → Dx K Hk v d → O.rt d → D.rt v H
  bk : ∀ env σ Hk H, Go p Hk0 H0 Hk H → En K p H0 Hk H σ env → O.bk env → D.bk σ H
  ct : ∀ env σ Hk H, Go p Hk0 H0 Hk H → En K p H0 Hk H σ env → O.ct env → D.ct σ H
  rf : ∀ l vs ds Hk H, Go p Hk0 H0 Hk H → H0 l = none → Hk l = none → H l = some (.lst vs) → DxAll K Hk vs ds → O.rf ds → D.rt (.ref l) H
def WpS (ts : TS) (env : List Slot) (O : Outs) : Prop := ∀ (H0 Hk0 : Hp) (σ : List (Option V)) (Hk H : Hp) (D : Ends), Go p Hk0 H0 Hk H → En K p H0 Hk H σ env → EndsOk K p H0 Hk0 D O → ts D σ H
end

section
variable {K : PySem.W.Frag} {p : Option Addr} {env : List Slot} {Φ : PyData → Prop} {ta tb te : TE} {tt tu : TT}
theorem WpE.mono {Φ' : PyData → Prop} (h : WpE K p te env Φ) (m : ∀ d, Φ d → Φ' d) : WpE K p te env Φ' := fun H0 σ Hk H Q e po en q => h H0 σ Hk H Q e po en fun v d Hk' H' g r f => q v d Hk' H' g r (m d f)
theorem WpT.mono {Φ Φ' : Bool → Prop} (h : WpT K p tt env Φ) (m : ∀ d, Φ d → Φ' d) : WpT K p tt env Φ' := fun H0 σ Hk H Q e po en q => h H0 σ Hk H Q e po en fun v Hk' H' g f => q v Hk' H' g (m v f)
/-! ### expressions -/
theorem e_var {i : Nat} {d : PyData} (h : env[i]? = some (.dat d)) (q : Φ d) : WpE K p (tVar i) env Φ := fun H0 σ Hk H Q e po en k => by
  obtain ⟨ov, h1, v, h2, r⟩ := en.slot i _ h
  rw [h2] at h1
  exact ⟨v, h1, k v d Hk H (Go.refl e po) r q⟩
theorem e_c {v : V} {d : PyData} (hd : ∀ Hk, Dx K Hk v d) (q : Φ d) : WpE K p (tC v) env Φ := fun H0 σ Hk H Q e po en k => k v d Hk H (Go.refl e po) (hd Hk) q
theorem e_int {i : Int} (q : Φ (.int i)) : WpE K p (tC (.int i)) env Φ := e_c (fun _ => .int i) q
theorem e_bl {i : Bool} (q : Φ (.bool i)) : WpE K p (tC (.bl i)) env Φ := e_c (fun _ => .bl i) q
theorem e_str {i : Str} (q : Φ (.str i)) : WpE K p (tC (.str i)) env Φ := e_c (fun _ => .str i) q
theorem e_non (q : Φ .none) : WpE K p (tC .non) env Φ := e_c (fun _ => .non) q
theorem e_op {r : R2} (h : WpE K p ta env fun x => WpE K p tb env fun y => OpD K p r x y Φ) : WpE K p (tOp r ta tb) env Φ := fun H0 σ Hk H Q e po en k =>
  h H0 σ Hk H _ e po en fun vx x Hk1 H1 g1 rx h1 => h1 H0 σ Hk1 H1 _ g1.kr g1.po (en.go g1) fun vy y Hk2 H2 g2 ry h2 =>
    h2 vx vy Hk2 H2 Q g2.kr g2.po (dp_mono g2.kk x rx) ry fun v d Hk3 H3 g3 r f => k v d Hk3 H3 ((g1.trans g2).trans g3) r f
theorem e_un {r : V → Hp → VK → Prop} (h : WpE K p ta env fun x => UnD K p r x Φ) : WpE K p (tUn r ta) env Φ := fun H0 σ Hk H Q e po en k =>
  h H0 σ Hk H _ e po en fun vx x Hk1 H1 g1 rx h1 => h1 vx Hk1 H1 Q g1.kr g1.po rx fun v d Hk3 H3 g3 r f => k v d Hk3 H3 (g1.trans g3) r f
theorem e_if (h : WpT K p tt env fun b => if b = true then WpE K p ta env Φ else WpE K p tb env Φ) : WpE K p (tIf tt ta tb) env Φ := fun H0 σ Hk H Q e po en k =>
  h H0 σ Hk H _ e po en fun b Hk1 H1 g1 h1 => by
    cases b with
    | true => exact (show WpE K p ta env Φ from h1) H0 σ Hk1 H1 Q g1.kr g1.po (en.go g1) fun v d Hk3 H3 g3 r f => k v d Hk3 H3 (g1.trans g3) r f
    | false => exact (show WpE K p tb env Φ from h1) H0 σ Hk1 H1 Q g1.kr g1.po (en.go g1) fun v d Hk3 H3 g3 r f => k v d Hk3 H3 (g1.trans g3) r f
theorem e_andV (h : WpE K p ta env fun x => ∃ c, x = .bool c ∧ if c = true then WpE K p tb env Φ else Φ (.bool false)) : WpE K p (tAndV ta tb) env Φ := fun H0 σ Hk H Q e po en k =>
  h H0 σ Hk H _ e po en fun vx x Hk1 H1 g1 rx ⟨c, ex, h1⟩ => by
    subst ex
    rw [dp_bl rx]
    refine ⟨c, rfl, ?_⟩
    cases c with
    | true => exact (show WpE K p tb env Φ from h1) H0 σ Hk1 H1 Q g1.kr g1.po (en.go g1) fun v d Hk3 H3 g3 r f => k v d Hk3 H3 (g1.trans g3) r f
    | false => exact k _ _ _ _ g1 (.bl false) h1
theorem e_orV (h : WpE K p ta env fun x => ∃ c, x = .bool c ∧ if c = true then Φ (.bool true) else WpE K p tb env Φ) : WpE K p (tOrV ta tb) env Φ := fun H0 σ Hk H Q e po en k =>
  h H0 σ Hk H _ e po en fun vx x Hk1 H1 g1 rx ⟨c, ex, h1⟩ => by
    subst ex
    rw [dp_bl rx]
    refine ⟨c, rfl, ?_⟩
    cases c with
    | false => exact (show WpE K p tb env Φ from h1) H0 σ Hk1 H1 Q g1.kr g1.po (en.go g1) fun v d Hk3 H3 g3 r f => k v d Hk3 H3 (g1.trans g3) r f
    | true => exact k _ _ _ _ g1 (.bl true) h1
theorem e_notV (h : WpE K p ta env fun x => ∃ c, x = .bool c ∧ Φ (.bool !c)) : WpE K p (tNotV ta) env Φ := fun H0 σ Hk H Q e po en k =>
  h H0 σ Hk H _ e po en fun vx x Hk1 H1 g1 rx ⟨c, ex, h1⟩ => by
    subst ex
    rw [dp_bl rx]
    exact ⟨c, rfl, k _ _ _ _ g1 (.bl _) h1⟩
theorem e_tup {ta : TA} (h : WpA K p ta env fun ds => ds.length ≤ 100000 ∧ Φ (.tuple ds)) : WpE K p (tTup ta) env Φ := fun H0 σ Hk H Q e po en k =>
  h H0 σ Hk H _ e po en fun vs ds Hk1 H1 g1 r ⟨hz, f⟩ => ⟨sz_of (by rw [dpAll_len r]; exact hz), fun q hq =>
    k _ _ _ _ (g1.trans (Go.new g1.kr g1.po hq)) (.tup (SqT.of upd_same) (dpAll_mono (Ex.new (fresh_back g1.kr hq)) ds r)) f⟩
theorem e_lst {ta : TA} (h : WpA K p ta env fun ds => ds.length ≤ 100000 ∧ Φ (.list ds)) : WpE K p (tLst ta) env Φ := fun H0 σ Hk H Q e po en k =>
  h H0 σ Hk H _ e po en fun vs ds Hk1 H1 g1 r ⟨hz, f⟩ => ⟨sz_of (by rw [dpAll_len r]; exact hz), fun q hq =>
    k _ _ _ _ (g1.trans (Go.new g1.kr g1.po hq)) (.lst (SqL.of upd_same) (dpAll_mono (Ex.new (fresh_back g1.kr hq)) ds r)) f⟩
theorem e_cb {r : List V → Hp → VK → Prop} {ta : TA} (h : WpA K p ta env fun ds => CbD K p r ds Φ) : WpE K p (tCB r ta) env Φ := fun H0 σ Hk H Q e po en k =>
  h H0 σ Hk H _ e po en fun vs ds Hk1 H1 g1 rx h1 => h1 vs Hk1 H1 Q g1.kr g1.po rx fun v d Hk3 H3 g3 r f => k v d Hk3 H3 (g1.trans g3) r f
theorem e_sl {r : V → Option Int → Option Int → Hp → VK → Prop} {tl th : TO} (h : WpE K p te env fun x => WpO K p tl env fun l => WpO K p th env fun u => UnD K p (fun v => r v l u) x Φ) : WpE K p (tSl r te tl th) env Φ := fun H0 σ Hk H Q e po en k =>
  h H0 σ Hk H _ e po en fun vx x Hk1 H1 g1 rx h1 => h1 H0 σ Hk1 H1 _ g1.kr g1.po (en.go g1) fun l Hk2 H2 g2 h2 => h2 H0 σ Hk2 H2 _ g2.kr g2.po ((en.go g1).go g2) fun u Hk3 H3 g3 h3 =>
    h3 vx Hk3 H3 Q g3.kr g3.po (dp_mono g3.kk x (dp_mono g2.kk x rx)) fun v d Hk4 H4 g4 r f => k v d Hk4 H4 (((g1.trans g2).trans g3).trans g4) r f
theorem o_none {Φ : Option Int → Prop} (q : Φ none) : WpO K p tNoPart env Φ := fun H0 σ Hk H Q e po en k => k none Hk H (Go.refl e po) q
theorem o_some {Φ : Option Int → Prop} (h : WpE K p te env fun x => ∃ i, x = .int i ∧ Φ (some i)) : WpO K p (tPart te) env Φ := fun H0 σ Hk H Q e po en k =>
  h H0 σ Hk H _ e po en fun vx x Hk1 H1 g1 rx ⟨i, ex, f⟩ => by
    subst ex
    rw [dp_int rx]
    exact ⟨i, rfl, k _ _ _ g1 f⟩
theorem a_nil {Φ : List PyData → Prop} (q : Φ []) : WpA K p tNil env Φ := fun H0 σ Hk H Q e po en k => k [] [] Hk H (Go.refl e po) .nil q
theorem a_cons {tr : TA} {Φ : List PyData → Prop} (h : WpE K p te env fun x => WpA K p tr env fun ds => Φ (x :: ds)) : WpA K p (tCons te tr) env Φ := fun H0 σ Hk H Q e po en k =>
  h H0 σ Hk H _ e po en fun vx x Hk1 H1 g1 rx h1 => h1 H0 σ Hk1 H1 _ g1.kr g1.po (en.go g1) fun vs ds Hk2 H2 g2 r f => k _ _ _ _ (g1.trans g2) (.cons (dp_mono g2.kk x rx) r) f
/-! ### tests -/
theorem t_B {Φ : Bool → Prop} (h : WpE K p te env fun x => ∃ c, x = .bool c ∧ Φ c) : WpT K p (tB te) env Φ := fun H0 σ Hk H Q e po en k =>
  h H0 σ Hk H _ e po en fun vx x Hk1 H1 g1 rx ⟨c, ex, f⟩ => by
    subst ex
    rw [dp_bl rx]
    exact ⟨c, rfl, k _ _ _ g1 f⟩
theorem t_test {Φ : Bool → Prop} (h : WpE K p te env fun x => ∃ c, x = .bool c ∧ Φ c) : WpT K p (tTest te) env Φ := t_B h
theorem t_and {Φ : Bool → Prop} (h : WpT K p tt env fun c => if c = true then WpT K p tu env Φ else Φ false) : WpT K p (tAnd tt tu) env Φ := fun H0 σ Hk H Q e po en k =>
  h H0 σ Hk H _ e po en fun c Hk1 H1 g1 h1 => by
    cases c with
    | true => exact (show WpT K p tu env Φ from h1) H0 σ Hk1 H1 Q g1.kr g1.po (en.go g1) fun v Hk3 H3 g3 f => k v Hk3 H3 (g1.trans g3) f
    | false => exact k _ _ _ g1 h1
theorem t_or {Φ : Bool → Prop} (h : WpT K p tt env fun c => if c = true then Φ true else WpT K p tu env Φ) : WpT K p (tOr tt tu) env Φ := fun H0 σ Hk H Q e po en k =>
  h H0 σ Hk H _ e po en fun c Hk1 H1 g1 h1 => by
    cases c with
    | false => exact (show WpT K p tu env Φ from h1) H0 σ Hk1 H1 Q g1.kr g1.po (en.go g1) fun v Hk3 H3 g3 f => k v Hk3 H3 (g1.trans g3) f
    | true => exact k _ _ _ g1 h1
theorem t_not {Φ : Bool → Prop} (h : WpT K p tt env fun c => Φ (!c)) : WpT K p (tNot tt) env Φ := fun H0 σ Hk H Q e po en k => h H0 σ Hk H _ e po en fun c Hk1 H1 g1 h1 => k _ _ _ g1 h1
theorem t_yes {Φ : Bool → Prop} (q : Φ true) : WpT K p tYes env Φ := fun H0 σ Hk H Q e po en k => k true Hk H (Go.refl e po) q
theorem e_chain {r r' : R2} {tc : TE} (h : WpE K p ta env fun x => WpE K p tb env fun y => OpD K p r x y fun z => ∃ c, z = .bool c ∧ if c = true then WpE K p tc env fun w => OpD K p r' y w Φ else Φ (.bool false)) : WpE K p (tChain r r' ta tb tc) env Φ := fun H0 σ Hk H Q e po en k =>
  h H0 σ Hk H _ e po en fun vx x Hk1 H1 g1 rx h1 => h1 H0 σ Hk1 H1 _ g1.kr g1.po (en.go g1) fun vy y Hk2 H2 g2 ry h2 =>
    h2 vx vy Hk2 H2 _ g2.kr g2.po (dp_mono g2.kk x rx) ry fun v d Hk3 H3 g3 rz ⟨c, ex, h3⟩ => by
      subst ex
      rw [dp_bl rz]
      refine ⟨c, rfl, ?_⟩
      cases c with
      | false => exact k _ _ _ _ ((g1.trans g2).trans g3) (.bl false) h3
      | true =>
        exact (show WpE K p tc env _ from h3) H0 σ Hk3 H3 _ g3.kr g3.po (((en.go g1).go g2).go g3) fun vw w Hk4 H4 g4 rw' h4 =>
          h4 vy vw Hk4 H4 Q g4.kr g4.po (dp_mono g4.kk y (dp_mono g3.kk y ry)) rw' fun v d Hk5 H5 g5 r f => k v d Hk5 H5 ((((g1.trans g2).trans g3).trans g4).trans g5) r f
/-! ### operations on values -/
theorem op_I0 {x y : PyData} {f : Int → Int → V} {g : Int → Int → PyData} (hf : ∀ i j Hk, Dx K Hk (f i j) (g i j)) (h : ∃ i j, x = .int i ∧ y = .int j ∧ Φ (g i j)) : OpD K p (rI0 f) x y Φ := fun vx vy Hk H Q e po rx ry k => by
  obtain ⟨i, j, rfl, rfl, q⟩ := h
  rw [dp_int rx, dp_int ry]
  exact ⟨i, j, rfl, rfl, k _ _ _ _ (Go.refl e po) (hf i j Hk) q⟩
theorem op_I {x y : PyData} {C : Int → Int → Prop} {f : Int → Int → V} {g : Int → Int → PyData} (hf : ∀ i j Hk, Dx K Hk (f i j) (g i j)) (h : ∃ i j, x = .int i ∧ y = .int j ∧ C i j ∧ Φ (g i j)) : OpD K p (rI C f) x y Φ := fun vx vy Hk H Q e po rx ry k => by
  obtain ⟨i, j, rfl, rfl, c, q⟩ := h
  rw [dp_int rx, dp_int ry]
  exact ⟨i, j, rfl, rfl, c, k _ _ _ _ (Go.refl e po) (hf i j Hk) q⟩
theorem od_add {i j : Int} (h : Φ (.int (i + j))) : OpD K p (rI0 fun i j => V.int (i + j)) (.int i) (.int j) Φ := op_I0 (g := fun i j => .int (i + j)) (fun i j _ => .int _) ⟨i, j, rfl, rfl, h⟩
theorem od_sub {i j : Int} (h : Φ (.int (i - j))) : OpD K p (rI0 fun i j => V.int (i - j)) (.int i) (.int j) Φ := op_I0 (g := fun i j => .int (i - j)) (fun i j _ => .int _) ⟨i, j, rfl, rfl, h⟩
theorem od_mul {i j : Int} (c : CMul i j) (h : Φ (.int (i * j))) : OpD K p (rI CMul fun i j => V.int (i * j)) (.int i) (.int j) Φ := op_I (g := fun i j => .int (i * j)) (fun i j _ => .int _) ⟨i, j, rfl, rfl, c, h⟩
theorem od_mulW {i j : Int} (c : CMulW i j) (h : Φ (.int (i * j))) : OpD K p (rI CMulW fun i j => V.int (i * j)) (.int i) (.int j) Φ := op_I (g := fun i j => .int (i * j)) (fun i j _ => .int _) ⟨i, j, rfl, rfl, c, h⟩
theorem od_fdivN {i j : Int} (c : CDivN i j) (h : Φ (.int (i.fdiv j))) : OpD K p (rI CDivN fun i j => V.int (i.fdiv j)) (.int i) (.int j) Φ := op_I (g := fun i j => .int (i.fdiv j)) (fun i j _ => .int _) ⟨i, j, rfl, rfl, c, h⟩
theorem od_fdiv {i j : Int} (c : CDiv i j) (h : Φ (.int (i / j))) : OpD K p (rI CDiv fun i j => V.int (i / j)) (.int i) (.int j) Φ := op_I (g := fun i j => .int (i / j)) (fun i j _ => .int _) ⟨i, j, rfl, rfl, c, h⟩
theorem od_modN {i j : Int} (c : j ≠ 0) (h : Φ (.int (i.fmod j))) : OpD K p (rI (fun _ j => j ≠ 0) fun i j => V.int (i.fmod j)) (.int i) (.int j) Φ := op_I (g := fun i j => .int (i.fmod j)) (fun i j _ => .int _) ⟨i, j, rfl, rfl, c, h⟩
theorem od_mod {i j : Int} (c : 0 < j) (h : Φ (.int (i % j))) : OpD K p (rI (fun _ j => 0 < j) fun i j => V.int (i % j)) (.int i) (.int j) Φ := op_I (g := fun i j => .int (i % j)) (fun i j _ => .int _) ⟨i, j, rfl, rfl, c, h⟩
theorem od_pow {i j : Int} (c : CPow i j) (h : Φ (.int (i ^ j.toNat))) : OpD K p (rI CPow fun i j => V.int (i ^ j.toNat)) (.int i) (.int j) Φ := op_I (g := fun i j => .int (i ^ j.toNat)) (fun i j _ => .int _) ⟨i, j, rfl, rfl, c, h⟩
theorem od_lt {i j : Int} (h : Φ (.bool (decide (i < j)))) : OpD K p (rI0 fun i j => V.bl (decide (i < j))) (.int i) (.int j) Φ := op_I0 (g := fun i j => .bool (decide (i < j))) (fun i j _ => .bl _) ⟨i, j, rfl, rfl, h⟩
theorem od_le {i j : Int} (h : Φ (.bool (decide (i ≤ j)))) : OpD K p (rI0 fun i j => V.bl (decide (i ≤ j))) (.int i) (.int j) Φ := op_I0 (g := fun i j => .bool (decide (i ≤ j))) (fun i j _ => .bl _) ⟨i, j, rfl, rfl, h⟩
theorem od_gt {i j : Int} (h : Φ (.bool (decide (j < i)))) : OpD K p (rI0 fun i j => V.bl (decide (j < i))) (.int i) (.int j) Φ := op_I0 (g := fun i j => .bool (decide (j < i))) (fun i j _ => .bl _) ⟨i, j, rfl, rfl, h⟩
theorem od_ge {i j : Int} (h : Φ (.bool (decide (j ≤ i)))) : OpD K p (rI0 fun i j => V.bl (decide (j ≤ i))) (.int i) (.int j) Φ := op_I0 (g := fun i j => .bool (decide (j ≤ i))) (fun i j _ => .bl _) ⟨i, j, rfl, rfl, h⟩
theorem od_eqI {i j : Int} (h : Φ (.bool (decide (i = j)))) : OpD K p rEq (.int i) (.int j) Φ := fun vx vy Hk H Q e po rx ry k => by
  rw [dp_int rx, dp_int ry]
  refine ⟨rfl, k _ (.bool (decide (i = j))) _ _ (Go.refl e po) ?_ h⟩
  have : decide (V.int i = V.int j) = decide (i = j) := decide_eq_decide.mpr ⟨fun z => V.int.inj z, fun z => by rw [z]⟩
  rw [this]
  exact .bl _
theorem od_neI {i j : Int} (h : Φ (.bool (!decide (i = j)))) : OpD K p rNe (.int i) (.int j) Φ := fun vx vy Hk H Q e po rx ry k => by
  rw [dp_int rx, dp_int ry]
  refine ⟨rfl, k _ (.bool (!decide (i = j))) _ _ (Go.refl e po) ?_ h⟩
  have : decide (V.int i = V.int j) = decide (i = j) := decide_eq_decide.mpr ⟨fun z => V.int.inj z, fun z => by rw [z]⟩
  rw [this]
  exact .bl _
theorem od_eqS {i j : Str} (h : Φ (.bool (decide (i = j)))) : OpD K p rEq (.str i) (.str j) Φ := fun vx vy Hk H Q e po rx ry k => by
  rw [dp_str rx, dp_str ry]
  refine ⟨rfl, k _ (.bool (decide (i = j))) _ _ (Go.refl e po) ?_ h⟩
  have : decide (V.str i = V.str j) = decide (i = j) := decide_eq_decide.mpr ⟨fun z => V.str.inj z, fun z => by rw [z]⟩
  rw [this]
  exact .bl _
theorem od_neS {i j : Str} (h : Φ (.bool (!decide (i = j)))) : OpD K p rNe (.str i) (.str j) Φ := fun vx vy Hk H Q e po rx ry k => by
  rw [dp_str rx, dp_str ry]
  refine ⟨rfl, k _ (.bool (!decide (i = j))) _ _ (Go.refl e po) ?_ h⟩
  have : decide (V.str i = V.str j) = decide (i = j) := decide_eq_decide.mpr ⟨fun z => V.str.inj z, fun z => by rw [z]⟩
  rw [this]
  exact .bl _
theorem od_eqD {x y : PyData} (sx : SeqAt.shaped x = true) (sy : SeqAt.shaped y = true) (h : Φ (.bool (PyData.eqv x y))) : OpD K p (rEqD K) x y Φ := fun vx vy Hk H Q e po rx ry k =>
  ⟨x, y, dx_dp x (noDict_shaped sx) (dp_mono e x rx), dx_dp y (noDict_shaped sy) (dp_mono e y ry), sx, sy, k _ _ _ _ (Go.refl e po) (.bl _) h⟩
theorem od_neD {x y : PyData} (sx : SeqAt.shaped x = true) (sy : SeqAt.shaped y = true) (h : Φ (.bool (!PyData.eqv x y))) : OpD K p (rNeD K) x y Φ := fun vx vy Hk H Q e po rx ry k =>
  ⟨x, y, dx_dp x (noDict_shaped sx) (dp_mono e x rx), dx_dp y (noDict_shaped sy) (dp_mono e y ry), sx, sy, k _ _ _ _ (Go.refl e po) (.bl _) h⟩
theorem od_isB {a b : Bool} (h : Φ (.bool (decide (a = b)))) : OpD K p rIsB (.bool a) (.bool b) Φ := fun vx vy Hk H Q e po rx ry k => by
  rw [dp_bl rx, dp_bl ry]
  exact ⟨a, b, rfl, rfl, k _ _ _ _ (Go.refl e po) (.bl _) h⟩
theorem od_notB {a b : Bool} (h : Φ (.bool (!decide (a = b)))) : OpD K p rNotB (.bool a) (.bool b) Φ := fun vx vy Hk H Q e po rx ry k => by
  rw [dp_bl rx, dp_bl ry]
  exact ⟨a, b, rfl, rfl, k _ _ _ _ (Go.refl e po) (.bl _) h⟩
theorem ud_neg {i : Int} (h : Φ (.int (-i))) : UnD K p (rU fun i => V.int (-i)) (.int i) Φ := fun vx Hk H Q e po rx k => by
  rw [dp_int rx]
  exact ⟨i, rfl, k _ _ _ _ (Go.refl e po) (.int _) h⟩
theorem atI_map {α β : Type} {f : α → β} {xs : List α} {i : Int} {x : α} (h : atI xs i = some x) : atI (xs.map f) i = some (f x) := by
  unfold atI at h ⊢
  rw [List.length_map]
  cases q : ixN xs.length i with
  | none =>
    rw [q] at h
    cases h
  | some j =>
    rw [q] at h
    show (xs.map f)[j]? = some (f x)
    rw [List.getElem?_map, (show xs[j]? = some x from h)]
    rfl
theorem dpAll_at {Hk : Hp} {vs : List V} {ds : List PyData} {i : Int} {d : PyData} (r : DxAll K Hk vs ds) (h : atI ds i = some d) : ∃ v, atI vs i = some v ∧ Dx K Hk v d := by
  unfold atI at h ⊢
  rw [dpAll_len r]
  cases q : ixN ds.length i with
  | none =>
    rw [q] at h
    cases h
  | some j =>
    rw [q] at h
    exact dpAll_get r (show ds[j]? = some d from h)
theorem od_ixT {ds : List PyData} {i : Int} {d : PyData} (ha : atI ds i = some d) (h : Φ d) : OpD K p (rIxT K) (.tuple ds) (.int i) Φ := fun vx vy Hk H Q e po rx ry k => by
  obtain ⟨a, xs, rfl, hT, r⟩ := dp_tup rx
  rw [dp_int ry]
  obtain ⟨v, hv, rv⟩ := dpAll_at r ha
  exact ⟨a, xs, i, v, rfl, rfl, ex_t e hT, hv, k _ _ _ _ (Go.refl e po) rv h⟩
theorem od_ixL {ds : List PyData} {i : Int} {d : PyData} (ha : atI ds i = some d) (h : Φ d) : OpD K p (rIxL K) (.list ds) (.int i) Φ := fun vx vy Hk H Q e po rx ry k => by
  obtain ⟨a, xs, rfl, hT, r⟩ := dp_lst rx
  rw [dp_int ry]
  obtain ⟨v, hv, rv⟩ := dpAll_at r ha
  exact ⟨a, xs, i, v, rfl, rfl, ex_l e hT, hv, k _ _ _ _ (Go.refl e po) rv h⟩
theorem od_catT {ds es : List PyData} (hz : ds.length + es.length ≤ 100000) (h : Φ (.tuple (ds ++ es))) : OpD K p (rCatA K) (.tuple ds) (.tuple es) Φ := fun vx vy Hk H Q e po rx ry k => by
  obtain ⟨a, xs, rfl, hT, r⟩ := dp_tup rx
  obtain ⟨b, ys, rfl, hU, u⟩ := dp_tup ry
  have l1 := dpAll_len r
  have l2 := dpAll_len u
  refine ⟨a, b, xs, ys, rfl, rfl, ex_t e hT, ex_t e hU, sz_of (by omega), fun z => ?_, fun _ z => ?_, fun _ _ q hq => ?_⟩
  · have : ds = [] := List.length_eq_zero_iff.mp (by rw [← l1, z]; rfl)
    subst this
    exact k _ _ _ _ (Go.refl e po) ry h
  · have : es = [] := List.length_eq_zero_iff.mp (by rw [← l2, z]; rfl)
    subst this
    rw [List.append_nil] at h
    exact k _ _ _ _ (Go.refl e po) rx h
  · exact k _ _ _ _ (Go.new e po hq) (.tup (SqT.of upd_same) (dpAll_mono (Ex.new (fresh_back e hq)) _ (dpAll_app r u))) h
/-- what is cut out -/
def cutD (xs : List PyData) (lo hi : Option Int) : List PyData := (xs.drop (HT.sIx xs.length 0 lo)).take (HT.sIx xs.length xs.length hi - HT.sIx xs.length 0 lo)
theorem ud_slT {ds : List PyData} {lo hi : Option Int} (h : Φ (.tuple (cutD ds lo hi))) : UnD K p (fun v => rSlA K v lo hi) (.tuple ds) Φ := fun vx Hk H Q e po rx k => by
  obtain ⟨a, xs, rfl, hT, r⟩ := dp_tup rx
  have l1 := dpAll_len r
  refine ⟨a, xs, rfl, ex_t e hT, fun ⟨z1, z2⟩ => ?_, fun _ q hq => ?_⟩
  · have : cutD ds lo hi = ds := by
      unfold cutD
      rw [l1] at z1 z2
      rw [z1, z2, List.drop_zero, Nat.sub_zero]
      exact List.take_length
    rw [this] at h
    exact k _ _ _ _ (Go.refl e po) rx h
  · refine k _ _ _ _ (Go.new e po hq) (.tup (SqT.of upd_same) (dpAll_mono (Ex.new (fresh_back e hq)) _ ?_)) h
    unfold cutV cutD
    rw [l1]
    exact dpAll_take _ (dpAll_drop _ r)
theorem sqL_lst {Hk : Hp} {a : Addr} {xs : List V} (h : SqL K Hk a xs) : SqL K Hk a xs := h
/-! ### built-ins on values -/
theorem cb_len_tup {r : List V → Hp → VK → Prop} (hr : r = fun xs H Q => ∃ p ys, xs = [.ref p] ∧ (SqL K H p ys ∨ SqT K H p ys) ∧ Q (.int ys.length) H) {ds : List PyData} (h : Φ (.int ds.length)) : CbD K p r [.tuple ds] Φ := fun vs Hk H Q e po rx k => by
  subst hr
  cases rx with
  | cons rx rr =>
    cases rr
    obtain ⟨a, xs, rfl, hT, r⟩ := dp_tup rx
    refine ⟨a, xs, rfl, .inr (ex_t e hT), ?_⟩
    rw [dpAll_len r]
    exact k _ _ _ _ (Go.refl e po) (.int _) h
theorem cb_len_lst {r : List V → Hp → VK → Prop} (hr : r = fun xs H Q => ∃ p ys, xs = [.ref p] ∧ (SqL K H p ys ∨ SqT K H p ys) ∧ Q (.int ys.length) H) {ds : List PyData} (h : Φ (.int ds.length)) : CbD K p r [.list ds] Φ := fun vs Hk H Q e po rx k => by
  subst hr
  cases rx with
  | cons rx rr =>
    cases rr
    obtain ⟨a, xs, rfl, hT, r⟩ := dp_lst rx
    refine ⟨a, xs, rfl, .inl (ex_l e hT), ?_⟩
    rw [dpAll_len r]
    exact k _ _ _ _ (Go.refl e po) (.int _) h
theorem cb_sum {ns : List Int} (h : Φ (.int ns.sum)) : CbD K p (rSum K) [.list (ns.map .int)] Φ := fun vs Hk H Q e po rx k => by
  cases rx with
  | cons rx rr =>
    cases rr
    obtain ⟨a, xs, rfl, hT, r⟩ := dp_lst rx
    have := dpAll_ints r
    subst this
    exact ⟨a, ns, rfl, ex_l e hT, k _ _ _ _ (Go.refl e po) (.int _) h⟩
theorem cb_sumT {r : List V → Hp → VK → Prop} (ns : List Int) (h : Φ (.int ns.sum)) {x : PyData} (hx : x = .list (ns.map .int)) : CbD K p (rSum K) [x] Φ := by
  rw [hx]
  exact cb_sum h
theorem cb_all {bs : List Bool} (h : Φ (.bool (bs.all id))) : CbD K p (rAll K) [.list (bs.map .bool)] Φ := fun vs Hk H Q e po rx k => by
  cases rx with
  | cons rx rr =>
    cases rr
    obtain ⟨a, xs, rfl, hT, r⟩ := dp_lst rx
    have := dpAll_bools r
    subst this
    exact ⟨a, bs, rfl, ex_l e hT, k _ _ _ _ (Go.refl e po) (.bl _) h⟩
theorem cb_abs {i : Int} (h : Φ (.int (if i < 0 then -i else i))) : CbD K p (fun xs H Q => ∃ i, xs = [V.int i] ∧ Q (.int (if i < 0 then -i else i)) H) [.int i] Φ := fun vs Hk H Q e po rx k => by
  cases rx with
  | cons rx rr =>
    cases rr
    rw [dp_int rx]
    exact ⟨i, rfl, k _ _ _ _ (Go.refl e po) (.int _) h⟩
theorem cb_int {i : Int} (h : Φ (.int i)) : CbD K p (fun xs H Q => (∃ i, xs = [V.int i] ∧ Q (.int i) H) ∨ ∃ k, xs = [V.bl k] ∧ Q (.int (if k then 1 else 0)) H) [.int i] Φ := fun vs Hk H Q e po rx k => by
  cases rx with
  | cons rx rr =>
    cases rr
    rw [dp_int rx]
    exact .inl ⟨i, rfl, k _ _ _ _ (Go.refl e po) (.int _) h⟩
theorem cb_max2 {i j : Int} (h : Φ (.int (if j > i then j else i))) : CbD K p (fun xs H Q => ∃ i j, xs = [V.int i, V.int j] ∧ Q (.int (if j > i then j else i)) H) [.int i, .int j] Φ := fun vs Hk H Q e po rx k => by
  cases rx with
  | cons rx rr =>
    cases rr with
    | cons ry rr =>
      cases rr
      rw [dp_int rx, dp_int ry]
      exact ⟨i, j, rfl, k _ _ _ _ (Go.refl e po) (.int _) h⟩
theorem cb_gcd {i j : Int} (h : Φ (.int ((Nat.gcd i.natAbs j.natAbs : Nat) : Int))) : CbD K p rGcd [.int i, .int j] Φ := fun vs Hk H Q e po rx k => by
  cases rx with
  | cons rx rr =>
    cases rr with
    | cons ry rr =>
      cases rr
      rw [dp_int rx, dp_int ry]
      exact ⟨i, j, rfl, k _ _ _ _ (Go.refl e po) (.int _) h⟩
theorem cb_list {ds : List PyData} {x : PyData} (hx : x = .tuple ds ∨ x = .list ds) (h : Φ (.list ds)) : CbD K p (fun xs H Q => ∃ p ys, xs = [V.ref p] ∧ (SqL K H p ys ∨ SqT K H p ys) ∧ ∀ l, H l = none → Q (.ref l) (upd H l (.lst ys))) [x] Φ := fun vs Hk H Q e po rx k => by
  cases rx with
  | cons rx rr =>
    cases rr
    rcases hx with rfl | rfl
    · obtain ⟨a, xs, rfl, hT, r⟩ := dp_tup rx
      exact ⟨a, xs, rfl, .inr (ex_t e hT), fun q hq => k _ _ _ _ (Go.new e po hq) (.lst (SqL.of upd_same) (dpAll_mono (Ex.new (fresh_back e hq)) _ r)) h⟩
    · obtain ⟨a, xs, rfl, hT, r⟩ := dp_lst rx
      exact ⟨a, xs, rfl, .inl (ex_l e hT), fun q hq => k _ _ _ _ (Go.new e po hq) (.lst (SqL.of upd_same) (dpAll_mono (Ex.new (fresh_back e hq)) _ r)) h⟩
theorem cb_tuple {ds : List PyData} {x : PyData} (hx : x = .tuple ds ∨ x = .list ds) (h : Φ (.tuple ds)) : CbD K p (fun xs H Q => ∃ p ys, xs = [V.ref p] ∧ ((SqL K H p ys ∧ ∀ l, H l = none → Q (.ref l) (upd H l (.tup ys))) ∨ (SqT K H p ys ∧ Q (.ref p) H))) [x] Φ := fun vs Hk H Q e po rx k => by
  cases rx with
  | cons rx rr =>
    cases rr
    rcases hx with rfl | rfl
    · obtain ⟨a, xs, rfl, hT, r⟩ := dp_tup rx
      exact ⟨a, xs, rfl, .inr ⟨ex_t e hT, k _ _ _ _ (Go.refl e po) rx h⟩⟩
    · obtain ⟨a, xs, rfl, hT, r⟩ := dp_lst rx
      exact ⟨a, xs, rfl, .inl ⟨ex_l e hT, fun q hq => k _ _ _ _ (Go.new e po hq) (.tup (SqT.of upd_same) (dpAll_mono (Ex.new (fresh_back e hq)) _ r)) h⟩⟩
end
end Fw
/-! enumerate of a tuple; a tuple times 1; repr of data; a call by names alone -/
namespace FwE
open PySem PySem.Spec PyProof.Rows L2
section
variable {prog : Program} {w : World} {A : Around}
theorem tupDraws {it l : Addr} {items : Array Value} (hne : l ≠ it) (hh : A.handled = none) : Draws prog w A it [it, l] items.size (fun i x => items[i]? = some x) (fun i h => h.IsTupleIter it l i ∧ h.IsTuple l items) where
  live := fun i h st => by
    obtain ⟨⟨o, ho, _⟩, _⟩ := st
    exact ⟨o, ho⟩
  frame := fun i h h' st k => by
    obtain ⟨h1, o, ho, hc, n, hd⟩ := st
    exact ⟨h1.at fun o q => k it (by simp) o q, o, k l (by simp) _ ho, hc, n, hd⟩
  item := fun i s Q E hi st hQ => by
    obtain ⟨h1, h2⟩ := st
    have hx : items[i]? = some items[i] := by simp [hi]
    refine RZ.nextOf_tuple_item h1 h2 hx fun h' a sb => hQ items[i] h' s.toks hx ⟨a, ?_⟩ sb
    obtain ⟨o, ho, hc, n, hd⟩ := h2
    exact ⟨o, (sb.2 l hne).trans ho, hc, n, hd⟩
  done := fun s Q E st hE => RZ.nextOf_tuple_end hh st.1 st.2 (by simp) hE
theorem meetsNewT (l : Addr) (items : Array Value) (n : Nat) (dct : Option Addr) (sl : Array (Option Value)) :
    Meets (Builtin.«enumerate.__new__» ⟨[.type "enumerate", .ref l], []⟩) (fun _ R s =>
      s.heap.get? l = some { cls := .type "tuple", dict := dct, data := .seq items n, slots := sl } ∧ ∀ h', IsEnum h' (s.heap.objs.size + 1) s.heap.objs.size 0 .none → h'.IsTupleIter s.heap.objs.size l 0 →
        h'.objs.size = s.heap.objs.size + 2 → (∀ b o, s.heap.get? b = some o → h'.get? b = some o) → R (.ok (.ret (.ref (s.heap.objs.size + 1)))) { s with heap := h' }) :=
  .of_wp fun prog w A R s h => by
    obtain ⟨hp, g, d, tk, os⟩ := s
    obtain ⟨hl, h⟩ := h
    have hsub := sub_enumerate
    have hL : Heap.IsTuple (Shared.heap ⟨hp, g, d, tk, os⟩) l items := ⟨_, hl, rfl, n, rfl⟩
    have fin : R (.ok (.ret (.ref (hp.push { cls := .type "tuple_iterator", data := .fields #[.ref l, .int 0 0] }).objs.size)))
        ⟨(hp.push { cls := .type "tuple_iterator", data := .fields #[.ref l, .int 0 0] }).push { cls := .type "enumerate", data := .fields #[.none, .bool false, .ref hp.objs.size, rawInt 0, .none, .none] }, g, d, tk, os⟩ := by
      have hz : (hp.push { cls := .type "tuple_iterator", data := .fields #[.ref l, .int 0 0] }).objs.size = hp.objs.size + 1 := Heap.size_push ..
      have he : IsEnum ((hp.push { cls := .type "tuple_iterator", data := .fields #[.ref l, .int 0 0] }).push { cls := .type "enumerate", data := .fields #[.none, .bool false, .ref hp.objs.size, rawInt 0, .none, .none] }) (hp.objs.size + 1) hp.objs.size 0 .none := by
        have q := Heap.get?_push_size (hp.push { cls := .type "tuple_iterator", data := .fields #[.ref l, .int 0 0] }) (o := { cls := .type "enumerate", data := .fields #[.none, .bool false, .ref hp.objs.size, rawInt 0, .none, .none] }) rfl
        rw [hz] at q
        exact q
      rw [hz]
      exact h _ he ⟨_, Heap.get?_push_of_some _ (Heap.get?_push_size _ rfl), rfl, rfl⟩ (by rw [Heap.size_push, hz]) fun b o x => Heap.get?_push_of_some _ (Heap.get?_push_of_some _ x)
    wp_walk using AutoSeq1.wpAny_loadPart' hl
    refine wpAny_stack_any fun st => wpAny_pure ?_
    split
    · rename_i c _ _ _ _ _
      cases (c == Value.type "enumerate")
      all_goals
        wp_walk using AutoSeq1.wpAny_loadPart' hl, wpAny_pyIter_tuple hL
        exact ⟨_, rfl, fin⟩
    · wp_walk using AutoSeq1.wpAny_loadPart' hl, wpAny_pyIter_tuple hL
      exact ⟨_, rfl, fin⟩
theorem callEnumT {E : Value → Shared → Prop} {s : Shared} {l : Addr} {items : Array Value} {Q : Value → Shared → Prop} (hL : s.heap.IsTuple l items)
    (h : ∀ h', IsEnum h' (s.heap.objs.size + 1) s.heap.objs.size 0 .none → h'.IsTupleIter s.heap.objs.size l 0 → h'.objs.size = s.heap.objs.size + 2 → (∀ b o, s.heap.get? b = some o → h'.get? b = some o) → Q (.ref (s.heap.objs.size + 1)) { s with heap := h' }) :
    wpAny (model prog w) A (call (.type "enumerate") [.ref l]) Q E s := by
  obtain ⟨⟨c, dct, dt, sl⟩, hl, hc, n, hd⟩ := hL
  simp only at hc hd
  subst hc hd
  refine callType_new F.called_enumerate (by decide) (F.typeCall_enumerate_1 _) (F.newCall_enumerate_1 _) (fun obj => F.args_object_init_2 obj _) F.entry_enumerate_new (meetsNewT l items n dct sl) ⟨hl, fun h' a b c d => ?_⟩
  exact ⟨⟨_, a, rfl⟩, h h' a b c d⟩
end
/-- the tuple at a, each item in a new pair -/
def IteT (K : PySem.W.Frag) (a : Addr) : It :=
  ⟨fun i H => ∃ (xs : List V) (x : V), SqT K H a xs ∧ xs[i]? = some x, fun i H v H' => ∃ T x, v = .ref T ∧ H T = none ∧ H' = upd H T (.tup [.int (i : Nat), x]) ∧ ∀ xs, SqT K H a xs → xs[i]? = some x, fun i H => ∃ xs : List V, SqT K H a xs ∧ xs.length ≤ i⟩
theorem turnEnumT {P : Program} {w : World} {K : PySem.W.Frag} {elts : List Expr} {kk : Nat} {tpos : Pos} (a e it : Addr) (hae : a ≠ e) (hai : a ≠ it) :
    Turn P w K (.Tuple elts kk tpos) (IteT K a) [e, it] e (fun i h => (∃ old, IsEnum h e it ((i : Nat) : Int) old) ∧ h.IsTupleIter it a i ∧ e ≠ it) where
  mem := by simp
  obj := fun i h st b hb => by
    obtain ⟨⟨old, he⟩, ⟨o, ho, hc, hd⟩, _⟩ := st
    rcases (show b = e ∨ b = it by simpa using hb) with z | z
    · rw [z]; exact ⟨_, he, fun v q => nomatch q⟩
    · rw [z]; exact ⟨o, ho, fun v q => by rw [hd] at q; cases q⟩
  keep := fun i h h' st k => let ⟨⟨old, he⟩, hi, hne⟩ := st; ⟨⟨old, k e (by simp) _ he⟩, hi.at fun o q => k it (by simp) o q, hne⟩
  item := by
    intro X hP hw hK hc i pins s σ H E I hf st hg
    subst hP hw hK
    obtain ⟨⟨old, he⟩, hit, hne⟩ := st
    obtain ⟨xs, x, hq, hx⟩ := hg
    obtain ⟨its, rv, tp, hz⟩ := I.tuple hq
    obtain ⟨u, hu, ru⟩ := rv.get hx
    have hel : e < s.heap.objs.size := Heap.lt_size he
    have hil : it < s.heap.objs.size := by
      obtain ⟨_, q, _⟩ := hit
      exact Heap.lt_size q
    have hu' : its.toArray[i]? = some u := by simpa using hu
    have hlt : i < its.toArray.size := by
      have := (List.getElem?_eq_some_iff.mp hu).1
      simpa using this
    refine wpAny_pyNext_enum_itemD (tupDraws (items := its.toArray) hai (show X.A.in1.handled = none from I.ok.hd hc)) he ⟨hit, tp⟩ hlt hne (by simp [hne, Ne.symm hae]) fun x2 h' tk hx2 ho st2 hT hsz hk => ?_
    have ex : x2 = u := Option.some.inj (hx2.symm.trans hu')
    subst ex
    refine ⟨_, rfl, wpAny_letOwnedTupleGo_enum (s := { s with heap := h', toks := tk + 1 }) ho fun h'' he' sb => ?_⟩
    have hT2 : h''.get? s.heap.objs.size = some { cls := .type "tuple", data := .seq #[.int i tk, x2] } := (sb.2 _ (Nat.ne_of_gt hel)).trans hT
    have new : ObjOk X.prog X.w (upd H s.heap.objs.size (.tup [.int (i : Nat), x])) h'' s.heap.objs.size (.tup [.int (i : Nat), x]) :=
      ⟨by show 2 ≤ sizeLine; decide, [.int i tk, x2], .cons ⟨_, rfl⟩ (.cons ru .nil), ⟨_, hT2, rfl, _, rfl⟩⟩
    have I1 : Inv X pins σ (upd H s.heap.objs.size (.tup [.int (i : Nat), x])) { s with heap := h'', toks := tk + 1 } :=
      I.turnedNew (ch := [e, it]) (fun b ob hb q => (sb.2 b (fun z => hb (by simp [z]))).trans (hk b ob (fun z => hb (by simp [z])) (fun z => hb (by simp [z])) q)) hf (Nat.le_refl _) new
    refine ⟨.ref s.heap.objs.size, _, I1, rfl, ⟨_, x, rfl, I.hok.fresh (Nat.le_refl _), rfl, fun ys hy => by rw [I.tuple_inj hy hq]; exact hx⟩, ⟨⟨x2, ?_⟩, st2.1.at fun o q => (sb.2 it (Ne.symm hne)).trans q, hne⟩, fun b hb => ?_⟩
    · rw [show ((i + 1 : Nat) : Int) = (i : Int) + 1 by omega]
      exact he'
    · have hb' : b < s.heap.objs.size := by
        rcases (show b = e ∨ b = it by simpa using hb) with z | z
        · rw [z]; exact hel
        · rw [z]; exact hil
      rw [upd_ne (Nat.ne_of_lt hb')]
      exact (hf b hb).1
  done := by
    intro X hP hw hK hc i pins s σ H E I hf st hg
    subst hP hw hK
    obtain ⟨⟨old, he⟩, hit, hne⟩ := st
    obtain ⟨xs, hq, hx⟩ := hg
    obtain ⟨its, rv, tp, hz⟩ := I.tuple hq
    obtain ⟨f0, f1, f2, f3, f4, f5⟩ := hf it (by simp)
    have hl := rv.length
    have hn : its.toArray[i]? = none := by simp; omega
    have hT : s.TypeIs (.ref e) "enumerate" := ⟨_, he, rfl⟩
    unfold pyNext
    refine wpAny_bind (wpAny_attempt (wpAny_callSpecial?_slot (name := Str.ofString "__next__") hT F.slot_enumerate_next (wpAny_call_entry F.slot_enumerate_next hT F.entry_enumerate_next ?_ (F.args_enumerate_next_1 _))))
    show wpAny _ _ (field (.ref e) 2 >>= _) _ _ _
    refine wpAny_bind (wpAny_field he rfl (x := .ref it) rfl ?_)
    refine wpAny_bind (RZ.nextOf_tuple_end (show X.A.in1.handled = none from I.ok.hd hc) hit tp hn fun h' y eb hy => ?_)
    obtain ⟨o, ho, hc'⟩ := hy
    refine wpAny_bind (wpAny_isInstance (T := "StopIteration") (b := true) ⟨o, ho, hc'⟩ isSubtype_stop ?_)
    exact wpAny_pure ⟨rfl, I.turned (t' := s.toks) (fun b o hb q => eb b o hb q) f0 f1 f3 f4 f5⟩
  self := fun A i s Q E st h => let ⟨⟨_, he⟩, _⟩ := st; wpAny_pyIter_enum he h
def iEnumT (K : PySem.W.Frag) (ta : TA) : TI := fun σ H R => ta σ H fun vs H1 => ∃ a xs, vs = [.ref a] ∧ SqT K H1 a xs ∧ R (IteT K a) H1
theorem pi_enumT {X : Cx} {e : Expr} {ta : TA} {p pos tpos : Pos} {elts : List Expr} {kk : Nat} (hg : Gl X "enumerate") (hm : X.mg "enumerate" = none) (ha : PA X [e] ta) (hs : starEach [e] X.env = [(false, eval e X.env)] := by rfl) :
    PI X (.Tuple elts kk tpos) (.Call (.Name "enumerate" p) [e] [] pos) (iEnumT X.K ta) := by
  refine ⟨fun pins s σ H R I h => ?_⟩
  refine Call_ (ld_blt I hg hm boot_enumerate (PyProof.Rows.callWith_type1 (thn (ha.run pos pins s σ H _ I h) fun us s1 ⟨vs, H1, I1, r1, q1⟩ => ?_) hs rfl))
  obtain ⟨a, xs, ex, hq, q⟩ := q1
  subst ex
  cases r1 with
  | cons r rr =>
    cases rr
    cases r
    obtain ⟨its, rv, tp, hz⟩ := I1.tuple hq
    have hlt : a < s1.heap.objs.size := by
      obtain ⟨o, ho, _⟩ := tp
      exact Heap.lt_size ho
    refine callEnumT tp fun h' he hit hsz hk => wpAny_pyIter_enum he ?_
    have I2 : Inv X pins σ H1 { s1 with heap := h' } := I1.kept (t' := s1.toks) hk
    refine ⟨s1.heap.objs.size + 1, [s1.heap.objs.size + 1, s1.heap.objs.size], _, _, H1, rfl, I2, turnEnumT a (s1.heap.objs.size + 1) s1.heap.objs.size (Nat.ne_of_lt (Nat.lt_succ_of_lt hlt)) (Nat.ne_of_lt hlt), ⟨⟨.none, he⟩, hit, Nat.succ_ne_self _⟩, fun b hb => ?_, q⟩
    have hle : s1.heap.objs.size ≤ b := by
      rcases (show b = s1.heap.objs.size + 1 ∨ b = s1.heap.objs.size by simpa using hb) with z | z
      · rw [z]; exact Nat.le_add_right _ _
      · rw [z]; exact Nat.le_refl _
    exact I1.fpOk hle (I1.hok.fresh hle)
/-! ### repr of data -/
def rReprD (K : PySem.W.Frag) : List V → Hp → VK → Prop := fun xs H Q => ∃ (x : V) (d : PyData), xs = [x] ∧ Dp K H x d ∧ isDisplay d = true ∧ d.showable = true ∧ d.hasDict = false ∧ d.depth ≤ 60 ∧ d.shown.length ≤ sizeLine ∧ Q (.str d.shown) H
section
variable {X : Cx}
theorem call_reprD (hg : X.A.guards = some []) (hu : X.A.units + 61 < cLine) : CallR X (.builtin "repr") (rReprD X.K) := by
  intro pins s σ H xs us Q I r h
  obtain ⟨x, d, rfl, hd, h1, h2, h3, h4, h5, q⟩ := h
  obtain ⟨u, rfl, rx⟩ := vals1 r
  obtain ⟨as, rd⟩ := Dp.reads I d x u hd rx
  obtain ⟨a, rfl⟩ := isRef_of_reads rd h1
  exact repr_of_reads' rd h2 (PyData.noDict_hsm h3) hg (by omega) (fun _ _ e => e) (fun h' t tk hk => ⟨.str d.shown, H, I.kept hk, ⟨_, rfl⟩, q⟩) h5
/-- repr of a truth value -/
theorem call_reprB : CallR X (.builtin "repr") (fun xs H Q => ∃ b, xs = [.bl b] ∧ Q (.str (if b then "True" else "False")) H) := by
  intro pins s σ H xs us Q I r h
  obtain ⟨b, rfl, q⟩ := h
  obtain ⟨u, rfl, rx⟩ := vals1 r
  cases rx
  refine PySem.P.repr_of_bool ⟨.str _, H, I.tok _, ?_, q⟩
  cases b
  · exact ⟨_, rfl⟩
  · exact ⟨_, rfl⟩
end
end FwE
/-! Defs that are called where no repr is under way (their promise asks it of the surroundings): FnG beside the layer's FnOk. -/
namespace FwG
open PySem PySem.Spec PyProof.Rows L2
structure FnG (P : Program) (w : World) (K : PySem.W.Frag) (mg : Str → Option Value) (base : Heap) (CX : CXT) (k : Nat) (f : Addr) (fd : FuncData) (ps : List Str) (sp : Sp) : Prop where
  len : ∀ vs H Q E, sp vs H Q E → vs.length = ps.length
  go : ∀ (A : Around), A.guards = some [] → ∀ (outer : List Env) (s : Shared) (H : Hp) (args : Args) (us : List Value) (vs : List V) (Q : VK) (E : XK), Room k A → Env0 P w K mg base A outer s H → BindsTo s fd args (ps.zip us) → Vals vs us → sp vs H Q E → codeAny (model P w) A (.call (.ref f) args) (CR CX outer P w H s Q E) s
section
variable {P : Program} {w : World} {K : PySem.W.Frag} {mg : Str → Option Value} {base : Heap}
theorem FnG.of {CX : CXT} {k : Nat} {f : Addr} {fd : FuncData} {ps : List Str} {sp : Sp} (F : FnOk P w K mg base CX k f fd ps sp) : FnG P w K mg base CX k f fd ps sp :=
  ⟨F.len, fun A _ outer s H args us vs Q E => F.run A outer s H args us vs Q E⟩
variable {x qual : Str} {params : Arguments} {body : List Stmt} {scope : Scope} {dvs : List V} {kws : List (Str × V)} {f : Addr} {fd : FuncData}
theorem okG {CX : CXT} {N ps : List Str} {k : Nat} {sp : Sp} (F : FunD K x qual params body scope dvs kws f fd) (S : FnScope N ps scope) (len : ∀ vs H Q E, sp vs H Q E → vs.length = ps.length)
    (hb : ∀ (cdv : Value) (A : Around) (outer : List Env) (s : Shared) (H : Hp) (vs : List V) (Q : VK) (E : XK), A.guards = some [] → Room k (A.deeper (envOfC qual scope s.heap.objs.size f cdv)) → sp vs H Q E →
      ∃ t, PSs (cxOf CX P w K mg base N qual scope f cdv A outer s H E) body t ∧ t { nx := fun _ H' => Q .non H', rt := Q } (start N vs) H) : FnG P w K mg base CX (k + 1) f fd ps sp := by
  obtain ⟨oc, od, dV, kV, doc, pm, an, cdv, ct, osl, rfl, lk, hcd, _, _⟩ := F.ex
  constructor
  · exact len
  intro A gA outer s H args us vs Q E room ev bind rel prom
  have same : vs.length = ps.length := len _ _ _ _ prom
  have kIn : K.In s.heap := ev.mod.kin.keeps fun b o e => (ev.bs b o e).1
  refine codeAny_call_function room.depth (kIn _ _ lk) rfl S.co S.gen rfl (PySem.W.codeRec_of kIn hcd) (bind _ _ _ _ (wpAny_newFunctionEnv_cells S.kind (fun y hy => ?_) fun env he s1 inC => ?_))
  · cases S.par y.1 (List.of_mem_zip (show (y.1, y.2) ∈ ps.zip us from hy)).1 with
    | inl q => exact .inl q
    | inr q => exact .inr ⟨q, PySem.W.cellsFrom_some _ _ _ (.inl q)⟩
  subst he
  refine ⟨(ev.mod.nolimit.keeps fun b o e => (ev.bs b o e).1).keeps inC.toInCall.keep, codeAny_func ?_⟩
  obtain ⟨t, der, rd⟩ := hb cdv A outer s H vs Q E gA (room.deeper _) prom
  have start1 := inv_start (CX := CX) (E := E) S room.hd ev same rel inC
  refine wpAny_mono (der.run [] s1 (start N vs) H _ start1 rd) (fun fl s2 out => ?_) fun e s2 out => out
  cases fl with
  | ret u =>
    obtain ⟨v, _, H2, J, rv, q⟩ := out
    exact ⟨v, H2, J.os, J.bare, J.base, J.hok, rv, q⟩
  | next =>
    obtain ⟨_, H2, J, q⟩ := out
    exact ⟨.non, H2, J.os, J.bare, J.base, J.hok, rfl, q⟩
  | brk => exact (let ⟨_, _, _, q⟩ := out; q.elim)
  | cont => exact (let ⟨_, _, _, q⟩ := out; q.elim)
end
section
variable {X : Cx} {CX : CXT} {k : Nat} {f : Addr} {fd : FuncData} {ps : List Str} {sp : Sp} {dvs : List V} {ds : List Value} {E : XK} {x : Str} {p pos : Pos} {e : Expr} {es : List Expr} {t : TA}
theorem pe_callG (F : FnG X.prog X.w X.K X.mg X.base CX k f fd ps sp) (gA : X.A.guards = some []) (room : Room k X.A) (hg : Gl X x) (hm : X.mg x = some (.ref f)) (kp : PySem.W.keepIn X.K (.ref f) = true) (bind : Binds X.K fd ps ds) (dv : Vals dvs ds) (pass : Passes CX X E)
    (ha : PA X (e :: es) t) (nd : (x == ("__debug__" : Str)) = false := by decide) (st : starEach (e :: es) X.env = (false, eval e X.env) :: starEach es X.env := by rfl) (pl : (backTo pos (starEach es X.env)).any (·.1) = false := by rfl) :
    PE X (.Call (.Name x p) (e :: es) [] pos) (tCall sp dvs E t) := ⟨fun pins s σ H Q I h => by
  refine wpAny_Call_Name_kw (ld_glob I hg hm (PySem.W.callWith_K (h₀ := X.base) I.ok.mod.kin kp (thn (ha.run pos pins s σ H _ I h) fun us s1 got => ?_) st pl) nd)
  obtain ⟨vs, H1, I1, r, q⟩ := got
  refine ⟨I1.kIn, wpAny_call (codeAny_mono (F.go X.A gA X.stack s1 H1 ⟨us, []⟩ (us ++ ds) (vs ++ dvs) Q E room I1.env0 (bind s1 us I1.kIn ?_) (r.append dv) q) fun res s2 out => ?_)⟩
  · rw [← (r.append dv).length]
    exact F.len _ _ _ _ q
  · cases res with
    | error e => exact pass pins σ H1 s1 e s2 I1 out
    | ok fl =>
      cases fl with
      | ret u => exact I1.after out
      | next => exact out.elim
      | brk => exact out.elim
      | cont => exact out.elim⟩
/-- a call by names alone -/
theorem pe_callK0 {ks : List Str} {kw : List Keyword} {tk : TA} {g : List Value → List Value → List Value} {gV : List V → List V → List V} (F : FnOk X.prog X.w X.K X.mg X.base CX k f fd ps sp) (room : Room k X.A) (hg : Gl X x) (hm : X.mg x = some (.ref f)) (kp : PySem.W.keepIn X.K (.ref f) = true)
    (bind : KBinds X.K fd ps ks g gV) (pass : Passes CX X E) (hk : PK X kw tk) (all : (backToKw pos (keywordEach kw X.env)).all (·.1.isSome) = true := by rfl) (keys : (backToKw pos (keywordEach kw X.env)).filterMap (·.1) = ks := by rfl)
    (nd : (x == ("__debug__" : Str)) = false := by decide) (pl : ((backTo pos (starEach [] X.env)).any (·.1) || (backToKw pos (keywordEach kw X.env)).any (·.1.isNone)) = false := by rfl) :
    PE X (.Call (.Name x p) [] kw pos) (tCallK sp gV E tNil tk) := ⟨fun pins s σ H Q I h => by
  refine wpAny_Call_Name_kw (ld_glob I hg hm (PySem.W.callWith_KW0 (h₀ := X.base) I.ok.mod.kin kp all (thn (hk.run pos pins s σ H _ I h) fun ws s2 got => ?_) pl) nd)
  obtain ⟨zs, H2, I2, rz, q⟩ := got
  refine ⟨I2.kIn, ?_⟩
  rw [keys]
  exact run_fnk (us := []) (vs := []) F room bind pass I2 .nil rz q⟩
end
/-! ### the law's own call -/
section
variable {P : Program} {w : World} {K : PySem.W.Frag} {mg mb : Str → Option Value} {s : Shared}
/-- what is not hidden still stands in the heap without the script -/
theorem nsLeft {H : Hp} {h : Heap} {b : Addr} {m : Str → Option Value} (plain : ∀ c o es ep, h.get? c = some o → o.data = .dict es ep → H c = none) (q : h.Ns b m) : (hidT h H).Ns b m := by
  obtain ⟨o, es, ep, e, d, r⟩ := q
  exact ⟨o, es, ep, hidT_get e (plain b o es ep e d), d, r⟩
theorem modLeft {H : Hp} (plain : ∀ c o es ep, s.heap.get? c = some o → o.data = .dict es ep → H c = none) (inK : K.In s.heap) (out : ∀ b o, K.lookup b = some o → H b = none) (n1 : s.heap.Ns mainGlobals mg) (n2 : s.heap.Ns builtinsNs mb)
    (bb : ∀ x : Str, x ≠ "__name__" → mb x = bootBuiltins x) (lim : s.heap.NoLimit) : Mod K mg (hidT s.heap H) where
  kin := fun b o e => hidT_get (inK b o e) (out b o e)
  glob := nsLeft plain n1
  blt := ⟨mb, nsLeft plain n2, bb⟩
  nolimit := by
    obtain ⟨mc, a, b⟩ := lim
    exact ⟨mc, nsLeft plain a, b⟩
/-- the end of the law's run: True, and all that stood before stands -/
theorem endOf {H : Hp} {r : Result} {s' : Shared} (only : Only H) (ok : HOk P w H s.heap) (h : CR CX0 [] P w H s (fun v _ => v = .bl true) (fun _ _ _ => False) r s') :
    r = .ok (.ret (.bool true)) ∧ OldK s.heap s'.heap ∧ s'.os = s.os ∧ AllBare s'.gens := by
  match r, h with
  | .ok (.ret u), h =>
    obtain ⟨v, H', ho, hb, chg, ok', rv, q⟩ := h
    subst q
    cases rv
    refine ⟨rfl, OldK.of_keep fun b o e => ?_, ho, hb⟩
    rcases only b with z | ⟨ob, xs, z⟩
    · exact chg.keep b o e z (fun y => nomatch y) (fun y => nomatch y)
    · have a1 := (ok b _ z).1
      have a2 := (ok' b _ (chg.frzs b ob _ z)).1
      rw [a1] at e
      cases e
      exact a2
variable {k : Nat} {fa a : Addr} {fd : FuncData} {x : Str} {sp : Sp} {vs : List Value} {ns : List Int}
theorem lawRun {H : Hp} (only : Only H) (seen : SqL K H a (ns.map V.int)) (ok : HOk P w H s.heap) (plain : ∀ c o es ep, s.heap.get? c = some o → o.data = .dict es ep → H c = none) (out : ∀ b o, K.lookup b = some o → H b = none)
    (inK : K.In s.heap) (n1 : s.heap.Ns mainGlobals mg) (n2 : s.heap.Ns builtinsNs mb) (bb : ∀ x : Str, x ≠ "__name__" → mb x = bootBuiltins x) (lim : s.heap.NoLimit) (gens : s.gens = #[]) (room : Room k callerA)
    (F : ∀ base : Heap, K.In base → base.Ns mainGlobals mg → FnG P w K mg base CX0 k fa fd [x] sp) (bind : ∀ (s : Shared) (u : Value), BindsTo s fd ⟨[u], []⟩ [(x, u)])
    (prom : sp [.ref a] H (fun v _ => v = .bl true) fun _ _ _ => False) :
    codeAny (model P w) callerA (.call (.ref fa) ⟨[.ref a], []⟩) (fun r s' => r = .ok (.ret (.bool true)) ∧ OldK s.heap s'.heap ∧ s'.os = s.os ∧ AllBare s'.gens) s := by
  have M := modLeft (mg := mg) plain inK out n1 n2 bb lim
  refine codeAny_mono ((F _ M.kin M.glob).go callerA rfl [] s H ⟨[.ref a], []⟩ [.ref a] [.ref a] _ _ room ?_ (bind s (.ref a)) (.cons rfl .nil) prom) fun r s' h => endOf only ok h
  exact ⟨rfl, M, fun b o e => of_hidT e, Nat.le_of_eq (hidT_size _ _), trivial, fun b z => (nomatch (show b ∈ ([] : List Addr) from z)), ok, .of_eq gens⟩
theorem lawRuns (obj : s.heap.get? a = some { cls := .type "list", data := .seq vs.toArray }) (isInts : IntsAre vs ns) (len : ns.length ≤ sizeLine) (inK : K.In s.heap) (n1 : s.heap.Ns mainGlobals mg) (n2 : s.heap.Ns builtinsNs mb) (bb : ∀ x : Str, x ≠ "__name__" → mb x = bootBuiltins x)
    (lim : s.heap.NoLimit) (gens : s.gens = #[]) (room : Room k callerA) (F : ∀ base : Heap, K.In base → base.Ns mainGlobals mg → FnG P w K mg base CX0 k fa fd [x] sp) (bind : ∀ (s : Shared) (u : Value), BindsTo s fd ⟨[u], []⟩ [(x, u)])
    (prom : ∀ H : Hp, Only H → SqL K H a (ns.map V.int) → sp [.ref a] H (fun v _ => v = .bl true) fun _ _ _ => False) :
    codeAny (model P w) callerA (.call (.ref fa) ⟨[.ref a], []⟩) (fun r s' => r = .ok (.ret (.bool true)) ∧ OldK s.heap s'.heap ∧ s'.os = s.os ∧ AllBare s'.gens) s := by
  by_cases inMod : ∃ o, K.lookup a = some o
  · obtain ⟨o, lk⟩ := inMod
    have same := inK a o lk
    rw [obj] at same
    cases same
    have seen : SqL K (fun _ => none) a (ns.map V.int) := .inr ⟨_, vs.toArray, _, lk, rfl, rfl, rfl, by rw [List.size_toArray, isInts.length]; exact len, by simpa using vals_ints isInts⟩
    exact lawRun (fun _ => .inl rfl) seen (fun _ _ z => (nomatch z)) (fun _ _ _ _ _ _ => rfl) (fun _ _ _ => rfl) inK n1 n2 bb lim gens room F bind (prom _ (fun _ => .inl rfl) seen)
  · have notK : ∀ o, K.lookup a ≠ some o := fun o z => inMod ⟨o, z⟩
    let H : Hp := upd (fun _ => none) a (.frz { cls := .type "list", data := .seq vs.toArray } (.lst (ns.map V.int)))
    have only : Only H := fun b => by
      by_cases z : b = a
      · exact .inr ⟨_, _, by rw [z]; exact upd_same⟩
      · exact .inl (upd_ne z)
    have seen : SqL K H a (ns.map V.int) := .inl (.inr ⟨_, upd_same⟩)
    refine lawRun only seen (fun b u z => ?_) (fun c o es ep e d => ?_) (fun b o e => upd_ne fun z => ?_) inK n1 n2 bb lim gens room F bind (prom H only seen)
    · by_cases y : b = a
      · subst y
        rw [show H b = _ from upd_same] at z
        cases z
        exact ⟨obj, by rw [List.length_map]; exact len, vs, _, vals_ints isInts, obj⟩
      · rw [show H b = _ from upd_ne y] at z
        cases z
    · refine upd_ne fun z => ?_
      rw [z, obj] at e
      cases e
      cases d
    · rw [z] at e
      exact notK o e
end
theorem walkG {l : PySem.W.OpenLaw} {n k : Nat} {q : Program} {loose : List Str} {XP : (Str → Option Value) → Heap → Prop} {YP : World → Heap → Prop} {d : DefRec} {x : Str} (hn : l.most = some n) (hn2 : n ≤ sizeLine) (hdf : d.params.defaults = []) (room : Room k callerA)
    (F : ∀ (w : World) (mg : Str → Option Value) (fa : Addr) (h : Heap), YP w h → h.Ns mainGlobals mg → mg d.name = some (.ref fa) → ∃ (K : PySem.W.Frag) (fd : FuncData) (sp : Sp), K.In h ∧ (∀ (s : Shared) (u : Value), BindsTo s fd ⟨[u], []⟩ [(x, u)]) ∧
      (∀ (H : Hp) (a : Addr) (ns : List Int), ns.length ≤ n → Only H → SqL K H a (ns.map V.int) → sp [.ref a] H (fun v _ => v = .bl true) fun _ _ _ => False) ∧ ∀ base : Heap, K.In base → base.Ns mainGlobals mg → FnG l.prog w K mg base CX0 k fa fd [x] sp) :
    PySem.W.WalkO q loose XP YP l.row.toRowW d [] (fun f vs => PySem.call f vs) :=
  Att.attach_call hn hdf fun w s0 s mg mb fa o pm cd doc a vs ns G Y _ _ _ hmg obj isInts len gens => by
    obtain ⟨K, fd, sp, inK, bind, prom, ok⟩ := F w mg fa _ Y G.T.g hmg
    exact lawRuns obj isInts (Nat.le_trans len hn2) inK G.T.g G.T.b G.T.builtins G.T.nolimit gens room ok bind fun H a1 a2 => prom H a ns len a1 a2
end FwG
namespace Fw
open PySem PySem.Spec PyProof.Rows L2 Evl
section
variable {K : PySem.W.Frag} {p : Option Addr} {env : List Slot} {Φ : PyData → Prop} {ta tb te tl : TE} {tt tu : TT}
/-! ### lists that are made or changed beside the known heap -/
theorem Go.mut {Hk H Hk' H' : Hp} {D : Addr} {o : HO} (g : Go p Hk H Hk' H') (h : H D = none) (hp : p ≠ some D) (hk : Hk' D = none) : Go p Hk H Hk' (upd H' D o) := by
  refine ⟨g.kk, Ex.mut g.kr hk, fun a u n e => ?_, g.nk, ?_⟩
  · rw [upd_ne (ne_of_none e h)]
    exact g.rr a u n e
  · have po := g.po
    cases p with
    | none => exact True.intro
    | some q =>
      obtain ⟨a1, a, b, a2, a3⟩ := po
      refine ⟨a1, a, b, ?_, a3⟩
      rw [upd_ne (fun z => hp (by rw [z]))]
      exact a2
theorem Go.pub {Hk H Hk' H' : Hp} {D : Addr} {o : HO} (g : Go p Hk H Hk' H') (h : H D = none) (hp : p ≠ some D) (hk : Hk' D = none) (hd : H' D = some o) : Go p Hk H (upd Hk' D o) H' := by
  refine ⟨g.kk.trans (Ex.new hk), fun a u e => ?_, g.rr, fun a h1 h2 => ?_, ?_⟩
  · by_cases z : a = D
    · subst z
      rw [upd_same] at e
      rw [hd]
      exact e
    · rw [upd_ne z] at e
      exact g.kr a u e
  · have z : a ≠ D := fun z => h1 (by rw [z]; exact h)
    rw [upd_ne z]
    exact g.nk a h1 h2
  · have po := g.po
    cases p with
    | none => exact True.intro
    | some q =>
      obtain ⟨a1, a, b, a2, a3⟩ := po
      refine ⟨?_, a, b, a2, a3⟩
      rw [upd_ne (fun z => hp (by rw [z]))]
      exact a1
theorem pot_ne {Hk H : Hp} {D : Addr} (po : PotOk Hk H p) (h : H D = none) : p ≠ some D := fun z => by
  subst z
  obtain ⟨_, _, _, h2, _⟩ := po
  rw [h] at h2
  cases h2
/-- an own list is read: within, it is known -/
theorem e_own {i : Nat} {ds : List PyData} (h : env[i]? = some (.own ds)) (q : WpE K p te (env.set i (.dat (.list ds))) fun d => flatD d = true ∧ Φ d) : WpE K p te env Φ := fun H0 σ Hk H Q e po en k => by
  obtain ⟨ov, h1, l, vs, rfl, h0, hk, hp, hl, r⟩ := en.slot i _ h
  have x : Ex Hk (upd Hk l (.lst vs)) := Ex.new hk
  have po1 : PotOk (upd Hk l (.lst vs)) H p := by
    cases p with
    | none => exact True.intro
    | some q =>
      obtain ⟨a1, a, b, a2, a3⟩ := po
      refine ⟨?_, a, b, a2, a3⟩
      rw [upd_ne (fun z => hp (by rw [z]))]
      exact a1
  have e1 : Ex (upd Hk l (.lst vs)) H := fun a u z => by
    by_cases y : a = l
    · subst y
      rw [upd_same] at z
      rw [hl]
      exact z
    · rw [upd_ne y] at z
      exact e a u z
  refine q H0 σ _ H Q e1 po1 (en.publish h h1 hk hl r) fun v d Hk' H' g rd ⟨fd, f⟩ => ?_
  have hl' : Hk' l = some (.lst vs) := g.kk l _ upd_same
  refine k v d (del Hk' l) H' ⟨fun a u z => ?_, fun a u z => ?_, g.rr, fun a z1 z2 => ?_, ?_⟩ (dp_del hl' d fd rd) f
  · have y : a ≠ l := ne_of_none z hk
    rw [del_ne y]
    exact g.kk a u (x a u z)
  · by_cases y : a = l
    · rw [y, del_same] at z
      cases z
    · rw [del_ne y] at z
      exact g.kr a u z
  · by_cases y : a = l
    · rw [y]
      exact del_same
    · rw [del_ne y]
      refine g.nk a z1 ?_
      rw [upd_ne y]
      exact z2
  · have po' := g.po
    cases p with
    | none => exact True.intro
    | some q =>
      obtain ⟨a1, a, b, a2, a3⟩ := po'
      refine ⟨?_, a, b, a2, a3⟩
      rw [del_ne (fun z => hp (by rw [z]))]
      exact a1
theorem t_own {Φ : Bool → Prop} {i : Nat} {ds : List PyData} (h : env[i]? = some (.own ds)) (q : WpT K p tt (env.set i (.dat (.list ds))) Φ) : WpT K p tt env Φ := fun H0 σ Hk H Q e po en k => by
  obtain ⟨ov, h1, l, vs, rfl, h0, hk, hp, hl, r⟩ := en.slot i _ h
  have x : Ex Hk (upd Hk l (.lst vs)) := Ex.new hk
  have po1 : PotOk (upd Hk l (.lst vs)) H p := by
    cases p with
    | none => exact True.intro
    | some q =>
      obtain ⟨a1, a, b, a2, a3⟩ := po
      refine ⟨?_, a, b, a2, a3⟩
      rw [upd_ne (fun z => hp (by rw [z]))]
      exact a1
  have e1 : Ex (upd Hk l (.lst vs)) H := fun a u z => by
    by_cases y : a = l
    · subst y
      rw [upd_same] at z
      rw [hl]
      exact z
    · rw [upd_ne y] at z
      exact e a u z
  refine q H0 σ _ H Q e1 po1 (en.publish h h1 hk hl r) fun b Hk' H' g f => ?_
  refine k b (del Hk' l) H' ⟨fun a u z => ?_, fun a u z => ?_, g.rr, fun a z1 z2 => ?_, ?_⟩ f
  · have y : a ≠ l := ne_of_none z hk
    rw [del_ne y]
    exact g.kk a u (x a u z)
  · by_cases y : a = l
    · rw [y, del_same] at z
      cases z
    · rw [del_ne y] at z
      exact g.kr a u z
  · by_cases y : a = l
    · rw [y]
      exact del_same
    · rw [del_ne y]
      refine g.nk a z1 ?_
      rw [upd_ne y]
      exact z2
  · have po' := g.po
    cases p with
    | none => exact True.intro
    | some q =>
      obtain ⟨a1, a, b, a2, a3⟩ := po'
      refine ⟨?_, a, b, a2, a3⟩
      rw [del_ne (fun z => hp (by rw [z]))]
      exact a1
/-! ### what is walked -/
variable {Ψ : List PyData → Prop}
theorem i_list (h : WpE K p tl env fun d => ∃ xs, d = .list xs ∧ Ψ xs) : WpI K p (iList K tl) env Ψ := fun H0 σ Hk H R e po en k =>
  h H0 σ Hk H _ e po en fun v d Hk1 H1 g rd ⟨xs, ed, f⟩ => by
    subst ed
    obtain ⟨a, vs, rfl, hS, r⟩ := dp_lst rd
    refine ⟨a, rfl, ⟨vs, ex_l g.kr hS⟩, k _ xs Hk1 H1 g (fun Hk2 H2 x1 x2 po2 => ?_) f⟩
    have hS2 : SqL K H2 a vs := ex_l (x1.trans x2) hS
    have hl := dpAll_len r
    refine ⟨fun i hi => ⟨vs, vs[i]'(by omega), hS2, by simp [hl, hi]⟩, ⟨vs, hS2, by omega⟩, fun i x H' hi y => ?_⟩
    obtain ⟨rfl, y⟩ := y
    obtain ⟨v, hv, rv⟩ := dpAll_get r (List.getElem?_eq_getElem hi)
    have ex : x = v := Option.some.inj ((y vs hS2).symm.trans hv)
    subst ex
    exact ⟨xs[i], Hk2, List.getElem?_eq_getElem hi, dp_mono x1 _ rv, Go.refl x2 po2⟩
theorem i_tup (h : WpE K p tl env fun d => ∃ xs, d = .tuple xs ∧ Ψ xs) : WpI K p (iTup K tl) env Ψ := fun H0 σ Hk H R e po en k =>
  h H0 σ Hk H _ e po en fun v d Hk1 H1 g rd ⟨xs, ed, f⟩ => by
    subst ed
    obtain ⟨a, vs, rfl, hS, r⟩ := dp_tup rd
    refine ⟨a, rfl, ⟨vs, ex_t g.kr hS⟩, k _ xs Hk1 H1 g (fun Hk2 H2 x1 x2 po2 => ?_) f⟩
    have hS2 : SqT K H2 a vs := ex_t (x1.trans x2) hS
    have hl := dpAll_len r
    refine ⟨fun i hi => ⟨vs, vs[i]'(by omega), hS2, by simp [hl, hi]⟩, ⟨vs, hS2, by omega⟩, fun i x H' hi y => ?_⟩
    obtain ⟨rfl, y⟩ := y
    obtain ⟨v, hv, rv⟩ := dpAll_get r (List.getElem?_eq_getElem hi)
    have ex : x = v := Option.some.inj ((y vs hS2).symm.trans hv)
    subst ex
    exact ⟨xs[i], Hk2, List.getElem?_eq_getElem hi, dp_mono x1 _ rv, Go.refl x2 po2⟩
def rng (lo : Int) (n : Nat) : List PyData := (List.range n).map fun i => .int (lo + (i : Nat))
theorem rng_len (lo : Int) (n : Nat) : (rng lo n).length = n := by unfold rng; rw [List.length_map, List.length_range]
theorem rng_get {lo : Int} {n i : Nat} (h : i < n) : (rng lo n)[i]? = some (.int (lo + (i : Nat))) := by
  unfold rng
  rw [List.getElem?_map, List.getElem?_range h]
  rfl
theorem itok_rng {lo : Int} {n : Nat} {Hk : Hp} : ItOk K p (Itr lo n) Hk (rng lo n) := fun Hk2 H2 x1 x2 po2 => by
  refine ⟨fun i hi => by rw [rng_len] at hi; exact hi, by rw [rng_len]; exact Nat.le_refl _, fun i x H' hi y => ?_⟩
  obtain ⟨rfl, rfl⟩ := y
  rw [rng_len] at hi
  exact ⟨_, Hk2, rng_get hi, .int _, Go.refl x2 po2⟩
theorem i_rng1 {ta : TA} (h : WpA K p ta env fun ds => ∃ n : Int, ds = [.int n] ∧ -(2 ^ 62) ≤ n ∧ n < 2 ^ 62 ∧ Ψ (rng 0 n.toNat)) : WpI K p (iRng1 ta) env Ψ := fun H0 σ Hk H R e po en k =>
  h H0 σ Hk H _ e po en fun vs ds Hk1 H1 g rd ⟨n, ed, b1, b2, f⟩ => by
    subst ed
    cases rd with
    | cons r1 r2 =>
      cases r2
      rw [dp_int r1]
      exact ⟨n, rfl, b1, b2, k _ _ Hk1 H1 g itok_rng f⟩
theorem i_rng2 {ta : TA} (h : WpA K p ta env fun ds => ∃ lo n : Int, ds = [.int lo, .int n] ∧ (-(2 ^ 62) ≤ lo ∧ lo < 2 ^ 62 ∧ -(2 ^ 62) ≤ n ∧ n < 2 ^ 62) ∧ Ψ (rng lo (n - lo).toNat)) : WpI K p (iRng2 ta) env Ψ := fun H0 σ Hk H R e po en k =>
  h H0 σ Hk H _ e po en fun vs ds Hk1 H1 g rd ⟨lo, n, ed, b, f⟩ => by
    subst ed
    cases rd with
    | cons r1 r2 =>
      cases r2 with
      | cons r2 r3 =>
        cases r3
        rw [dp_int r1, dp_int r2]
        exact ⟨lo, n, rfl, b, k _ _ Hk1 H1 g itok_rng f⟩
def zipD (xs ys : List PyData) : List PyData := List.zipWith (fun x y => .tuple [x, y]) xs ys
theorem zipD_len (xs ys : List PyData) : (zipD xs ys).length = min xs.length ys.length := List.length_zipWith
theorem zipD_get {xs ys : List PyData} {i : Nat} {x y : PyData} (hx : xs[i]? = some x) (hy : ys[i]? = some y) : (zipD xs ys)[i]? = some (.tuple [x, y]) := by
  unfold zipD
  rw [List.getElem?_zipWith, hx, hy]
theorem dp_pair {Hk : Hp} {T : Addr} {x y : V} {d e : PyData} (hT : Hk T = none) (r1 : Dx K Hk x d) (r2 : Dx K Hk y e) : Dx K (upd Hk T (.tup [x, y])) (.ref T) (.tuple [d, e]) :=
  .tup (SqT.of upd_same) (.cons (dp_mono (Ex.new hT) _ r1) (.cons (dp_mono (Ex.new hT) _ r2) .nil))
theorem i_zipT {ta : TA} (h : WpA K p ta env fun ds => ∃ xs ys, ds = [.tuple xs, .tuple ys] ∧ Ψ (zipD xs ys)) : WpI K p (RZ.iZipA K ta) env Ψ := fun H0 σ Hk H R e po en k =>
  h H0 σ Hk H _ e po en fun vs ds Hk1 H1 g rd ⟨xs, ys, ed, f⟩ => by
    subst ed
    cases rd with
    | cons r1 r2 =>
      cases r2 with
      | cons r2 r3 =>
        cases r3
        obtain ⟨a, us, rfl, hS, r⟩ := dp_tup r1
        obtain ⟨b, ws, rfl, hT, u⟩ := dp_tup r2
        refine ⟨a, b, us, ws, rfl, .inr ⟨ex_t g.kr hS, ex_t g.kr hT, k _ _ Hk1 H1 g (fun Hk2 H2 x1 x2 po2 => ?_) f⟩⟩
        have hS2 : SqT K H2 a us := ex_t (x1.trans x2) hS
        have hT2 : SqT K H2 b ws := ex_t (x1.trans x2) hT
        have l1 := dpAll_len r
        have l2 := dpAll_len u
        rw [zipD_len]
        refine ⟨fun i hi => ⟨us, ws, us[i]'(by omega), ws[i]'(by omega), hS2, hT2, by simp, by simp⟩, ⟨us, ws, hS2, hT2, by omega⟩, fun i x H' hi y => ?_⟩
        obtain ⟨T, x', y', rfl, nT, rfl, f1, f2⟩ := y
        have hi1 : i < xs.length := by omega
        have hi2 : i < ys.length := by omega
        obtain ⟨v, hv, rv⟩ := dpAll_get r (List.getElem?_eq_getElem hi1)
        obtain ⟨w, hw, rw'⟩ := dpAll_get u (List.getElem?_eq_getElem hi2)
        have e1 : x' = v := Option.some.inj ((f1 us hS2).symm.trans hv)
        have e2 : y' = w := Option.some.inj ((f2 ws hT2).symm.trans hw)
        subst e1 e2
        exact ⟨_, _, zipD_get (List.getElem?_eq_getElem hi1) (List.getElem?_eq_getElem hi2), dp_pair (fresh_back x2 nT) (dp_mono x1 _ rv) (dp_mono x1 _ rw'), Go.new x2 po2 nT⟩
theorem i_zipL {ta : TA} (h : WpA K p ta env fun ds => ∃ xs ys, ds = [.list xs, .list ys] ∧ Ψ (zipD xs ys)) : WpI K p (RZ.iZipA K ta) env Ψ := fun H0 σ Hk H R e po en k =>
  h H0 σ Hk H _ e po en fun vs ds Hk1 H1 g rd ⟨xs, ys, ed, f⟩ => by
    subst ed
    cases rd with
    | cons r1 r2 =>
      cases r2 with
      | cons r2 r3 =>
        cases r3
        obtain ⟨a, us, rfl, hS, r⟩ := dp_lst r1
        obtain ⟨b, ws, rfl, hT, u⟩ := dp_lst r2
        refine ⟨a, b, us, ws, rfl, .inl ⟨ex_l g.kr hS, ex_l g.kr hT, k _ _ Hk1 H1 g (fun Hk2 H2 x1 x2 po2 => ?_) f⟩⟩
        have hS2 : SqL K H2 a us := ex_l (x1.trans x2) hS
        have hT2 : SqL K H2 b ws := ex_l (x1.trans x2) hT
        have l1 := dpAll_len r
        have l2 := dpAll_len u
        rw [zipD_len]
        refine ⟨fun i hi => ⟨us, ws, us[i]'(by omega), ws[i]'(by omega), hS2, hT2, by simp, by simp⟩, ⟨us, ws, hS2, hT2, by omega⟩, fun i x H' hi y => ?_⟩
        obtain ⟨T, x', y', rfl, nT, rfl, f1, f2⟩ := y
        have hi1 : i < xs.length := by omega
        have hi2 : i < ys.length := by omega
        obtain ⟨v, hv, rv⟩ := dpAll_get r (List.getElem?_eq_getElem hi1)
        obtain ⟨w, hw, rw'⟩ := dpAll_get u (List.getElem?_eq_getElem hi2)
        have e1 : x' = v := Option.some.inj ((f1 us hS2).symm.trans hv)
        have e2 : y' = w := Option.some.inj ((f2 ws hT2).symm.trans hw)
        subst e1 e2
        exact ⟨_, _, zipD_get (List.getElem?_eq_getElem hi1) (List.getElem?_eq_getElem hi2), dp_pair (fresh_back x2 nT) (dp_mono x1 _ rv) (dp_mono x1 _ rw'), Go.new x2 po2 nT⟩
def enumD (xs : List PyData) : List PyData := xs.mapIdx fun i x => .tuple [.int (i : Nat), x]
theorem enumD_len (xs : List PyData) : (enumD xs).length = xs.length := List.length_mapIdx
theorem enumD_get {xs : List PyData} {i : Nat} {x : PyData} (hx : xs[i]? = some x) : (enumD xs)[i]? = some (.tuple [.int (i : Nat), x]) := by
  unfold enumD
  rw [List.getElem?_mapIdx, hx]
  rfl
theorem i_enumT {ta : TA} (h : WpA K p ta env fun ds => ∃ xs, ds = [.tuple xs] ∧ Ψ (enumD xs)) : WpI K p (FwE.iEnumT K ta) env Ψ := fun H0 σ Hk H R e po en k =>
  h H0 σ Hk H _ e po en fun vs ds Hk1 H1 g rd ⟨xs, ed, f⟩ => by
    subst ed
    cases rd with
    | cons r1 r2 =>
      cases r2
      obtain ⟨a, us, rfl, hS, r⟩ := dp_tup r1
      refine ⟨a, us, rfl, ex_t g.kr hS, k _ _ Hk1 H1 g (fun Hk2 H2 x1 x2 po2 => ?_) f⟩
      have hS2 : SqT K H2 a us := ex_t (x1.trans x2) hS
      have l1 := dpAll_len r
      rw [enumD_len]
      refine ⟨fun i hi => ⟨us, us[i]'(by omega), hS2, by simp⟩, ⟨us, hS2, by omega⟩, fun i x H' hi y => ?_⟩
      obtain ⟨T, x', rfl, nT, rfl, f1⟩ := y
      obtain ⟨v, hv, rv⟩ := dpAll_get r (List.getElem?_eq_getElem hi)
      have e1 : x' = v := Option.some.inj ((f1 us hS2).symm.trans hv)
      subst e1
      exact ⟨_, _, enumD_get (List.getElem?_eq_getElem hi), dp_pair (fresh_back x2 nT) (.int _) (dp_mono x1 _ rv), Go.new x2 po2 nT⟩
theorem i_enumL {ta : TA} (h : WpA K p ta env fun ds => ∃ xs, ds = [.list xs] ∧ Ψ (enumD xs)) : WpI K p (iEnum K ta) env Ψ := fun H0 σ Hk H R e po en k =>
  h H0 σ Hk H _ e po en fun vs ds Hk1 H1 g rd ⟨xs, ed, f⟩ => by
    subst ed
    cases rd with
    | cons r1 r2 =>
      cases r2
      obtain ⟨a, us, rfl, hS, r⟩ := dp_lst r1
      refine ⟨a, us, rfl, ex_l g.kr hS, k _ _ Hk1 H1 g (fun Hk2 H2 x1 x2 po2 => ?_) f⟩
      have hS2 : SqL K H2 a us := ex_l (x1.trans x2) hS
      have l1 := dpAll_len r
      rw [enumD_len]
      refine ⟨fun i hi => ⟨us, us[i]'(by omega), hS2, by simp⟩, ⟨us, hS2, by omega⟩, fun i x H' hi y => ?_⟩
      obtain ⟨T, x', rfl, nT, rfl, f1⟩ := y
      obtain ⟨v, hv, rv⟩ := dpAll_get r (List.getElem?_eq_getElem hi)
      have e1 : x' = v := Option.some.inj ((f1 us hS2).symm.trans hv)
      subst e1
      exact ⟨_, _, enumD_get (List.getElem?_eq_getElem hi), dp_pair (fresh_back x2 nT) (.int _) (dp_mono x1 _ rv), Go.new x2 po2 nT⟩
/-! ### targets -/
theorem g_name {i : Nat} {d : PyData} {Ψ : List Slot → Prop} (q : Ψ (env.set i (.dat d))) : WpG K p [i] (gName i) d env Ψ := fun H0 σ Hk H v Q e po en r k =>
  k _ _ (en.set r) ⟨List.length_set, fun j hj => List.getElem?_set_ne (fun z => hj (by rw [z]; exact List.mem_singleton.mpr rfl))⟩ q
theorem g_nil {Ψ : List Slot → Prop} (q : Ψ env) : WpGs K p [] gNil [] env Ψ := fun H0 σ Hk H vs Q e po en r k => by
  cases r
  exact ⟨rfl, k σ env en ⟨rfl, fun _ _ => rfl⟩ q⟩
theorem g_cons {js ks : List Nat} {t : TG} {u : TGs} {d : PyData} {ds : List PyData} {Ψ : List Slot → Prop} (q : WpG K p js t d env fun env' => WpGs K p ks u ds env' Ψ) : WpGs K p (js ++ ks) (gCons t u) (d :: ds) env Ψ := fun H0 σ Hk H vs Q e po en r k => by
  cases r with
  | cons r1 r2 =>
    refine ⟨_, _, rfl, q H0 σ Hk H _ _ e po en r1 fun σ1 env1 en1 s1 h1 => ?_⟩
    exact h1 H0 σ1 Hk H _ _ e po en1 r2 fun σ2 env2 en2 s2 h2 => k σ2 env2 en2 ⟨s2.1.trans s1.1, fun j hj => (s2.2 j (fun z => hj (List.mem_append_right _ z))).trans (s1.2 j (fun z => hj (List.mem_append_left _ z)))⟩ h2
theorem g_tup {js : List Nat} {n : Nat} {t : TGs} {d : PyData} {Ψ : List Slot → Prop} (ds : List PyData) (hd : d = .tuple ds) (hn : ds.length = n) (q : WpGs K p js t ds env Ψ) : WpG K p js (gTup K n t) d env Ψ := fun H0 σ Hk H v Q e po en r k => by
  subst hd
  obtain ⟨a, us, rfl, hS, r⟩ := dp_tup r
  exact ⟨a, us, rfl, ex_t e hS, (dpAll_len r).trans hn, q H0 σ Hk H us Q e po en r k⟩
/-! ### comprehensions -/
theorem wipe_get (σ : List (Option V)) (i : Nat) : ∀ vs : List Nat, (L2.wipe σ vs)[i]? = if i ∈ vs ∧ i < σ.length then some none else σ[i]?
  | [] => by simp [L2.wipe]
  | v :: vs => by
    show ((L2.wipe σ vs).set v none)[i]? = _
    rw [List.getElem?_set, wipe_length, wipe_get σ i vs]
    by_cases h : v = i
    · subst h
      by_cases hl : v < σ.length
      · simp [hl]
      · simp [hl]
    · have : i ≠ v := fun z => h z.symm
      simp [h, this]
theorem wipe_eq {σ σ2 : List (Option V)} {js vs : List Nat} (hl : σ2.length = σ.length) (h : ∀ j, j ∉ js → σ2[j]? = (L2.wipe σ vs)[j]?) (hs : ∀ j ∈ js, j ∈ vs) : L2.wipe σ2 vs = L2.wipe σ vs := by
  refine List.ext_getElem? fun i => ?_
  rw [wipe_get, wipe_get, hl]
  by_cases hi : i ∈ vs
  · by_cases hlt : i < σ.length
    · simp [hi, hlt]
    · simp only [hi, hlt, and_false, if_false]
      rw [List.getElem?_eq_none (by omega), List.getElem?_eq_none (by omega)]
  · have := h i (fun z => hi (hs i z))
    rw [wipe_get] at this
    simpa [hi] using this
/-- te makes a new list that nobody knows -/
def WpF (K : PySem.W.Frag) (p : Option Addr) (te : TE) (env : List Slot) (Φ : List PyData → Prop) : Prop := ∀ (H0 : Hp) (σ : List (Option V)) (Hk H : Hp) (Q : VK), Ex Hk H → PotOk Hk H p → En K p H0 Hk H σ env →
  (∀ l vs ds Hk' H', Go p Hk H Hk' H' → H l = none → Hk' l = none → H' l = some (.lst vs) → DxAll K Hk' vs ds → Φ ds → Q (.ref l) H') → te σ H Q
theorem e_new (h : WpF K p te env fun ds => Φ (.list ds)) : WpE K p te env Φ := fun H0 σ Hk H Q e po en k =>
  h H0 σ Hk H Q e po en fun l vs ds Hk' H' g h0 hk hl r f => k _ _ _ _ (g.pub h0 (pot_ne po h0) hk hl) (.lst (SqL.of upd_same) (dpAll_mono (Ex.new hk) ds r)) f
theorem f_lst {ta : TA} {Φ : List PyData → Prop} (h : WpA K p ta env fun ds => ds.length ≤ 100000 ∧ Φ ds) : WpF K p (tLst ta) env Φ := fun H0 σ Hk H Q e po en k =>
  h H0 σ Hk H _ e po en fun vs ds Hk1 H1 g1 r ⟨hz, f⟩ => ⟨sz_of (by rw [dpAll_len r]; exact hz), fun q hq => by
    have h0 : H q = none := by
      cases z : H q with
      | none => rfl
      | some o => exact absurd hq (g1.live (by rw [z]; exact nofun))
    exact k q vs ds Hk1 _ (g1.mut h0 (pot_ne po h0) (fresh_back g1.kr hq)) h0 (fresh_back g1.kr hq) upd_same r f⟩
theorem f_cat {ta : TE} {Φ : List PyData → Prop} (h : WpF K p ta env fun xs => WpF K p tb env fun ys => xs.length + ys.length ≤ 100000 ∧ Φ (xs ++ ys)) : WpF K p (tOp rCat ta tb) env Φ := fun H0 σ Hk H Q e po en k =>
  h H0 σ Hk H _ e po en fun l vs xs Hk1 H1 g1 l0 lk lh lr h1 => h1 H0 σ Hk1 H1 _ g1.kr g1.po (en.go g1) fun m ws ys Hk2 H2 g2 m0 mk mh mr ⟨hz, f⟩ => by
    have hl2 : H2 l = some (.lst vs) := g2.rr l _ (pot_ne po l0) lh
    refine ⟨l, m, vs, ws, rfl, rfl, hl2, mh, sz_of (by rw [dpAll_len lr, dpAll_len mr]; exact hz), fun q hq => ?_⟩
    have gg := g1.trans g2
    have h0 : H q = none := by
      cases z : H q with
      | none => rfl
      | some o => exact absurd hq (gg.live (by rw [z]; exact nofun))
    exact k q _ (xs ++ ys) Hk2 _ (gg.mut h0 (pot_ne po h0) (fresh_back gg.kr hq)) h0 (fresh_back gg.kr hq) upd_same (dpAll_app (dpAll_mono g2.kk xs lr) mr) f
theorem f_rep {ta : TE} {Φ : List PyData → Prop} (h : WpF K p ta env fun xs => WpE K p tb env fun y => ∃ k : Int, y = .int k ∧ 0 ≤ k ∧ k ≤ 1000 ∧ xs.length ≤ 100 ∧ Φ (List.replicate k.toNat xs).flatten) : WpF K p (tOp rRep ta tb) env Φ := fun H0 σ Hk H Q e po en k =>
  h H0 σ Hk H _ e po en fun l vs xs Hk1 H1 g1 l0 lk lh lr h1 => h1 H0 σ Hk1 H1 _ g1.kr g1.po (en.go g1) fun v y Hk2 H2 g2 ry ⟨n, ey, n0, n1, hz, f⟩ => by
    subst ey
    rw [dp_int ry]
    have hl2 : H2 l = some (.lst vs) := g2.rr l _ (pot_ne po l0) lh
    have hlen := dpAll_len lr
    refine ⟨l, n, vs, rfl, rfl, hl2, by omega, by omega, ?_, fun q hq => ?_⟩
    · have : vs.length * n.toNat ≤ 100 * 1000 := Nat.mul_le_mul (by omega) (by omega)
      exact sz_of (by omega)
    have gg := g1.trans g2
    have h0 : H q = none := by
      cases z : H q with
      | none => rfl
      | some o => exact absurd hq (gg.live (by rw [z]; exact nofun))
    exact k q _ _ Hk2 _ (gg.mut h0 (pot_ne po h0) (fresh_back gg.kr hq)) h0 (fresh_back gg.kr hq) upd_same (dpAll_rep (dpAll_mono g2.kk xs lr) _) f
/-- an own list is read on the way to a new one -/
theorem f_own {i : Nat} {ds : List PyData} {Φ : List PyData → Prop} (h : env[i]? = some (.own ds)) (q : WpF K p te (env.set i (.dat (.list ds))) fun es => flatAllD es = true ∧ Φ es) : WpF K p te env Φ := fun H0 σ Hk H Q e po en k => by
  obtain ⟨ov, h1, l, vs, rfl, h0, hk, hp, hl, r⟩ := en.slot i _ h
  have x : Ex Hk (upd Hk l (.lst vs)) := Ex.new hk
  have po1 : PotOk (upd Hk l (.lst vs)) H p := by
    cases p with
    | none => exact True.intro
    | some q =>
      obtain ⟨a1, a, b, a2, a3⟩ := po
      refine ⟨?_, a, b, a2, a3⟩
      rw [upd_ne (fun z => hp (by rw [z]))]
      exact a1
  have e1 : Ex (upd Hk l (.lst vs)) H := fun a u z => by
    by_cases y : a = l
    · subst y
      rw [upd_same] at z
      rw [hl]
      exact z
    · rw [upd_ne y] at z
      exact e a u z
  refine q H0 σ _ H Q e1 po1 (en.publish h h1 hk hl r) fun m ws es Hk' H' g m0 mk mh mr ⟨fd, f⟩ => ?_
  have hl' : Hk' l = some (.lst vs) := g.kk l _ upd_same
  have ml : m ≠ l := fun z => by
    rw [z, hl] at m0
    cases m0
  refine k m ws es (del Hk' l) H' ⟨fun a u z => ?_, fun a u z => ?_, g.rr, fun a z1 z2 => ?_, ?_⟩ m0 (by rw [del_ne ml]; exact mk) mh (dpAll_del hl' es fd mr) f
  · have y : a ≠ l := ne_of_none z hk
    rw [del_ne y]
    exact g.kk a u (x a u z)
  · by_cases y : a = l
    · rw [y, del_same] at z
      cases z
    · rw [del_ne y] at z
      exact g.kr a u z
  · by_cases y : a = l
    · rw [y]
      exact del_same
    · rw [del_ne y]
      refine g.nk a z1 ?_
      rw [upd_ne y]
      exact z2
  · have po' := g.po
    cases p with
    | none => exact True.intro
    | some q =>
      obtain ⟨a1, a, b, a2, a3⟩ := po'
      refine ⟨?_, a, b, a2, a3⟩
      rw [del_ne (fun z => hp (by rw [z]))]
      exact a1
theorem f_lc {wi : TI} {g : TG} {vs js : List Nat} {Φ : List PyData → Prop} (hs : ∀ j ∈ js, j ∈ vs) (h : WpI K p wi env fun xs => xs.length ≤ 100000 ∧ ∃ Wd : Nat → List PyData → Prop, Wd 0 [] ∧
    (∀ (i : Nat) (x : PyData) (acc : List PyData), xs[i]? = some x → Wd i acc → acc.length ≤ i → WpG K p js g x (wipeE env vs) fun env2 => WpT K p tt env2 fun b => if b = true then WpE K p te env2 (fun y => Wd (i + 1) (acc ++ [y])) else Wd (i + 1) acc) ∧
    ∀ acc, acc.length ≤ xs.length → Wd xs.length acc → Φ acc) : WpF K p (tLc wi g tt te vs) env Φ := fun H0 σ Hk H Q e po en k => by
  refine h H0 σ Hk H _ e po en fun J xs Hk1 H1 g1 it ⟨hz, Wd, i0, step, last⟩ D hD => ?_
  have pD : p ≠ some D := pot_ne g1.po hD
  refine ⟨fun i m H' => m = xs.length - i ∧ i ≤ xs.length ∧ ∃ Hk' ws acc, Go p Hk1 H1 Hk' H' ∧ Hk' D = none ∧ H' D = some (.lst ws) ∧ DxAll K Hk' ws acc ∧ acc.length ≤ i ∧ Wd i acc, ⟨xs.length, by omega, by omega, Hk1, [], [], (Go.refl g1.kr g1.po).mut hD pD (fresh_back g1.kr hD), fresh_back g1.kr hD, upd_same, .nil, Nat.le_refl _, i0⟩, ?_⟩
  rintro i m H' ⟨rfl, hi, Hk', ws, acc, go, kD, hw, r, hlen, inv⟩
  obtain ⟨o1, o2, o3⟩ := it Hk' H' go.kk go.kr go.po
  by_cases hlt : i < xs.length
  · refine .inr ⟨o1 i hlt, fun H'' => i + 1 ≤ xs.length ∧ ∃ Hk' ws acc, Go p Hk1 H1 Hk' H'' ∧ Hk' D = none ∧ H'' D = some (.lst ws) ∧ DxAll K Hk' ws acc ∧ acc.length ≤ i + 1 ∧ Wd (i + 1) acc, fun H'' q => ⟨xs.length - (i + 1), by omega, rfl, q⟩, fun x H'' y => ?_⟩
    obtain ⟨d, Hk2, hd, rd, g2⟩ := o3 i x H'' hlt y
    have en2 : En K p H0 Hk2 H'' (L2.wipe σ vs) (wipeE env vs) := (((en.go g1).go go).go g2).wipe vs
    refine step i d acc hd inv hlen H0 _ Hk2 H'' x _ g2.kr g2.po en2 rd fun σ2 env2 en3 same f3 => ⟨wipe_eq (by rw [same.1, wipe_length]) same.2 hs, ?_⟩
    refine f3 H0 σ2 Hk2 H'' _ g2.kr g2.po en3 fun b Hk4 H4 g4 f4 => ?_
    have gg := (go.trans g2).trans g4
    have k4 : Hk4 D = none := g4.nk D (g2.live (by rw [hw]; exact nofun)) (g2.nk D (by rw [hw]; exact nofun) kD)
    have h4 : H4 D = some (.lst ws) := g4.rr D _ pD (g2.rr D _ pD hw)
    have r4 := dpAll_mono g4.kk acc (dpAll_mono g2.kk acc r)
    cases b with
    | false => exact ⟨by omega, Hk4, ws, acc, gg, k4, h4, r4, by omega, f4⟩
    | true =>
      refine (show WpE K p te env2 _ from f4) H0 σ2 Hk4 H4 _ g4.kr g4.po (en3.go g4) fun v d2 Hk5 H5 g5 r5 f5 => ?_
      have k5 : Hk5 D = none := g5.nk D (by rw [h4]; exact nofun) k4
      refine ⟨ws, g5.rr D _ pD h4, sz_lt (by rw [dpAll_len r]; omega), by omega, Hk5, ws ++ [v], acc ++ [d2], (gg.trans g5).mut hD pD k5, k5, upd_same, dpAll_app (dpAll_mono g5.kk acc r4) (.cons r5 .nil), by rw [List.length_append]; simp; omega, f5⟩
  · have hi2 : i = xs.length := by omega
    subst hi2
    have h0 : H D = none := by
      cases z : H D with
      | none => rfl
      | some o => exact absurd hD (g1.live (by rw [z]; exact nofun))
    exact .inl ⟨o2, k D ws acc Hk' _ (g1.trans go) h0 kD hw r (last acc hlen inv)⟩
/-- each item gives one -/
theorem e_map {wi : TI} {g : TG} {vs js : List Nat} (hs : ∀ j ∈ js, j ∈ vs) (h : WpI K p wi env fun xs => xs.length ≤ 100000 ∧ ∃ f : PyData → PyData, (∀ (i : Nat) (x : PyData), xs[i]? = some x → WpG K p js g x (wipeE env vs) fun env2 => WpE K p te env2 (fun y => y = f x)) ∧ Φ (.list (xs.map f))) : WpE K p (tLc wi g tYes te vs) env Φ :=
  e_new (f_lc hs fun H0 σ Hk H R e po en k => h H0 σ Hk H R e po en fun J xs Hk' H' g it ⟨hz, f, step, last⟩ => k J xs Hk' H' g it ⟨hz, fun i acc => acc = (xs.take i).map f, rfl, fun i x acc hx inv _ => fun H0 σ Hk H v Q e po en r k =>
    step i x hx H0 σ Hk H v Q e po en r fun σ' env' en' same f' => k σ' env' en' same (t_yes (show WpE K p _ env' _ from f'.mono fun y hy => by
      rw [inv, hy]
      show (xs.take i).map f ++ [f x] = (xs.take (i + 1)).map f
      rw [List.take_add_one, hx, List.map_append]
      rfl)), fun acc _ inv => by
      rw [inv, List.take_length]
      exact last⟩)
/-- each item gives one of which something is known -/
theorem e_rel {wi : TI} {g : TG} {vs js : List Nat} (hs : ∀ j ∈ js, j ∈ vs) (h : WpI K p wi env fun xs => xs.length ≤ 100000 ∧ ∃ R : PyData → PyData → Prop, (∀ (i : Nat) (x : PyData), xs[i]? = some x → WpG K p js g x (wipeE env vs) fun env2 => WpE K p te env2 (fun y => R x y)) ∧ ∀ ys : List PyData, ys.length = xs.length → (∀ (i : Nat) (x y : PyData), xs[i]? = some x → ys[i]? = some y → R x y) → Φ (.list ys)) : WpE K p (tLc wi g tYes te vs) env Φ :=
  e_new (f_lc hs fun H0 σ Hk H R e po en k => h H0 σ Hk H R e po en fun J xs Hk' H' g it ⟨hz, f, step, last⟩ => k J xs Hk' H' g it ⟨hz, fun i acc => acc.length = i ∧ ∀ (j : Nat) (x y : PyData), xs[j]? = some x → acc[j]? = some y → f x y, ⟨rfl, fun j x y _ h => by simp at h⟩, fun i x acc hx inv _ => fun H0 σ Hk H v Q e po en r k =>
    step i x hx H0 σ Hk H v Q e po en r fun σ' env' en' same f' => k σ' env' en' same (t_yes (show WpE K p _ env' _ from f'.mono fun y hy => ⟨by rw [List.length_append, inv.1]; rfl, fun j x' y' hx' hy' => by
      by_cases hj : j < acc.length
      · rw [List.getElem?_append_left hj] at hy'
        exact inv.2 j x' y' hx' hy'
      · rw [List.getElem?_append_right (by omega)] at hy'
        have hj2 : j - acc.length = 0 := by
          have := (List.getElem?_eq_some_iff.mp hy').1
          simp at this
          omega
        rw [hj2] at hy'
        have e1 : j = i := by have := inv.1; omega
        subst e1
        rw [hx] at hx'
        cases hx'
        cases hy'
        exact hy⟩)), fun acc _ inv => last acc inv.1 inv.2⟩)
end
end Fw
namespace FwE
open PySem PySem.Spec PyProof.Rows L2
/-! a tuple times 1 is the tuple itself -/
theorem once (l : Addr) (items : Array Value) (n : Nat) (dd : Option Addr) (sl : Array (Option Value)) (u : Tok) :
    Meets (Builtin.«tuple.__mul__» ⟨[.ref l, .int 1 u], []⟩) (fun _ R s => s.heap.get? l = some { cls := .type "tuple", dict := dd, data := .seq items n, slots := sl } ∧ R (.ok (.ret (.ref l))) s) :=
  .of_wp fun prog w A R s h => by
    obtain ⟨hp, g, d, tk, os⟩ := s
    obtain ⟨hl, h⟩ := h
    have f1 := AutoSeq1.idx_int
    have c1 : (items.isEmpty || (1 : Int) == 1) = true := by simp
    wp_walk using AutoSeq1.wpAny_loadPart' hl
    repeat (first
      | (refine wpAny_ite_false (by decide) ?_; wp_walk using AutoSeq1.wpAny_loadPart' hl)
      | (refine wpAny_ite_true (by simp) ?_; wp_walk using AutoSeq1.wpAny_loadPart' hl)
      | (rw [if_pos c1]; wp_walk using AutoSeq1.wpAny_loadPart' hl))
    exact ⟨_, rfl, h⟩
def rTimes (K : PySem.W.Frag) : R2 := fun x y H Q => ∃ (l : Addr) (k : Int) (xs : List V), x = .ref l ∧ y = .int k ∧ SqT K H l xs ∧ xs ≠ [] ∧ 1 ≤ k ∧ k ≤ 1000 ∧ xs.length ≤ 1000 ∧ (k = 1 → Q x H) ∧ (k ≠ 1 → ∀ p, H p = none → Q (.ref p) (upd H p (.tup (List.replicate k.toNat xs).flatten)))
theorem op_times {X : Cx} : OpR X (binaryOp .Mult) (rTimes X.K) := fun pins s σ H x y v u Q I rx ry h => by
  obtain ⟨l, k, xs, rfl, rfl, hT, ne, k1, k2, hz, q1, q2⟩ := h
  by_cases one : k = 1
  · subst one
    cases rx
    obtain ⟨t, rfl⟩ := ry
    obtain ⟨its, r, ⟨⟨cls, dd, data, sl⟩, ho, hc, n, hd⟩, _⟩ := I.tuple hT
    simp only at hc hd
    subst hc hd
    have two := call_meets (prog := X.prog) (w := X.w) (A := X.A) (Q := EP X pins σ Q) (E := X.xe) F.slot_tuple_mul (show s.TypeIs (.ref l) "tuple" from ⟨_, ho, rfl⟩) F.entry_tuple_mul (F.args_tuple_mul_2 (.ref l) (.int 1 t)) (once l its.toArray n dd sl t) ⟨ho, ⟨.ref l, H, I, rfl, q1 rfl⟩⟩
    exact wpAny_binaryOp_repeat_ref (T := "tuple") (U := "int") (by decide) ⟨_, ho, rfl⟩ (fun s' => typeIs_int s' 1 t) noFill_tuple_mul F.fills_int_mul F.slot_int_rmul repeat_tuple F.slot_int_index.lookup
      (call_meets F.slot_int_rmul (typeIs_int s 1 t) F.entry_int_rmul (F.args_int_rmul_2 _ _) (int_rmul_tuple 1 t l its.toArray n dd sl) ⟨ho, rfl, ⟨_, ho, rfl⟩, two⟩)
  · exact op_repT pins s σ H _ _ v u Q I rx ry ⟨l, k, xs, rfl, rfl, hT, ne, by omega, k2, hz, q2 one⟩
end FwE
namespace Fw
open PySem PySem.Spec PyProof.Rows L2 Evl
section
variable {K : PySem.W.Frag} {p : Option Addr} {env : List Slot} {Φ : PyData → Prop} {ta tb te tl : TE} {tt tc : TT} {O : Outs}
theorem od_times {ds : List PyData} {k : Int} (ne : ds ≠ []) (k1 : 1 ≤ k) (k2 : k ≤ 1000) (hz : ds.length ≤ 1000) (h : Φ (.tuple (List.replicate k.toNat ds).flatten)) : OpD K p (FwE.rTimes K) (.tuple ds) (.int k) Φ := fun vx vy Hk H Q e po rx ry kk => by
  obtain ⟨a, xs, rfl, hT, r⟩ := dp_tup rx
  rw [dp_int ry]
  have l1 := dpAll_len r
  refine ⟨a, k, xs, rfl, rfl, ex_t e hT, fun z => ne (List.length_eq_zero_iff.mp (by rw [← l1, z]; rfl)), k1, k2, by omega, fun z => ?_, fun _ q hq => ?_⟩
  · subst z
    have e1 : (List.replicate (1 : Int).toNat ds).flatten = ds := by simp
    rw [e1] at h
    exact kk _ _ _ _ (Go.refl e po) rx h
  · exact kk _ _ _ _ (Go.new e po hq) (.tup (SqT.of upd_same) (dpAll_mono (Ex.new (fresh_back e hq)) _ (dpAll_rep r _))) h
/-- a list times a number (the list made on the way) -/
theorem od_repL {ds : List PyData} {k : Int} (k1 : 0 ≤ k) (k2 : k ≤ 1000) (hz : ds.length ≤ 100) (h : Φ (.list (List.replicate k.toNat ds).flatten)) {vx vy : V} {Hk H : Hp} {Q : VK} (e : Ex Hk H) (po : PotOk Hk H p) (rx : Dx K Hk vx (.list ds)) (ry : Dx K Hk vy (.int k)) (tr : ∀ a xs, vx = .ref a → SqL K Hk a xs → H a = some (.lst xs))
    (kk : ∀ v d Hk' H', Go p Hk H Hk' H' → Dx K Hk' v d → Φ d → Q v H') : rRep vx vy H Q := by
  obtain ⟨a, xs, rfl, hT, r⟩ := dp_lst rx
  rw [dp_int ry]
  have l1 := dpAll_len r
  refine ⟨a, k, xs, rfl, rfl, tr a xs rfl hT, by omega, by omega, ?_, fun q hq => ?_⟩
  · have : xs.length * k.toNat ≤ 100 * 1000 := Nat.mul_le_mul (by omega) (by omega)
    exact sz_of (by omega)
  · exact kk _ _ _ _ (Go.new e po hq) (.lst (SqL.of upd_same) (dpAll_mono (Ex.new (fresh_back e hq)) _ (dpAll_rep r _))) h
/-! ### isinstance, repr -/
def tyD : PyData → String
  | .none => "NoneType"
  | .bool _ => "bool"
  | .int _ => "int"
  | .str _ => "str"
  | .list _ => "list"
  | .tuple _ => "tuple"
  | .dict _ => "dict"
theorem tyX {H : Hp} {v : V} {d : PyData} (h : Dx K H v d) : TyX K H v (.type (tyD d)) := by
  cases h with
  | non => exact .base .non
  | bl b => exact .base (.bl b)
  | int i => exact .base (.int i)
  | str x => exact .base (.str x)
  | lst h _ =>
    rcases h with (h | ⟨o, h⟩) | ⟨o, its, n, h, c, _⟩
    · exact .base (.lst h)
    · exact .base (.frz h)
    · exact .kList h c
  | tup h _ =>
    rcases h with (h | ⟨o, h⟩) | ⟨o, its, n, h, c, _⟩
    · exact .base (.tup h)
    · exact .fTuple h
    · exact .kTuple h c
  | dic h => exact .base (.dK h)
theorem e_isi {n : String} (h : WpE K p te env fun x => ∃ b, kitB (tyD x) n = some b ∧ Φ (.bool b)) : WpE K p (tCB (rIsi K) (tCons te (tCons (tC (.ty n)) tNil))) env Φ := fun H0 σ Hk H Q e po en k =>
  h H0 σ Hk H _ e po en fun vx x Hk1 H1 g1 rx ⟨b, hb, f⟩ => ⟨vx, .ty n, _, _, b, rfl, .ty n, tyX (dp_mono g1.kr _ rx), kit_ty hb, k _ _ _ _ g1 (.bl b) f⟩
theorem kit_ii : kitB "int" "int" = some true := by decide +kernel
theorem kit_bi : kitB "bool" "int" = some true := by decide +kernel
theorem kit_ni : kitB "NoneType" "int" = some false := by decide +kernel
theorem kit_si : kitB "str" "int" = some false := by decide +kernel
theorem kit_li : kitB "list" "int" = some false := by decide +kernel
theorem kit_ti : kitB "tuple" "int" = some false := by decide +kernel
theorem kit_ib : kitB "int" "bool" = some false := by decide +kernel
theorem kit_bb : kitB "bool" "bool" = some true := by decide +kernel
theorem kit_nb : kitB "NoneType" "bool" = some false := by decide +kernel
theorem kit_sb : kitB "str" "bool" = some false := by decide +kernel
theorem kit_lb : kitB "list" "bool" = some false := by decide +kernel
theorem kit_tb : kitB "tuple" "bool" = some false := by decide +kernel
theorem kit_it : kitB "int" "tuple" = some false := by decide +kernel
theorem kit_bt : kitB "bool" "tuple" = some false := by decide +kernel
theorem kit_nt : kitB "NoneType" "tuple" = some false := by decide +kernel
theorem kit_st : kitB "str" "tuple" = some false := by decide +kernel
theorem kit_lt : kitB "list" "tuple" = some false := by decide +kernel
theorem kit_tt : kitB "tuple" "tuple" = some true := by decide +kernel
theorem kit_is : kitB "int" "str" = some false := by decide +kernel
theorem kit_bs : kitB "bool" "str" = some false := by decide +kernel
theorem kit_ns : kitB "NoneType" "str" = some false := by decide +kernel
theorem kit_ss : kitB "str" "str" = some true := by decide +kernel
theorem kit_ls : kitB "list" "str" = some false := by decide +kernel
theorem kit_ts : kitB "tuple" "str" = some false := by decide +kernel
theorem cb_reprD {d : PyData} (h1 : isDisplay d = true) (h2 : d.showable = true) (h3 : d.hasDict = false) (h4 : d.depth ≤ 60) (h5 : d.shown.length ≤ sizeLine) (h : Φ (.str d.shown)) : CbD K p (FwE.rReprD K) [d] Φ := fun vs Hk H Q e po rx k => by
  cases rx with
  | cons rx rr =>
    cases rr
    exact ⟨_, d, rfl, dx_dp d h3 (dp_mono e d rx), h1, h2, h3, h4, h5, k _ _ _ _ (Go.refl e po) (.str _) h⟩
theorem cb_reprB {b : Bool} (h : Φ (.str (if b then "True" else "False"))) : CbD K p (fun xs H Q => ∃ b, xs = [V.bl b] ∧ Q (.str (if b then "True" else "False")) H) [.bool b] Φ := fun vs Hk H Q e po rx k => by
  cases rx with
  | cons rx rr =>
    cases rr
    rw [dp_bl rx]
    exact ⟨b, rfl, k _ _ _ _ (Go.refl e po) (.str _) h⟩
/-! ### calls -/
def SpF (K : PySem.W.Frag) (pre : List PyData → (PyData → Prop) → Prop) : Sp := fun vs H Q _ => ∃ (Hk : Hp) (ds : List PyData) (Φ : PyData → Prop), Ex Hk H ∧ DxAll K Hk vs ds ∧ pre ds Φ ∧ ∀ v d Hk' H', Go none Hk H Hk' H' → Dx K Hk' v d → Φ d → Q v H'
def SpG (K : PySem.W.Frag) (pre : List PyData → (PyData → Prop) → Prop) : Sp := fun vs H Q _ => ∃ (q : Addr) (us : List V) (Hk : Hp) (ds : List PyData) (Φ : PyData → Prop), vs = .ref q :: us ∧ Ex Hk H ∧ PotOk Hk H (some q) ∧ DxAll K Hk us ds ∧ pre ds Φ ∧ ∀ v d Hk' H', Go (some q) Hk H Hk' H' → Dx K Hk' v d → Φ d → Q v H'
theorem e_call {pre : List PyData → (PyData → Prop) → Prop} {E : XK} {ta : TA} (h : WpA K p ta env fun ds => pre ds Φ) : WpE K p (tCall (SpF K pre) [] E ta) env Φ := fun H0 σ Hk H Q e po en k =>
  h H0 σ Hk H _ e po en fun vs ds Hk1 H1 g1 r f => by
    rw [List.append_nil]
    exact ⟨Hk1, ds, Φ, g1.kr, r, f, fun v d Hk' H' g rd f' => k v d Hk' H' (g1.trans (g.lift g1.po)) rd f'⟩
theorem e_callP {pre : List PyData → (PyData → Prop) → Prop} {E : XK} {ta : TA} {i : Nat} (hi : env[i]? = some .pot) (h : WpA K p ta env fun ds => pre ds Φ) : WpE K p (tCall (SpG K pre) [] E (tCons (tVar i) ta)) env Φ := fun H0 σ Hk H Q e po en k => by
  obtain ⟨ov, h1, a, rfl, rfl⟩ := en.slot i _ hi
  refine ⟨.ref a, h1, h H0 σ Hk H _ e po en fun vs ds Hk1 H1 g1 r f => ?_⟩
  show SpG K pre ((V.ref a :: vs) ++ []) H1 Q E
  rw [List.append_nil]
  exact ⟨a, vs, Hk1, ds, Φ, rfl, g1.kr, g1.po, r, f, fun v d Hk' H' g rd f' => k v d Hk' H' (g1.trans g) rd f'⟩
theorem e_callK0 {pre : List PyData → (PyData → Prop) → Prop} {E : XK} {tk : TA} {gV : List V → List V → List V} (gD : List PyData → List PyData) (hg : ∀ (H : Hp) zs ds, DxAll K H zs ds → DxAll K H (gV [] zs) (gD ds)) (h : WpA K p tk env fun ds => pre (gD ds) Φ) : WpE K p (tCallK (SpF K pre) gV E tNil tk) env Φ := fun H0 σ Hk H Q e po en k =>
  h H0 σ Hk H _ e po en fun vs ds Hk1 H1 g1 r f => ⟨Hk1, gD ds, Φ, g1.kr, hg _ _ _ r, f, fun v d Hk' H' g rd f' => k v d Hk' H' (g1.trans (g.lift g1.po)) rd f'⟩
theorem lenF {pre : List PyData → (PyData → Prop) → Prop} {n : Nat} (h : ∀ ds Φ, pre ds Φ → ds.length = n) {vs : List V} {H : Hp} {Q : VK} {E : XK} (s : SpF K pre vs H Q E) : vs.length = n := by
  obtain ⟨Hk, ds, Φ, _, r, f, _⟩ := s
  rw [dpAll_len r]
  exact h ds Φ f
theorem lenG {pre : List PyData → (PyData → Prop) → Prop} {n : Nat} (h : ∀ ds Φ, pre ds Φ → ds.length = n) {vs : List V} {H : Hp} {Q : VK} {E : XK} (s : SpG K pre vs H Q E) : vs.length = n + 1 := by
  obtain ⟨q, us, Hk, ds, Φ, rfl, _, _, r, f, _⟩ := s
  rw [List.length_cons, dpAll_len r, h ds Φ f]
/-! ### statements -/
theorem s_seq {t u : TS} (h : WpS K p t env { O with nx := fun e => WpS K p u e O }) : WpS K p (tSeq t u) env O := fun H0 Hk0 σ Hk H D g en k =>
  h H0 Hk0 σ Hk H { D with nx := u D } g en ⟨fun e σ' Hk' H' g' en' f => f H0 Hk0 σ' Hk' H' D g' en' k, k.rt, k.bk, k.ct, k.rf⟩
theorem s_next (q : O.nx env) : WpS K p tNext env O := fun H0 Hk0 σ Hk H D g en k => k.nx env σ Hk H g en q
theorem s_asg {i : Nat} (h : WpE K p te env fun d => O.nx (env.set i (.dat d))) : WpS K p (tAsg te (gName i)) env O := fun H0 Hk0 σ Hk H D g en k =>
  h H0 σ Hk H _ g.kr g.po en fun v d Hk' H' g' r f => k.nx _ _ Hk' H' (g.trans g') ((en.go g').set r) f
theorem s_asgG {js : List Nat} {gt : TG} (h : WpE K p te env fun d => WpG K p js gt d env O.nx) : WpS K p (tAsg te gt) env O := fun H0 Hk0 σ Hk H D g en k =>
  h H0 σ Hk H _ g.kr g.po en fun v d Hk' H' g' r f => f H0 σ Hk' H' v _ g'.kr g'.po (en.go g') r fun σ' env' en' _ f' => k.nx env' σ' Hk' H' (g.trans g') en' f'
theorem fresh0 {Hk0 H0 Hk H : Hp} {l : Addr} (g : Go p Hk0 H0 Hk H) (h : H l = none) : H0 l = none := by
  cases q : H0 l with
  | none => rfl
  | some o => exact absurd h (g.live (by rw [q]; exact nofun))
theorem s_own {ta : TA} {i : Nat} (h : WpA K p ta env fun ds => ds.length ≤ 100000 ∧ O.nx (env.set i (.own ds))) : WpS K p (tAsg (tLst ta) (gName i)) env O := fun H0 Hk0 σ Hk H D g en k =>
  h H0 σ Hk H _ g.kr g.po en fun vs ds Hk' H' g' r ⟨hz, f⟩ => ⟨sz_of (by rw [dpAll_len r]; exact hz), fun l hl => by
    have gg := g.trans g'
    have hp := pot_ne gg.po hl
    exact k.nx _ _ Hk' _ (gg.mut (fresh0 gg hl) hp (fresh_back gg.kr hl)) ((en.go g').set_own (fresh0 gg hl) hl (fresh_back gg.kr hl) hp r) f⟩
theorem s_pub {t : TS} {i : Nat} {ds : List PyData} (hi : env[i]? = some (.own ds)) (h : WpS K p t (env.set i (.dat (.list ds))) O) : WpS K p t env O := fun H0 Hk0 σ Hk H D g en k => by
  obtain ⟨ov, h1, l, vs, rfl, h0, hk, hp, hl, r⟩ := en.slot i _ hi
  exact h H0 Hk0 σ _ H D (g.pub h0 hp hk hl) (en.publish hi h1 hk hl r) k
theorem s_ret (h : WpE K p te env O.rt) : WpS K p (tRet te) env O := fun H0 Hk0 σ Hk H D g en k =>
  h H0 σ Hk H _ g.kr g.po en fun v d Hk' H' g' r f => k.rt v d Hk' H' (g.trans g') r f
theorem s_retN (h : O.rt .none) : WpS K p tRetN env O := fun H0 Hk0 σ Hk H D g en k => k.rt .non .none Hk H g .non h
theorem s_if {t u : TS} (h : WpT K p tc env fun b => if b = true then WpS K p t env O else WpS K p u env O) : WpS K p (tIfS tc t u) env O := fun H0 Hk0 σ Hk H D g en k =>
  h H0 σ Hk H _ g.kr g.po en fun b Hk' H' g' f => by
    cases b with
    | true => exact (show WpS K p t env O from f) H0 Hk0 σ Hk' H' D (g.trans g') (en.go g') k
    | false => exact (show WpS K p u env O from f) H0 Hk0 σ Hk' H' D (g.trans g') (en.go g') k
theorem s_drop (h : WpE K p te env fun _ => O.nx env) : WpS K p (tDrop te) env O := fun H0 Hk0 σ Hk H D g en k =>
  h H0 σ Hk H _ g.kr g.po en fun v d Hk' H' g' r f => k.nx env σ Hk' H' (g.trans g') (en.go g') f
theorem s_app {i : Nat} {ds : List PyData} (hi : env[i]? = some (.own ds)) (h : WpE K p te env fun d => ds.length < 100000 ∧ O.nx (env.set i (.own (ds ++ [d])))) : WpS K p (tDrop (tBM K "list" rAppend (tVar i) (tCons te tNil))) env O := fun H0 Hk0 σ Hk H D g en k => by
  obtain ⟨ov, h1, l, vs, rfl, h0, hk, hp, hl, r⟩ := en.slot i _ hi
  refine ⟨.ref l, h1, .inl ⟨rfl, vs, SqL.of hl⟩, h H0 σ Hk H _ g.kr g.po en fun v d Hk' H' g' rd ⟨hz, f⟩ => ?_⟩
  have hl' : H' l = some (.lst vs) := g'.rr l _ hp hl
  have hk' : Hk' l = none := g'.nk l (by rw [hl]; exact nofun) hk
  refine ⟨l, vs, v, rfl, rfl, hl', sz_lt (by rw [dpAll_len r]; exact hz), k.nx _ σ Hk' _ ((g.trans g').mut h0 hp hk') ((en.go g').put_own (ws := vs ++ [v]) hi h1 (dpAll_app (dpAll_mono g'.kk ds r) (.cons rd .nil))) f⟩
theorem s_par {i j : Nat} {ta : TA} (h : WpA K p ta env fun ds => ∃ x y, ds = [x, y] ∧ O.nx ((env.set i (.dat x)).set j (.dat y))) : WpS K p (tPar i j ta) env O := fun H0 Hk0 σ Hk H D g en k =>
  h H0 σ Hk H _ g.kr g.po en fun vs ds Hk' H' g' r ⟨x, y, ed, f⟩ => by
    subst ed
    cases r with
    | cons r1 r2 =>
      cases r2 with
      | cons r2 r3 =>
        cases r3
        exact ⟨_, _, rfl, k.nx _ _ Hk' H' (g.trans g') (((en.go g').set r1).set r2) f⟩
/-- a name for a new list that the def may change -/
theorem s_ownF {i : Nat} (h : WpF K p te env fun ds => O.nx (env.set i (.own ds))) : WpS K p (tAsg te (gName i)) env O := fun H0 Hk0 σ Hk H D g en k => by
  refine h H0 σ Hk H _ g.kr g.po en fun l vs ds Hk' H' g' h0 hk hl r f => ?_
  exact k.nx _ _ Hk' H' (g.trans g') (en.add_own (en.go g') (fresh0 g h0) h0 hl hk (pot_ne g.po h0) r) f
/-- two names, the second a list that the def may change -/
theorem s_parOwn {i j : Nat} {tb : TA} (hij : i ≠ j) (h : WpE K p te env fun x => WpA K p tb env fun ds => ds.length ≤ 100000 ∧ O.nx ((env.set i (.dat x)).set j (.own ds))) : WpS K p (tPar i j (tCons te (tCons (tLst tb) tNil))) env O := fun H0 Hk0 σ Hk H D g en k =>
  h H0 σ Hk H _ g.kr g.po en fun v x Hk1 H1 g1 rx h1 => h1 H0 σ Hk1 H1 _ g1.kr g1.po (en.go g1) fun vs ds Hk' H' g' r ⟨hz, f⟩ => ⟨sz_of (by rw [dpAll_len r]; exact hz), fun l hl => by
    have gg := (g.trans g1).trans g'
    have hp := pot_ne gg.po hl
    refine ⟨v, .ref l, rfl, k.nx _ _ Hk' _ (gg.mut (fresh0 gg hl) hp (fresh_back gg.kr hl)) ?_ f⟩
    exact (((en.go g1).go g').set (dp_mono g'.kk x rx)).set_own (fresh0 gg hl) hl (fresh_back gg.kr hl) hp r⟩
theorem s_par3 {i j l : Nat} {ta : TA} (h : WpA K p ta env fun ds => ∃ x y z, ds = [x, y, z] ∧ O.nx (((env.set i (.dat x)).set j (.dat y)).set l (.dat z))) : WpS K p (tPar3 i j l ta) env O := fun H0 Hk0 σ Hk H D g en k =>
  h H0 σ Hk H _ g.kr g.po en fun vs ds Hk' H' g' r ⟨x, y, z, ed, f⟩ => by
    subst ed
    cases r with
    | cons r1 r2 =>
      cases r2 with
      | cons r2 r3 =>
        cases r3 with
        | cons r3 r4 =>
          cases r4
          exact ⟨_, _, _, rfl, k.nx _ _ Hk' H' (g.trans g') ((((en.go g').set r1).set r2).set r3) f⟩
theorem s_aug {i : Nat} {f : Int → Int → Int} {a : Int} (hi : env[i]? = some (.dat (.int a))) (h : WpE K p te env fun d => ∃ b, d = .int b ∧ O.nx (env.set i (.dat (.int (f a b))))) : WpS K p (tAug i te (ipI f)) env O := fun H0 Hk0 σ Hk H D g en k => by
  obtain ⟨ov, h1, v, rfl, r⟩ := en.slot i _ hi
  refine ⟨v, h1, h H0 σ Hk H _ g.kr g.po en fun w d Hk' H' g' rd ⟨b, ed, q⟩ => ?_⟩
  subst ed
  rw [dp_int rd, dp_int r]
  exact ⟨a, b, rfl, rfl, k.nx _ _ Hk' H' (g.trans g') ((en.go g').set (.int _)) q⟩
theorem s_brk (q : O.bk env) : WpS K p tBreak env O := fun H0 Hk0 σ Hk H D g en k => k.bk env σ Hk H g en q
theorem s_cont (q : O.ct env) : WpS K p tCont env O := fun H0 Hk0 σ Hk H D g en k => k.ct env σ Hk H g en q
theorem Go.self {Hk0 H0 Hk H : Hp} (g : Go p Hk0 H0 Hk H) : Go p Hk H0 Hk H := ⟨Ex.refl _, g.kr, g.rr, fun _ _ h => h, g.po⟩
theorem Go.re {Hk0 H0 Hk H Hk' H' : Hp} (g : Go p Hk0 H0 Hk H) (g' : Go p Hk H0 Hk' H') : Go p Hk0 H0 Hk' H' := ⟨g.kk.trans g'.kk, g'.kr, g'.rr, fun a h1 h2 => g'.nk a h1 (g.nk a h1 h2), g'.po⟩
theorem s_while {t : TS} (I : Nat → List Slot → Prop) (m0 : Nat) (h0 : I m0 env) (h : ∀ m e, I m e → WpT K p tc e fun b => if b = true then WpS K p t e { nx := fun e' => ∃ m', m' < m ∧ I m' e', rt := O.rt, bk := O.nx, ct := fun e' => ∃ m', m' < m ∧ I m' e', rf := O.rf } else O.nx e) : WpS K p (tWhile tc t) env O := fun H0 Hk0 σ Hk H D g en k => by
  refine ⟨fun m σ' H' => ∃ Hk' e, Go p Hk0 H0 Hk' H' ∧ En K p H0 Hk' H' σ' e ∧ I m e, ⟨m0, Hk, env, g, en, h0⟩, ?_⟩
  rintro m σ' H' ⟨Hk', e, g', en', hi⟩
  refine h m e hi H0 σ' Hk' H' _ g'.kr g'.po en' fun b Hk2 H2 g2 f => ?_
  cases b with
  | false => exact k.nx e σ' Hk2 H2 (g'.trans g2) (en'.go g2) f
  | true =>
    refine ⟨fun σ3 H3 => ∃ m', m' < m ∧ ∃ Hk' e, Go p Hk0 H0 Hk' H3 ∧ En K p H0 Hk' H3 σ3 e ∧ I m' e, fun σ3 H3 z => z, ?_⟩
    have st : ∀ e' σ3 Hk3 H3, Go p Hk0 H0 Hk3 H3 → En K p H0 Hk3 H3 σ3 e' → (∃ m', m' < m ∧ I m' e') → ∃ m', m' < m ∧ ∃ Hk' e, Go p Hk0 H0 Hk' H3 ∧ En K p H0 Hk' H3 σ3 e ∧ I m' e := fun e' σ3 Hk3 H3 g3 en3 ⟨m', lt, q⟩ => ⟨m', lt, Hk3, e', g3, en3, q⟩
    exact (show WpS K p t e _ from f) H0 Hk0 σ' Hk2 H2 _ (g'.trans g2) (en'.go g2) ⟨st, k.rt, k.nx, st, k.rf⟩
theorem s_for {wi : TI} {gt : TG} {js : List Nat} {t : TS} (h : WpI K p wi env fun xs => ∃ I : Nat → List Slot → Prop, I 0 env ∧
    (∀ (i : Nat) (x : PyData) (e : List Slot), xs[i]? = some x → I i e → WpG K p js gt x e fun e2 => WpS K p t e2 { nx := I (i + 1), rt := O.rt, bk := O.nx, ct := I (i + 1), rf := O.rf }) ∧ ∀ e, I xs.length e → O.nx e) : WpS K p (tFor wi gt t) env O := fun H0 Hk0 σ Hk H D g en k => by
  refine h H0 σ Hk H _ g.kr g.po en fun J xs Hk1 H1 g1 it ⟨I, h0, hs, hd⟩ => ?_
  have gg := g.trans g1
  refine ⟨fun i m σ' H' => m = xs.length - i ∧ i ≤ xs.length ∧ ∃ Hk' e, Go p Hk1 H0 Hk' H' ∧ En K p H0 Hk' H' σ' e ∧ I i e, ⟨xs.length, by omega, by omega, Hk1, env, gg.self, en.go g1, h0⟩, ?_⟩
  rintro i m σ' H' ⟨rfl, hi, Hk', e, g', en', inv⟩
  obtain ⟨o1, o2, o3⟩ := it Hk' H' g'.kk g'.kr g'.po
  by_cases hlt : i < xs.length
  · refine .inr ⟨o1 i hlt, fun σ3 H3 => i + 1 ≤ xs.length ∧ ∃ Hk' e, Go p Hk1 H0 Hk' H3 ∧ En K p H0 Hk' H3 σ3 e ∧ I (i + 1) e, fun σ3 H3 q => ⟨xs.length - (i + 1), by omega, rfl, q⟩, fun x H2 y => ?_⟩
    obtain ⟨d, Hk2, hd', rd, g2⟩ := o3 i x H2 hlt y
    refine hs i d e hd' inv H0 σ' Hk2 H2 x _ g2.kr g2.po (en'.go g2) rd fun σ2 e2 en2 _ f => ?_
    have st : ∀ e' σ3 Hk3 H3, Go p Hk1 H0 Hk3 H3 → En K p H0 Hk3 H3 σ3 e' → I (i + 1) e' → i + 1 ≤ xs.length ∧ ∃ Hk' e, Go p Hk1 H0 Hk' H3 ∧ En K p H0 Hk' H3 σ3 e ∧ I (i + 1) e := fun e' σ3 Hk3 H3 g3 en3 q => ⟨by omega, Hk3, e', g3, en3, q⟩
    exact f H0 Hk1 σ2 Hk2 H2 _ (g'.trans g2) en2 ⟨st, fun v d Hk3 H3 g3 => k.rt v d Hk3 H3 (gg.re g3), fun e' σ3 Hk3 H3 g3 => k.nx e' σ3 Hk3 H3 (gg.re g3), st, fun l vs ds Hk3 H3 g3 => k.rf l vs ds Hk3 H3 (gg.re g3)⟩
  · have hi2 : i = xs.length := by omega
    subst hi2
    exact .inl ⟨o2, k.nx e σ' Hk' H' (gg.re g') en' (hd e inv)⟩
/-! ### a def's body -/
theorem en_start {H0 Hk H : Hp} (N : List Str) {vs : List V} {ds : List PyData} (r : DxAll K Hk vs ds) : En K none H0 Hk H (L2.start N vs) (ds.map .dat ++ List.replicate (N.length - ds.length) .no) := by
  have hl := dpAll_len r
  refine ⟨by unfold L2.start; simp [hl], fun i sl h => ?_, fun i j l a b h => ?_⟩
  · unfold L2.start
    by_cases hi : i < ds.length
    · rw [List.getElem?_append_left (by simpa using hi), List.getElem?_map, List.getElem?_eq_getElem hi] at h
      have e := Option.some.inj h
      subst e
      obtain ⟨v, hv, rv⟩ := dpAll_get r (List.getElem?_eq_getElem hi)
      exact ⟨some v, by rw [List.getElem?_append_left (by simp; omega), List.getElem?_map, hv]; rfl, v, rfl, rv⟩
    · rw [List.getElem?_append_right (by simpa using hi), List.length_map, List.getElem?_replicate] at h
      split at h
      · have e := Option.some.inj h
        subst e
        refine ⟨none, ?_, True.intro⟩
        rw [List.getElem?_append_right (by simp; omega), List.length_map, List.getElem?_replicate, if_pos (by omega)]
      · cases h
  · by_cases hi : i < ds.length
    · rw [List.getElem?_append_left (by simpa using hi), List.getElem?_map, List.getElem?_eq_getElem hi] at h
      cases h
    · rw [List.getElem?_append_right (by simpa using hi), List.length_map, List.getElem?_replicate] at h
      split at h
      · cases h
      · cases h
theorem En.potted {H0 Hk H : Hp} {q : Addr} {σ : List (Option V)} {env : List Slot} (h : En K none H0 Hk H σ env) (hn : ∀ (i : Nat) (ds : List PyData), env[i]? ≠ some (Slot.own ds)) (hp : ∀ i : Nat, env[i]? ≠ some Slot.pot) (hm : ∀ (i : Nat) (S : Mov), env[i]? ≠ some (Slot.mov S)) : En K (some q) H0 Hk H (some (.ref q) :: σ) (.pot :: env) := by
  refine ⟨by rw [List.length_cons, List.length_cons, h.len], fun i sl e => ?_, fun i j l a b e => ?_⟩
  · cases i with
    | zero =>
      cases e
      exact ⟨_, rfl, q, rfl, rfl⟩
    | succ i =>
      obtain ⟨ov, e1, r⟩ := h.slot i sl e
      refine ⟨ov, e1, ?_⟩
      cases sl with
      | no => exact True.intro
      | pot => exact absurd e (hp i)
      | dat d => exact r
      | own ds => exact absurd e (hn i ds)
      | ext S => exact r
      | mov S => exact absurd e (hm i S)
  · cases i with
    | zero => cases e
    | succ i => exact absurd e (hn i a)
theorem bodyF {pre : List PyData → (PyData → Prop) → Prop} {N : List Str} {ts : TS} {vs : List V} {H : Hp} {Q : VK} {E : XK} (s : SpF K pre vs H Q E) (h : ∀ ds Φ, pre ds Φ → WpS K none ts (ds.map .dat ++ List.replicate (N.length - ds.length) .no) ⟨fun _ => Φ .none, Φ, fun _ => False, fun _ => False, fun _ => False⟩) : ts { nx := fun _ H' => Q .non H', rt := Q } (L2.start N vs) H := by
  obtain ⟨Hk, ds, Φ, e, r, f, k⟩ := s
  exact h ds Φ f H Hk _ Hk H _ (Go.refl e True.intro) (en_start N r) ⟨fun _ _ Hk' H' g _ q => k _ _ Hk' H' g .non q, k, fun _ _ _ _ _ _ z => z.elim, fun _ _ _ _ _ _ z => z.elim, fun _ _ _ _ _ _ _ _ _ _ z => z.elim⟩
theorem bodyG {pre : List PyData → (PyData → Prop) → Prop} {n : Str} {N : List Str} {ts : TS} {vs : List V} {H : Hp} {Q : VK} {E : XK} (s : SpG K pre vs H Q E) (h : ∀ q ds Φ, pre ds Φ → WpS K (some q) ts (.pot :: (ds.map .dat ++ List.replicate (N.length - ds.length) .no)) ⟨fun _ => Φ .none, Φ, fun _ => False, fun _ => False, fun _ => False⟩) : ts { nx := fun _ H' => Q .non H', rt := Q } (L2.start (n :: N) vs) H := by
  obtain ⟨q, us, Hk, ds, Φ, rfl, e, po, r, f, k⟩ := s
  have st : L2.start (n :: N) (V.ref q :: us) = some (V.ref q) :: L2.start N us := by
    unfold L2.start
    simp
  rw [st]
  refine h q ds Φ f H Hk _ Hk H _ (Go.refl e po) ((en_start N r).potted (fun i a z => ?_) (fun i z => ?_) (fun i S z => ?_)) ⟨fun _ _ Hk' H' g _ q => k _ _ Hk' H' g .non q, k, fun _ _ _ _ _ _ z => z.elim, fun _ _ _ _ _ _ z => z.elim, fun _ _ _ _ _ _ _ _ _ _ z => z.elim⟩
  all_goals
    rcases List.mem_append.mp (List.mem_of_getElem? z) with m | m
    · obtain ⟨d, _, y⟩ := List.mem_map.mp m
      cases y
    · have y := (List.mem_replicate.mp m).2
      cases y
end
end Fw
namespace FwH
open PySem PySem.Spec PyProof.Rows L2
/-! the head's facts with one more truth over the written part -/
def obsE (n : Nat) (fa : List He.Fa) (fn : List He.DefD) (ex : PySem.W.Frag → Bool) (g : Addr → Option Obj) : He.AlD × Bool := (He.obsD fa fn (He.frG g (He.asD g n)), ex (He.frG g (He.asD g n)))
def hookE (n : Nat) (fa : List He.Fa) (fn : List He.DefD) (ex : PySem.W.Frag → Bool) : PySem.W.Hook where
  α := He.AlD × Bool
  obs := fun s => obsE n fa fn ex s.heap.get?
  val := fun _ => (He.valD fn, true)
  says := fun _ h => ∃ K : PySem.W.Frag, K.In h ∧ He.SaysD fa fn K ∧ ex K = true
  of := fun _ _ e => ⟨_, He.frG_in, congrArg (fun z : He.AlD × Bool => z.1) e, congrArg (fun z : He.AlD × Bool => z.2) e⟩
  keeps := fun _ _ _ ⟨K, inK, c⟩ k => ⟨K, PySem.W.Frag.In.keeps inK k, c⟩
theorem obsE_eq {n : Nat} {fa : List He.Fa} {fn : List He.DefD} {ex : PySem.W.Frag → Bool} {g : Addr → Option Obj} {s : Shared} (h : ∀ a, g a = s.heap.get? a) : obsE n fa fn ex g = (hookE n fa fn ex).obs s := by
  rw [show g = s.heap.get? from funext h]
  rfl
/-- a name of the module that is a built-in of an imported module -/
def bltB (x : Str) (id : String) (K : PySem.W.Frag) : Bool := decide (PySem.W.nsIn K mainGlobals x = some (some (.builtin id)))
theorem bltB_ok {K : PySem.W.Frag} {h : Heap} {mg : Str → Option Value} {x : Str} {id : String} (X : K.In h) (G : h.Ns mainGlobals mg) (c : bltB x id K = true) : mg x = some (.builtin id) := PySem.W.mg_of X G (of_decide_eq_true c)
end FwH
namespace Fw
open PySem PySem.Spec PyProof.Rows L2 Evl
/-! a def of the module by its name, and what it promises -/
abbrev FnP (K : PySem.W.Frag) (x : Str) (st : Stmt) (f : Addr) (fd : FuncData) : Prop := FunD K x x (defArgs st) (defBody st) (defScope st) [] [] f fd
def Dn (K : PySem.W.Frag) (mg : Str → Option Value) (x : Str) (st : Stmt) : Prop := ∃ f fd, FnP K x st f fd ∧ mg x = some (.ref f)
section
variable (P : Program) (w : World) (K : PySem.W.Frag) (mg : Str → Option Value) (base : Heap)
def Has (x : Str) (ps : List Str) (k : Nat) (sp : Sp) : Prop := ∃ f fd, FnOk P w K mg base CX0 k f fd ps sp ∧ mg x = some (.ref f) ∧ PySem.W.keepIn K (.ref f) = true ∧ Binds K fd ps []
def HasG (x : Str) (ps : List Str) (k : Nat) (sp : Sp) : Prop := ∃ f fd, FwG.FnG P w K mg base CX0 k f fd ps sp ∧ mg x = some (.ref f) ∧ PySem.W.keepIn K (.ref f) = true ∧ Binds K fd ps []
/-- called by names alone, in the sequence ks; gV brings the values into the parameters' sequence -/
def HasK (x : Str) (ps ks : List Str) (k : Nat) (sp : Sp) (gV : List V → List V → List V) : Prop := ∃ f fd g, FnOk P w K mg base CX0 k f fd ps sp ∧ mg x = some (.ref f) ∧ PySem.W.keepIn K (.ref f) = true ∧ KBinds K fd ps ks g gV
end
section
variable {P : Program} {w : World} {K : PySem.W.Frag} {mg : Str → Option Value} {base : Heap} {x : Str} {st : Stmt} {ps : List Str} {k : Nat} {sp : Sp}
abbrev BindsAll (x : Str) (st : Stmt) (ps : List Str) : Prop := ∀ (kV doc pm : Value) (an : Option Addr) (cdv ct : Value) (us : List Value), us.length = ps.length → bindArgs (PySem.W.fnOf x x (defArgs st) (defBody st) (defScope st) .none kV doc pm an cdv ct) ⟨us, []⟩ = pure (ps.zip us)
theorem has_of (D : Dn K mg x st) (b : BindsAll x st ps) (ok : ∀ f fd, FnP K x st f fd → FnOk P w K mg base CX0 k f fd ps sp) : Has P w K mg base x ps k sp := by
  obtain ⟨f, fd, F, m⟩ := D
  exact ⟨f, fd, ok f fd F, m, F.kp, F.bindsN b⟩
theorem hasG_of (D : Dn K mg x st) (b : BindsAll x st ps) (ok : ∀ f fd, FnP K x st f fd → FwG.FnG P w K mg base CX0 k f fd ps sp) : HasG P w K mg base x ps k sp := by
  obtain ⟨f, fd, F, m⟩ := D
  exact ⟨f, fd, ok f fd F, m, F.kp, F.bindsN b⟩
/-- no value ahead of the names -/
def onlyK (g : {α : Type} → List α → List α) {α : Type} : List α → List α → List α
  | [], ws => g ws
  | _ :: _, _ => []
/-- the same def, called by names -/
theorem hasK_of {ks : List Str} (g : {α : Type} → List α → List α) (D : Dn K mg x st) (ok : ∀ f fd, FnP K x st f fd → FnOk P w K mg base CX0 k f fd ps sp)
    (b : ∀ (kV doc pm : Value) (an : Option Addr) (cdv ct : Value) (ws : List Value), (g ws).length = ps.length → bindArgs (PySem.W.fnOf x x (defArgs st) (defBody st) (defScope st) .none kV doc pm an cdv ct) ⟨[], ks.zip ws⟩ = pure (ps.zip (g ws)))
    (r : ∀ {zs : List V} {ws : List Value}, Vals zs ws → Vals (g zs) (g ws)) (hne : ps ≠ []) : HasK P w K mg base x ps ks k sp (onlyK g) := by
  obtain ⟨f, fd, F, m⟩ := D
  refine ⟨f, fd, onlyK g, ok f fd F, m, F.kp, ?_⟩
  obtain ⟨oc, od, dV, kV, doc, pm, an, cdv, ct, osl, rfl, lk, hcd, hD, hK⟩ := F.ex
  rcases hD with ⟨_, rfl⟩ | ⟨e, _⟩
  · refine ⟨fun s us ws _ hl => ?_, fun {vs us zs ws} q1 q2 => ?_⟩
    · cases us with
      | nil => exact .of_eq (b kV doc pm an cdv ct ws hl)
      | cons u us => exact absurd (List.length_eq_zero_iff.mp hl.symm) hne
    · cases q1 with
      | nil => exact r q2
      | cons _ _ => exact .nil
  · exact absurd rfl e
theorem Has.mono {j : Nat} (h : Has P w K mg base x ps k sp) (hj : k ≤ j) : Has P w K mg base x ps j sp := by
  obtain ⟨f, fd, ok, r⟩ := h
  exact ⟨f, fd, ok.mono hj, r⟩
end
section
variable {X : Cx} {k : Nat} {ps : List Str} {sp : Sp} {x : Str} {p pos : Pos} {e : Expr} {es : List Expr} {t : TA}
theorem pe_callH (h : Has X.prog X.w X.K X.mg X.base x ps k sp) (hr : Room k X.A) (hg : Gl X x) (ha : PA X (e :: es) t) (nd : (x == ("__debug__" : Str)) = false := by decide) (st : starEach (e :: es) X.env = (false, eval e X.env) :: starEach es X.env := by rfl) (pl : (backTo pos (starEach es X.env)).any (·.1) = false := by rfl) :
    PE X (.Call (.Name x p) (e :: es) [] pos) (tCall sp [] E0 t) := by
  obtain ⟨f, fd, ok, m, kp, b⟩ := h
  exact pe_call ok hr hg m kp b .nil pass0 ha nd st pl
theorem pe_callHG (h : HasG X.prog X.w X.K X.mg X.base x ps k sp) (gA : X.A.guards = some []) (hr : Room k X.A) (hg : Gl X x) (ha : PA X (e :: es) t) (nd : (x == ("__debug__" : Str)) = false := by decide) (st : starEach (e :: es) X.env = (false, eval e X.env) :: starEach es X.env := by rfl) (pl : (backTo pos (starEach es X.env)).any (·.1) = false := by rfl) :
    PE X (.Call (.Name x p) (e :: es) [] pos) (tCall sp [] E0 t) := by
  obtain ⟨f, fd, ok, m, kp, b⟩ := h
  exact FwG.pe_callG ok gA hr hg m kp b .nil pass0 ha nd st pl
theorem pe_callHK {ks : List Str} {kw : List Keyword} {tk : TA} {gV : List V → List V → List V} (h : HasK X.prog X.w X.K X.mg X.base x ps ks k sp gV) (hr : Room k X.A) (hg : Gl X x) (hk : PK X kw tk) (all : (backToKw pos (keywordEach kw X.env)).all (·.1.isSome) = true := by rfl) (keys : (backToKw pos (keywordEach kw X.env)).filterMap (·.1) = ks := by rfl)
    (nd : (x == ("__debug__" : Str)) = false := by decide) (pl : ((backTo pos (starEach [] X.env)).any (·.1) || (backToKw pos (keywordEach kw X.env)).any (·.1.isNone)) = false := by rfl) :
    PE X (.Call (.Name x p) [] kw pos) (tCallK sp gV E0 tNil tk) := by
  obtain ⟨f, fd, g, ok, m, kp, b⟩ := h
  exact FwG.pe_callK0 ok hr hg m kp b pass0 hk all keys nd pl
end
end Fw
namespace Fw
open PySem PySem.Spec PyProof.Rows L2 Evl
/-! the rules again, where the reading's part K' is the known one by unfolding alone -/
section
variable {K K' : PySem.W.Frag} {p : Option Addr} {env : List Slot} {Φ : PyData → Prop} {ta tb te tl : TE} {tt tc : TT} {O : Outs} {Ψ : List PyData → Prop}
theorem e_isi_ {n : String} (h : WpE K p te env fun x => ∃ b, kitB (tyD x) n = some b ∧ Φ (.bool b)) (hK : K' = K := by with_unfolding_all rfl) : WpE K p (tCB (rIsi K') (tCons te (tCons (tC (.ty n)) tNil))) env Φ := by subst hK; exact e_isi h
theorem od_eqD_ {x y : PyData} (sx : SeqAt.shaped x = true) (sy : SeqAt.shaped y = true) (h : Φ (.bool (PyData.eqv x y))) (hK : K' = K := by with_unfolding_all rfl) : OpD K p (rEqD K') x y Φ := by subst hK; exact od_eqD sx sy h
theorem od_neD_ {x y : PyData} (sx : SeqAt.shaped x = true) (sy : SeqAt.shaped y = true) (h : Φ (.bool (!PyData.eqv x y))) (hK : K' = K := by with_unfolding_all rfl) : OpD K p (rNeD K') x y Φ := by subst hK; exact od_neD sx sy h
theorem od_ixT_ {ds : List PyData} {i : Int} {d : PyData} (ha : atI ds i = some d) (h : Φ d) (hK : K' = K := by with_unfolding_all rfl) : OpD K p (rIxT K') (.tuple ds) (.int i) Φ := by subst hK; exact od_ixT ha h
theorem od_ixL_ {ds : List PyData} {i : Int} {d : PyData} (ha : atI ds i = some d) (h : Φ d) (hK : K' = K := by with_unfolding_all rfl) : OpD K p (rIxL K') (.list ds) (.int i) Φ := by subst hK; exact od_ixL ha h
theorem od_catT_ {ds es : List PyData} (hz : ds.length + es.length ≤ 100000) (h : Φ (.tuple (ds ++ es))) (hK : K' = K := by with_unfolding_all rfl) : OpD K p (rCatA K') (.tuple ds) (.tuple es) Φ := by subst hK; exact od_catT hz h
theorem od_times_ {ds : List PyData} {k : Int} (ne : ds ≠ []) (k1 : 1 ≤ k) (k2 : k ≤ 1000) (hz : ds.length ≤ 1000) (h : Φ (.tuple (List.replicate k.toNat ds).flatten)) (hK : K' = K := by with_unfolding_all rfl) : OpD K p (FwE.rTimes K') (.tuple ds) (.int k) Φ := by subst hK; exact od_times ne k1 k2 hz h
theorem e_slT_ {tl th : TO} (h : WpE K p te env fun x => WpO K p tl env fun l => WpO K p th env fun u => ∃ ds, x = .tuple ds ∧ Φ (.tuple (cutD ds l u))) (hK : K' = K := by with_unfolding_all rfl) : WpE K p (tSl (rSlA K') te tl th) env Φ := by
  subst hK
  exact e_sl (h.mono fun x hx => fun H0 σ Hk H Q e po en k => hx H0 σ Hk H Q e po en fun l Hk1 H1 g1 h1 => k l Hk1 H1 g1 fun H0 σ Hk H Q e po en k => h1 H0 σ Hk H Q e po en fun u Hk2 H2 g2 ⟨ds, ed, f⟩ => k u Hk2 H2 g2 (by subst ed; exact ud_slT f))
theorem cb_len_ {r : List V → Hp → VK → Prop} {ds : List PyData} {x : PyData} (hx : x = .tuple ds ∨ x = .list ds) (h : Φ (.int ds.length)) (hr : r = fun xs H Q => ∃ p ys, xs = [.ref p] ∧ (SqL K H p ys ∨ SqT K H p ys) ∧ Q (.int ys.length) H := by with_unfolding_all rfl) : CbD K p r [x] Φ := by
  rcases hx with rfl | rfl
  · exact cb_len_tup hr h
  · exact cb_len_lst hr h
theorem cb_sum_ {ds : List PyData} (ns : List Int) (hd : ds = ns.map .int) (h : Φ (.int ns.sum)) (hK : K' = K := by with_unfolding_all rfl) : CbD K p (rSum K') [.list ds] Φ := by subst hK; subst hd; exact cb_sum h
theorem cb_all_ {ds : List PyData} (bs : List Bool) (hd : ds = bs.map .bool) (h : Φ (.bool (bs.all id))) (hK : K' = K := by with_unfolding_all rfl) : CbD K p (rAll K') [.list ds] Φ := by subst hK; subst hd; exact cb_all h
theorem cb_list_ {r : List V → Hp → VK → Prop} {ds : List PyData} {x : PyData} (hx : x = .tuple ds ∨ x = .list ds) (h : Φ (.list ds)) (hr : r = fun xs H Q => ∃ p ys, xs = [V.ref p] ∧ (SqL K H p ys ∨ SqT K H p ys) ∧ ∀ l, H l = none → Q (.ref l) (upd H l (.lst ys)) := by with_unfolding_all rfl) : CbD K p r [x] Φ := by subst hr; exact cb_list hx h
theorem cb_tuple_ {r : List V → Hp → VK → Prop} {ds : List PyData} {x : PyData} (hx : x = .tuple ds ∨ x = .list ds) (h : Φ (.tuple ds)) (hr : r = fun xs H Q => ∃ p ys, xs = [V.ref p] ∧ ((SqL K H p ys ∧ ∀ l, H l = none → Q (.ref l) (upd H l (.tup ys))) ∨ (SqT K H p ys ∧ Q (.ref p) H)) := by with_unfolding_all rfl) : CbD K p r [x] Φ := by subst hr; exact cb_tuple hx h
theorem cb_reprD_ {d : PyData} (h1 : isDisplay d = true) (h2 : d.showable = true) (h3 : d.hasDict = false) (h4 : d.depth ≤ 60) (h5 : d.shown.length ≤ sizeLine) (h : Φ (.str d.shown)) (hK : K' = K := by with_unfolding_all rfl) : CbD K p (FwE.rReprD K') [d] Φ := by subst hK; exact cb_reprD h1 h2 h3 h4 h5 h
theorem i_list_ (h : WpE K p tl env fun d => ∃ xs, d = .list xs ∧ Ψ xs) (hK : K' = K := by with_unfolding_all rfl) : WpI K p (iList K' tl) env Ψ := by subst hK; exact i_list h
theorem i_tup_ (h : WpE K p tl env fun d => ∃ xs, d = .tuple xs ∧ Ψ xs) (hK : K' = K := by with_unfolding_all rfl) : WpI K p (iTup K' tl) env Ψ := by subst hK; exact i_tup h
theorem i_zipT_ {ta : TA} (h : WpA K p ta env fun ds => ∃ xs ys, ds = [.tuple xs, .tuple ys] ∧ Ψ (zipD xs ys)) (hK : K' = K := by with_unfolding_all rfl) : WpI K p (RZ.iZipA K' ta) env Ψ := by subst hK; exact i_zipT h
theorem i_zipL_ {ta : TA} (h : WpA K p ta env fun ds => ∃ xs ys, ds = [.list xs, .list ys] ∧ Ψ (zipD xs ys)) (hK : K' = K := by with_unfolding_all rfl) : WpI K p (RZ.iZipA K' ta) env Ψ := by subst hK; exact i_zipL h
theorem i_enumT_ {ta : TA} (h : WpA K p ta env fun ds => ∃ xs, ds = [.tuple xs] ∧ Ψ (enumD xs)) (hK : K' = K := by with_unfolding_all rfl) : WpI K p (FwE.iEnumT K' ta) env Ψ := by subst hK; exact i_enumT h
theorem i_enumL_ {ta : TA} (h : WpA K p ta env fun ds => ∃ xs, ds = [.list xs] ∧ Ψ (enumD xs)) (hK : K' = K := by with_unfolding_all rfl) : WpI K p (iEnum K' ta) env Ψ := by subst hK; exact i_enumL h
theorem g_tup_ {js : List Nat} {n : Nat} {t : TGs} {d : PyData} {Ψ : List Slot → Prop} (ds : List PyData) (hd : d = .tuple ds) (hn : ds.length = n) (q : WpGs K p js t ds env Ψ) (hK : K' = K := by with_unfolding_all rfl) : WpG K p js (gTup K' n t) d env Ψ := by subst hK; exact g_tup ds hd hn q
theorem s_app_ {i : Nat} {ds : List PyData} (hi : env[i]? = some (.own ds)) (h : WpE K p te env fun d => ds.length < 100000 ∧ O.nx (env.set i (.own (ds ++ [d])))) (hK : K' = K := by with_unfolding_all rfl) : WpS K p (tDrop (tBM K' "list" rAppend (tVar i) (tCons te tNil))) env O := by subst hK; exact s_app hi h
end
end Fw
namespace Fw
open PySem PySem.Spec PyProof.Rows L2 Evl
/-! isinstance, by the form of the data -/
theorem kd_none_int  : kitB (tyD PyData.none) "int" = some false := by show kitB "NoneType" "int" = some false; decide +kernel
theorem kd_none_bool  : kitB (tyD PyData.none) "bool" = some false := by show kitB "NoneType" "bool" = some false; decide +kernel
theorem kd_none_str  : kitB (tyD PyData.none) "str" = some false := by show kitB "NoneType" "str" = some false; decide +kernel
theorem kd_none_list  : kitB (tyD PyData.none) "list" = some false := by show kitB "NoneType" "list" = some false; decide +kernel
theorem kd_none_tuple  : kitB (tyD PyData.none) "tuple" = some false := by show kitB "NoneType" "tuple" = some false; decide +kernel
theorem kd_bool_int {b : Bool} : kitB (tyD (PyData.bool b)) "int" = some true := by show kitB "bool" "int" = some true; decide +kernel
theorem kd_bool_bool {b : Bool} : kitB (tyD (PyData.bool b)) "bool" = some true := by show kitB "bool" "bool" = some true; decide +kernel
theorem kd_bool_str {b : Bool} : kitB (tyD (PyData.bool b)) "str" = some false := by show kitB "bool" "str" = some false; decide +kernel
theorem kd_bool_list {b : Bool} : kitB (tyD (PyData.bool b)) "list" = some false := by show kitB "bool" "list" = some false; decide +kernel
theorem kd_bool_tuple {b : Bool} : kitB (tyD (PyData.bool b)) "tuple" = some false := by show kitB "bool" "tuple" = some false; decide +kernel
theorem kd_int_int {i : Int} : kitB (tyD (PyData.int i)) "int" = some true := by show kitB "int" "int" = some true; decide +kernel
theorem kd_int_bool {i : Int} : kitB (tyD (PyData.int i)) "bool" = some false := by show kitB "int" "bool" = some false; decide +kernel
theorem kd_int_str {i : Int} : kitB (tyD (PyData.int i)) "str" = some false := by show kitB "int" "str" = some false; decide +kernel
theorem kd_int_list {i : Int} : kitB (tyD (PyData.int i)) "list" = some false := by show kitB "int" "list" = some false; decide +kernel
theorem kd_int_tuple {i : Int} : kitB (tyD (PyData.int i)) "tuple" = some false := by show kitB "int" "tuple" = some false; decide +kernel
theorem kd_str_int {s : Str} : kitB (tyD (PyData.str s)) "int" = some false := by show kitB "str" "int" = some false; decide +kernel
theorem kd_str_bool {s : Str} : kitB (tyD (PyData.str s)) "bool" = some false := by show kitB "str" "bool" = some false; decide +kernel
theorem kd_str_str {s : Str} : kitB (tyD (PyData.str s)) "str" = some true := by show kitB "str" "str" = some true; decide +kernel
theorem kd_str_list {s : Str} : kitB (tyD (PyData.str s)) "list" = some false := by show kitB "str" "list" = some false; decide +kernel
theorem kd_str_tuple {s : Str} : kitB (tyD (PyData.str s)) "tuple" = some false := by show kitB "str" "tuple" = some false; decide +kernel
theorem kd_list_int {xs : List PyData} : kitB (tyD (PyData.list xs)) "int" = some false := by show kitB "list" "int" = some false; decide +kernel
theorem kd_list_bool {xs : List PyData} : kitB (tyD (PyData.list xs)) "bool" = some false := by show kitB "list" "bool" = some false; decide +kernel
theorem kd_list_str {xs : List PyData} : kitB (tyD (PyData.list xs)) "str" = some false := by show kitB "list" "str" = some false; decide +kernel
theorem kd_list_list {xs : List PyData} : kitB (tyD (PyData.list xs)) "list" = some true := by show kitB "list" "list" = some true; decide +kernel
theorem kd_list_tuple {xs : List PyData} : kitB (tyD (PyData.list xs)) "tuple" = some false := by show kitB "list" "tuple" = some false; decide +kernel
theorem kd_tuple_int {xs : List PyData} : kitB (tyD (PyData.tuple xs)) "int" = some false := by show kitB "tuple" "int" = some false; decide +kernel
theorem kd_tuple_bool {xs : List PyData} : kitB (tyD (PyData.tuple xs)) "bool" = some false := by show kitB "tuple" "bool" = some false; decide +kernel
theorem kd_tuple_str {xs : List PyData} : kitB (tyD (PyData.tuple xs)) "str" = some false := by show kitB "tuple" "str" = some false; decide +kernel
theorem kd_tuple_list {xs : List PyData} : kitB (tyD (PyData.tuple xs)) "list" = some false := by show kitB "tuple" "list" = some false; decide +kernel
theorem kd_tuple_tuple {xs : List PyData} : kitB (tyD (PyData.tuple xs)) "tuple" = some true := by show kitB "tuple" "tuple" = some true; decide +kernel
end Fw
namespace Fw
open PySem PySem.Spec PyProof.Rows L2 Evl
/-! slices of data -/
theorem cut_from {xs : List PyData} {i : Int} (h : 0 ≤ i) : cutD xs (some i) none = xs.drop i.toNat := by
  unfold cutD
  have e : HT.sIx xs.length 0 (some i) = min i.toNat xs.length := if_neg (show ¬ i < 0 by omega)
  rw [e, HT.sIx_none]
  by_cases z : i.toNat ≤ xs.length
  · rw [Nat.min_eq_left z, ← List.length_drop, List.take_length]
  · rw [Nat.min_eq_right (by omega), Nat.sub_self, List.take_zero, List.drop_eq_nil_of_le (by omega)]
theorem cut_to {xs : List PyData} {i : Int} (h : 0 ≤ i) : cutD xs none (some i) = xs.take i.toNat := by
  unfold cutD
  have e : HT.sIx xs.length xs.length (some i) = min i.toNat xs.length := if_neg (show ¬ i < 0 by omega)
  rw [e, HT.sIx_none, List.drop_zero, Nat.sub_zero, ← List.take_eq_take_min]
theorem cut_init {xs : List PyData} : cutD xs none (some (-1)) = xs.dropLast := by
  unfold cutD
  have e : HT.sIx xs.length xs.length (some (-1)) = (-1 + (xs.length : Int)).toNat := by
    show (if (-1 : Int) < 0 then (-1 + (xs.length : Int)).toNat else min (-1 : Int).toNat xs.length) = _
    rw [if_pos (by decide)]
  rw [e, HT.sIx_none, List.drop_zero, Nat.sub_zero, List.dropLast_eq_take]
  congr 1
  omega
theorem ix_ints {ps : List Int} {i : Int} (h0 : 0 ≤ i) (h1 : i.toNat < ps.length) : atI (ps.map PyData.int) i = some (.int ps[i.toNat]) := by
  unfold atI
  have e : ixN (ps.map PyData.int).length i = some i.toNat := by
    unfold ixN
    rw [List.length_map, if_pos h0, if_pos (by omega)]
  rw [e]
  show (ps.map PyData.int)[i.toNat]? = _
  rw [List.getElem?_map, List.getElem?_eq_getElem h1]
  rfl
end Fw
namespace Fw
open PySem PySem.Spec PyProof.Rows L2 Evl
section
variable {K : PySem.W.Frag} {p : Option Addr} {env : List Slot} {O : Outs}
/-- what holds behind a statement, said by hand -/
theorem s_cut {t : TS} (I : List Slot → Prop) (h : WpS K p t env { O with nx := I }) (k : ∀ e, I e → O.nx e) : WpS K p t env O := fun H0 Hk0 σ Hk H D g en ends =>
  h H0 Hk0 σ Hk H D g en ⟨fun e σ' Hk' H' g' en' q => ends.nx e σ' Hk' H' g' en' (k e q), ends.rt, ends.bk, ends.ct, ends.rf⟩
end
end Fw
namespace Fw
open PySem PySem.Spec PyProof.Rows L2 Evl
/-! the list of two ints that draws change -/
section
variable {K K' : PySem.W.Frag} {p : Option Addr} {env : List Slot} {Φ : PyData → Prop} {te : TE} {O : Outs}
theorem e_pot0 {i : Nat} (hi : env[i]? = some .pot) (h : ∀ a : Int, 0 ≤ a → Φ (.int a)) (hK : K' = K := by with_unfolding_all rfl) : WpE K p (tOp (rIxL K') (tVar i) (tC (.int 0))) env Φ := fun H0 σ Hk H Q e po en k => by
  subst hK
  obtain ⟨ov, h1, q, rfl, rfl⟩ := en.slot i _ hi
  obtain ⟨h2, a, b, h3, h4⟩ := po
  exact ⟨.ref q, h1, q, _, 0, .int a, rfl, rfl, SqL.of h3, rfl, k _ (.int a) Hk H (Go.refl e ⟨h2, a, b, h3, h4⟩) (.int a) (h a h4.1)⟩
theorem e_pot1 {i : Nat} (hi : env[i]? = some .pot) (h : ∀ b : Int, 0 ≤ b → b < 4294967296 → Φ (.int b)) (hK : K' = K := by with_unfolding_all rfl) : WpE K p (tOp (rIxL K') (tVar i) (tC (.int 1))) env Φ := fun H0 σ Hk H Q e po en k => by
  subst hK
  obtain ⟨ov, h1, q, rfl, rfl⟩ := en.slot i _ hi
  obtain ⟨h2, a, b, h3, h4⟩ := po
  exact ⟨.ref q, h1, q, _, 1, .int b, rfl, rfl, SqL.of h3, rfl, k _ (.int b) Hk H (Go.refl e ⟨h2, a, b, h3, h4⟩) (.int b) (h b h4.2.1 h4.2.2)⟩
theorem Go.pot {Hk H : Hp} {q : Addr} {a b : Int} (e : Ex Hk H) (po : PotOk Hk H (some q)) (h : PotB a b) : Go (some q) Hk H Hk (upd H q (.lst [.int a, .int b])) :=
  ⟨Ex.refl _, Ex.mut e po.1, fun x o n hx => by
    rw [upd_ne (fun z => n (by rw [z]))]
    exact hx, fun _ _ h => h, po.1, a, b, upd_same, h⟩
theorem s_pot1 {i : Nat} (hi : env[i]? = some .pot) (h : WpE K p te env fun d => ∃ b : Int, d = .int b ∧ 0 ≤ b ∧ b < 4294967296 ∧ O.nx env) : WpS K p (tAsg te (gSub (tVar i) (tC (.int 1)) rSetL)) env O := fun H0 Hk0 σ Hk H D g en k =>
  h H0 σ Hk H _ g.kr g.po en fun v d Hk' H' g' r ⟨b, ed, b0, b1, q⟩ => by
    subst ed
    rw [dp_int r]
    have en' := en.go g'
    obtain ⟨ov, h1, x, rfl, rfl⟩ := en'.slot i _ hi
    obtain ⟨h2, a, c, h3, h4⟩ := g'.po
    have gg := Go.pot g'.kr ⟨h2, a, c, h3, h4⟩ (show PotB a b from ⟨h4.1, b0, b1⟩)
    exact ⟨.ref x, h1, x, _, 1, 1, rfl, rfl, h3, rfl, k.nx env σ Hk' _ ((g.trans g').trans gg) (en'.go gg) q⟩
theorem s_potDig {i j : Nat} (hi : env[i]? = some .pot) (hij : i ≠ j) (h : WpE K p te env fun d => ∃ a b : Int, d = .tuple [.int a, .int b] ∧ 0 ≤ a ∧ O.nx (env.set j (.dat (.int b)))) (hK : K' = K := by with_unfolding_all rfl) : WpS K p (tAsg te (gTup K' 2 (gCons (gSub (tVar i) (tC (.int 0)) rSetL) (gCons (gName j) gNil)))) env O := fun H0 Hk0 σ Hk H D g en k => by
  subst hK
  refine h H0 σ Hk H _ g.kr g.po en fun v d Hk' H' g' r ⟨a, b, ed, a0, q⟩ => ?_
  subst ed
  obtain ⟨t, xs, rfl, hT, rx⟩ := dp_tup r
  cases rx with
  | cons r1 r2 =>
    cases r2 with
    | cons r2 r3 =>
      cases r3
      cases r1
      cases r2
      have en' := en.go g'
      obtain ⟨ov, h1, x, rfl, rfl⟩ := en'.slot i _ hi
      obtain ⟨h2, a', c, h3, h4⟩ := g'.po
      have gg := Go.pot g'.kr ⟨h2, a', c, h3, h4⟩ (show PotB a c from ⟨a0, h4.2.1, h4.2.2⟩)
      exact ⟨t, _, rfl, ex_t g'.kr hT, rfl, .int a, _, rfl, .ref x, h1, x, _, 0, 0, rfl, rfl, h3, rfl, .int b, [], rfl, rfl, k.nx _ _ Hk' _ ((g.trans g').trans gg) ((en'.go gg).set (.int b)) q⟩
theorem cb_divmod {r : List V → Hp → VK → Prop} {i j : Int} (c : CDiv i j) (h : Φ (.tuple [.int (i / j), .int (i % j)])) (hr : r = fun xs H Q => ∃ i j, xs = [.int i, .int j] ∧ CDiv i j ∧ ∀ p, H p = none → Q (.ref p) (upd H p (.tup [.int (i / j), .int (i % j)])) := by with_unfolding_all rfl) : CbD K p r [.int i, .int j] Φ := fun vs Hk H Q e po rx k => by
  subst hr
  cases rx with
  | cons r1 rr =>
    cases rr with
    | cons r2 rr =>
      cases rr
      cases r1
      cases r2
      exact ⟨i, j, rfl, c, fun q hq => k _ _ _ _ (Go.new e po hq) (.tup (SqT.of upd_same) (.cons (.int _) (.cons (.int _) .nil))) h⟩
end
end Fw
namespace Fw
open PySem PySem.Spec PyProof.Rows L2 Evl
/-! defs that hand back a new list, which the caller may change -/
def SpN (K : PySem.W.Frag) (pre : List PyData → (List PyData → Prop) → Prop) : Sp := fun vs H Q _ => ∃ (Hk : Hp) (ds : List PyData) (Φ : List PyData → Prop), Ex Hk H ∧ DxAll K Hk vs ds ∧ pre ds Φ ∧
  ∀ l us es Hk' H', Go none Hk H Hk' H' → H l = none → Hk' l = none → H' l = some (.lst us) → DxAll K Hk' us es → Φ es → Q (.ref l) H'
section
variable {K K' : PySem.W.Frag} {p : Option Addr} {env : List Slot} {Φ : PyData → Prop} {te : TE} {O : Outs}
theorem s_retF (h : WpF K p te env O.rf) : WpS K p (tRet te) env O := fun H0 Hk0 σ Hk H D g en k =>
  h H0 σ Hk H _ g.kr g.po en fun l vs ds Hk' H' g' h0 hk hl r f => k.rf l vs ds Hk' H' (g.trans g') (fresh0 g h0) hk hl r f
/-- an own list is handed back -/
theorem s_retO {i : Nat} {ds : List PyData} (hi : env[i]? = some (.own ds)) (q : O.rf ds) : WpS K p (tRet (tVar i)) env O := fun H0 Hk0 σ Hk H D g en k => by
  obtain ⟨ov, h1, l, vs, rfl, h0, hk, hp, hl, r⟩ := en.slot i _ hi
  exact ⟨.ref l, h1, k.rf l vs ds Hk H g h0 hk hl r q⟩
theorem bodyN {pre : List PyData → (List PyData → Prop) → Prop} {N : List Str} {ts : TS} {vs : List V} {H : Hp} {Q : VK} {E : XK} (s : SpN K pre vs H Q E) (h : ∀ ds Φ, pre ds Φ → WpS K none ts (ds.map .dat ++ List.replicate (N.length - ds.length) .no) ⟨fun _ => False, fun _ => False, fun _ => False, fun _ => False, Φ⟩) : ts { nx := fun _ H' => Q .non H', rt := Q } (L2.start N vs) H := by
  obtain ⟨Hk, ds, Φ, e, r, f, k⟩ := s
  exact h ds Φ f H Hk _ Hk H _ (Go.refl e True.intro) (en_start N r) ⟨fun _ _ _ _ _ _ z => z.elim, fun _ _ _ _ _ _ z => z.elim, fun _ _ _ _ _ _ z => z.elim, fun _ _ _ _ _ _ z => z.elim, fun l us es Hk' H' g h0 hk hl r q => k l us es Hk' H' g h0 hk hl r q⟩
theorem lenN {pre : List PyData → (List PyData → Prop) → Prop} {n : Nat} (h : ∀ ds Φ, pre ds Φ → ds.length = n) {vs : List V} {H : Hp} {Q : VK} {E : XK} (s : SpN K pre vs H Q E) : vs.length = n := by
  obtain ⟨Hk, ds, Φ, _, r, f, _⟩ := s
  rw [dpAll_len r]
  exact h ds Φ f
theorem f_call {pre : List PyData → (List PyData → Prop) → Prop} {E : XK} {ta : TA} {Ψ : List PyData → Prop} (h : WpA K p ta env fun ds => pre ds Ψ) : WpF K p (tCall (SpN K pre) [] E ta) env Ψ := fun H0 σ Hk H Q e po en k =>
  h H0 σ Hk H _ e po en fun vs ds Hk1 H1 g1 r f => by
    rw [List.append_nil]
    exact ⟨Hk1, ds, Ψ, g1.kr, r, f, fun l us es Hk' H' g h0 hk hl rd f' => k l us es Hk' H' (g1.trans (g.lift g1.po)) (fresh0 g1 h0) hk hl rd f'⟩
/-- the pot is made: a call with a new list of two ints -/
theorem e_callPot {pre : List PyData → (PyData → Prop) → Prop} {E : XK} (h : WpF K none te env fun ds => ∃ a b : Int, ds = [.int a, .int b] ∧ PotB a b ∧ pre [] Φ) : WpE K none (tCall (SpG K pre) [] E (tCons te tNil)) env Φ := fun H0 σ Hk H Q e po en k =>
  h H0 σ Hk H _ e po en fun l vs ds Hk1 H1 g1 h0 hk hl r ⟨a, b, ed, pb, f⟩ => by
    subst ed
    have ev : vs = [.int a, .int b] := by
      cases r with
      | cons r1 r2 =>
        cases r2 with
        | cons r2 r3 =>
          cases r3
          cases r1
          cases r2
          rfl
    subst ev
    refine ⟨l, [], Hk1, [], Φ, rfl, g1.kr, ⟨hk, a, b, hl, pb⟩, .nil, f, fun v d Hk' H' g rd f' => k v d Hk' H' ?_ rd f'⟩
    refine ⟨g1.kk.trans g.kk, g.kr, fun x o _ hx => ?_, fun x hx hn => ?_, True.intro⟩
    · have hx1 := g1.rr x o (fun z => nomatch z) hx
      exact g.rr x o (fun z => by cases z; rw [h0] at hx; cases hx) hx1
    · exact g.nk x (g1.live hx) (g1.nk x hx hn)
end
/-- the law's own def -/
abbrev pre_law : List PyData → (PyData → Prop) → Prop := fun ds Φ => ∃ ns : List Int, ds = [.list (ns.map .int)] ∧ ns.length ≤ 63 ∧ Φ (.bool true)
theorem lawProm {K : PySem.W.Frag} {H : Hp} {a : Addr} {ns : List Int} (hn : ns.length ≤ 63) (h : SqL K H a (ns.map V.int)) : SpF K pre_law [.ref a] H (fun v _ => v = .bl true) fun _ _ _ => False := by
  refine ⟨H, [.list (ns.map .int)], fun d => d = .bool true, Ex.refl _, .cons (.lst h ?_) .nil, ⟨ns, rfl, hn, rfl⟩, fun v d Hk' H' g rd e => ?_⟩
  · induction ns with
    | nil => exact .nil
    | cons n ns ih => exact .cons (.int n) (ints_all ns)
  · subst e
    exact dp_bl rd
where
  ints_all : ∀ ns : List Int, DxAll K H (ns.map V.int) (ns.map .int)
    | [] => .nil
    | n :: ns => .cons (.int n) (ints_all ns)
end Fw
/-! order of data, sorted of data, as rules over data -/
namespace FwS
open PySem PySem.Spec PyProof.Rows L2
def rOrd (K : PySem.W.Frag) (f : PyData → PyData → Bool) : R2 := fun x y H Q => ∃ d e, Dp K H x d ∧ Dp K H y e ∧ PySem.W.alike d e = true ∧ d ≠ .none ∧ d.depth ≤ 60 ∧ Q (.bl (f d e)) H
section
variable {X : Cx}
theorem roomD {d e : PyData} (hd : d.depth ≤ 60) (hu : X.A.units + 64 < cLine) : X.A.units + min d.depth e.depth < cLine := by
  have := Nat.min_le_left d.depth e.depth
  omega
theorem op_ltD (hu : X.A.units + 64 < cLine) : OpR X (compareOp .Lt) (rOrd X.K PySem.W.dataLt) := fun pins s σ H x y v u Q I rx ry h => by
  obtain ⟨d, e, hd, he, al, nn, dp, q⟩ := h
  obtain ⟨_, r1⟩ := Dp.reads I d x v hd rx
  obtain ⟨_, r2⟩ := Dp.reads I e y u he ry
  exact PySem.W.lt_data r1 r2 al nn (roomD dp hu) ⟨.bl _, H, I, rfl, q⟩
theorem op_gtD (hu : X.A.units + 64 < cLine) : OpR X (compareOp .Gt) (rOrd X.K fun d e => PySem.W.dataLt e d) := fun pins s σ H x y v u Q I rx ry h => by
  obtain ⟨d, e, hd, he, al, nn, dp, q⟩ := h
  obtain ⟨_, r1⟩ := Dp.reads I d x v hd rx
  obtain ⟨_, r2⟩ := Dp.reads I e y u he ry
  exact PySem.W.gt_data r1 r2 al nn (roomD dp hu) ⟨.bl _, H, I, rfl, q⟩
theorem op_leD (hu : X.A.units + 64 < cLine) : OpR X (compareOp .LtE) (rOrd X.K fun d e => !PySem.W.dataLt e d) := fun pins s σ H x y v u Q I rx ry h => by
  obtain ⟨d, e, hd, he, al, nn, dp, q⟩ := h
  obtain ⟨_, r1⟩ := Dp.reads I d x v hd rx
  obtain ⟨_, r2⟩ := Dp.reads I e y u he ry
  exact PySem.W.le_data r1 r2 al nn (roomD dp hu) ⟨.bl _, H, I, rfl, q⟩
theorem op_geD (hu : X.A.units + 64 < cLine) : OpR X (compareOp .GtE) (rOrd X.K fun d e => !PySem.W.dataLt d e) := fun pins s σ H x y v u Q I rx ry h => by
  obtain ⟨d, e, hd, he, al, nn, dp, q⟩ := h
  obtain ⟨_, r1⟩ := Dp.reads I d x v hd rx
  obtain ⟨_, r2⟩ := Dp.reads I e y u he ry
  exact PySem.W.ge_data r1 r2 al nn (roomD dp hu) ⟨.bl _, H, I, rfl, q⟩
/-- items that stand for data, in the heap's words and in the layer's -/
abbrev Both (R : V → PyData → Prop) : Value → PyData → Prop := fun v d => ∃ x, RelV x v ∧ R x d
theorem both_of {R : V → PyData → Prop} : ∀ {xs : List V} {us : List Value} {ds : List PyData}, Vals xs us → Paired R xs ds → PySem.W.EachIs (Both R) us ds
  | _, _, _, .nil, h => by
    cases h
    exact .nil
  | _, _, _, .cons r rr, h => by
    cases h with
    | cons h t => exact .cons ⟨_, r, h⟩ (both_of rr t)
theorem of_both {R : V → PyData → Prop} : ∀ {us : List Value} {ds : List PyData}, PySem.W.EachIs (Both R) us ds → ∃ xs, Vals xs us ∧ Paired R xs ds
  | _, _, .nil => ⟨[], .nil, .nil⟩
  | _, _, .cons ⟨x, r, h⟩ t => by
    obtain ⟨xs, rr, hh⟩ := of_both t
    exact ⟨x :: xs, .cons r rr, .cons h hh⟩
theorem lenP {R : V → PyData → Prop} : ∀ {xs : List V} {ds : List PyData}, Paired R xs ds → xs.length = ds.length
  | _, _, .nil => rfl
  | _, _, .cons _ t => congrArg Nat.succ (lenP t)
def sortD (ds : List PyData) : List PyData := ds.mergeSort (PySem.W.dataLe false fun d : PyData => d)
def rSortD (K : PySem.W.Frag) : List V → Hp → VK → Prop := fun vs H Q => ∃ (a : Addr) (xs : List V) (ds : List PyData) (R : V → PyData → Prop), vs = [.ref a] ∧ SqL K H a xs ∧ Paired R xs ds ∧ (∀ x d, R x d → Dp K H x d) ∧ PySem.W.AllAlike ds ∧ PySem.W.Sortable ds ∧ (∀ d ∈ ds, d.depth ≤ 60) ∧
  ∀ ys p, Paired R ys (sortD ds) → H p = none → Q (.ref p) (upd H p (.lst ys))
theorem cr_sortedD (hu : X.A.units + 64 < cLine) : CallR X (.builtin "sorted") (rSortD X.K) := fun pins s σ H vs us Q I r h => by
  obtain ⟨a, xs, ds, R, rfl, hs, hd, hR, al, so, dp, q⟩ := h
  obtain ⟨u, rfl, ru⟩ := vals1 r
  cases ru
  obtain ⟨its, rv, hl, hz⟩ := I.list hs
  have lenD : xs.length = ds.length := lenP hd
  have bo := both_of rv hd
  have rd : PySem.W.EachIs (fun v d => ∃ as, Reads s.heap v d as) its ds := bo.mono fun v d ⟨x, rx, hx⟩ => Dp.reads I d x v (hR x d hx) rx
  have e0 : ds.map (fun d : PyData => d) = ds := List.map_id' ds
  refine PySem.W.sorted_data (enc := fun d : PyData => d) hl.isList bo rd (by rw [e0]; exact al) (by rw [e0]; exact so) (by rw [← lenD]; exact hz) (fun d m => ?_) fun out ho hb => ?_
  · have := dp d m
    show X.A.units + 2 + d.depth < cLine
    omega
  · obtain ⟨ys, ry, hy⟩ := of_both hb
    obtain ⟨n, hn⟩ := sortedAll_at s.heap its out.toArray
    have hd0 : H (s.heap.objs.size + 1) = none := I.hok.fresh (Nat.le_succ _)
    refine ⟨.ref (s.heap.objs.size + 1), upd H (s.heap.objs.size + 1) (.lst ys), I.laid (t' := s.toks) (fun b o e => sortedAll_old e) (Nat.le_succ _) ⟨?_, out, n, ry, hn⟩, rfl, q ys _ hy hd0⟩
    rw [ry.length, ho, ← lenD]
    exact hz
end
end FwS
/-! dicts whose keys are tuples of ints, and tuples of such: the object itself is known -/
namespace FwD
open PySem PySem.Spec PyProof.Rows L2
mutual
/-- an int tree as a key -/
def keyT : PyData → Option NestedKey
  | .int i => some (.num i)
  | .tuple ds => (keyTs ds).map .tup
  | _ => none
def keyTs : List PyData → Option (List NestedKey)
  | [] => some []
  | d :: ds => (keyT d).bind fun k => (keyTs ds).map fun ks => k :: ks
end
mutual
theorem key_hash (w w' : World) : ∀ (d : PyData) (k : NestedKey), keyT d = some k → k.hash w = k.hash w'
  | .int i, k, h => by
    cases h
    rfl
  | .tuple ds, k, h => by
    obtain ⟨ks, hk, rfl⟩ := Option.map_eq_some_iff.mp (show (keyTs ds).map NestedKey.tup = some k from h)
    show reduceHash (Builtin.Tuple.tupleHashOf (NestedKey.hashes w ks)) = reduceHash (Builtin.Tuple.tupleHashOf (NestedKey.hashes w' ks))
    rw [keys_hash w w' ds ks hk]
  | .none, _, h => nomatch h
  | .bool _, _, h => nomatch h
  | .str _, _, h => nomatch h
  | .list _, _, h => nomatch h
  | .dict _, _, h => nomatch h
theorem keys_hash (w w' : World) : ∀ (ds : List PyData) (ks : List NestedKey), keyTs ds = some ks → NestedKey.hashes w ks = NestedKey.hashes w' ks
  | [], ks, h => by
    cases h
    rfl
  | d :: ds, ks, h => by
    obtain ⟨k, hk, h2⟩ := Option.bind_eq_some_iff.mp (show ((keyT d).bind fun k => (keyTs ds).map fun ks => k :: ks) = some ks from h)
    obtain ⟨ls, hl, rfl⟩ := Option.map_eq_some_iff.mp h2
    show NestedKey.hash w k :: NestedKey.hashes w ls = NestedKey.hash w' k :: NestedKey.hashes w' ls
    rw [key_hash w w' d k hk, keys_hash w w' ds ls hl]
end
mutual
theorem key_is {h : Heap} : ∀ (d : PyData) (k : NestedKey) (v : Value) (as : List Addr), keyT d = some k → Reads h v d as → NestedIs h k v
  | .int i, k, v, as, hk, r => by
    cases hk
    cases r
    exact .int _ _
  | .tuple ds, k, v, as, hk, r => by
    obtain ⟨ks, h2, rfl⟩ := Option.map_eq_some_iff.mp (show (keyTs ds).map NestedKey.tup = some k from hk)
    cases r with
    | tuple g1 g2 g3 g4 => exact .tup g1 g2 g3 (keys_is ds ks _ _ h2 g4)
  | .none, _, _, _, h, _ => nomatch h
  | .bool _, _, _, _, h, _ => nomatch h
  | .str _, _, _, _, h, _ => nomatch h
  | .list _, _, _, _, h, _ => nomatch h
  | .dict _, _, _, _, h, _ => nomatch h
theorem keys_is {h : Heap} : ∀ (ds : List PyData) (ks : List NestedKey) (vs : List Value) (as : List Addr), keyTs ds = some ks → ReadsAll h vs ds as → NestedAll h ks vs
  | [], ks, vs, as, hk, r => by
    cases hk
    cases r
    exact .nil
  | d :: ds, ks, vs, as, hk, r => by
    obtain ⟨k, h1, h2⟩ := Option.bind_eq_some_iff.mp (show ((keyT d).bind fun k => (keyTs ds).map fun ks => k :: ks) = some ks from hk)
    obtain ⟨ls, h3, rfl⟩ := Option.map_eq_some_iff.mp h2
    cases r with
    | cons r1 r2 => exact .cons (key_is d k _ _ h1 r1) (keys_is ds ls _ _ h3 r2)
end
mutual
theorem key_eqv : ∀ (d e : PyData) (k l : NestedKey), keyT d = some k → keyT e = some l → PyData.eqv d e = decide (k = l)
  | .int i, .int j, k, l, h1, h2 => by
    cases h1
    cases h2
    show (i == j) = decide (NestedKey.num i = NestedKey.num j)
    by_cases e : i = j
    · subst e
      simp
    · rw [decide_eq_false (fun z => e (NestedKey.num.inj z))]
      simpa using e
  | .int i, .tuple es, k, l, h1, h2 => by
    cases h1
    obtain ⟨ls, h3, rfl⟩ := Option.map_eq_some_iff.mp (show (keyTs es).map NestedKey.tup = some l from h2)
    rw [decide_eq_false (fun z => nomatch z)]
    rfl
  | .tuple ds, .int j, k, l, h1, h2 => by
    cases h2
    obtain ⟨ks, h3, rfl⟩ := Option.map_eq_some_iff.mp (show (keyTs ds).map NestedKey.tup = some k from h1)
    rw [decide_eq_false (fun z => nomatch z)]
    rfl
  | .tuple ds, .tuple es, k, l, h1, h2 => by
    obtain ⟨ks, h3, rfl⟩ := Option.map_eq_some_iff.mp (show (keyTs ds).map NestedKey.tup = some k from h1)
    obtain ⟨ls, h4, rfl⟩ := Option.map_eq_some_iff.mp (show (keyTs es).map NestedKey.tup = some l from h2)
    show PyData.eqvAll ds es = _
    rw [keys_eqv ds es ks ls h3 h4]
    exact decide_eq_decide.mpr ⟨fun z => by rw [z], fun z => NestedKey.tup.inj z⟩
  | .none, _, _, _, h, _ => nomatch h
  | .bool _, _, _, _, h, _ => nomatch h
  | .str _, _, _, _, h, _ => nomatch h
  | .list _, _, _, _, h, _ => nomatch h
  | .dict _, _, _, _, h, _ => nomatch h
  | .int _, .none, _, _, _, h => nomatch h
  | .int _, .bool _, _, _, _, h => nomatch h
  | .int _, .str _, _, _, _, h => nomatch h
  | .int _, .list _, _, _, _, h => nomatch h
  | .int _, .dict _, _, _, _, h => nomatch h
  | .tuple _, .none, _, _, _, h => nomatch h
  | .tuple _, .bool _, _, _, _, h => nomatch h
  | .tuple _, .str _, _, _, _, h => nomatch h
  | .tuple _, .list _, _, _, _, h => nomatch h
  | .tuple _, .dict _, _, _, _, h => nomatch h
theorem keys_eqv : ∀ (ds es : List PyData) (ks ls : List NestedKey), keyTs ds = some ks → keyTs es = some ls → PyData.eqvAll ds es = decide (ks = ls)
  | [], [], _, _, h1, h2 => by
    cases h1
    cases h2
    rfl
  | [], e :: es, ks, ls, h1, h2 => by
    cases h1
    obtain ⟨l, _, h3⟩ := Option.bind_eq_some_iff.mp (show ((keyT e).bind fun k => (keyTs es).map fun ks => k :: ks) = some ls from h2)
    obtain ⟨ls, _, rfl⟩ := Option.map_eq_some_iff.mp h3
    rw [decide_eq_false (fun z => nomatch z)]
    rfl
  | d :: ds, [], ks, ls, h1, h2 => by
    cases h2
    obtain ⟨l, _, h3⟩ := Option.bind_eq_some_iff.mp (show ((keyT d).bind fun k => (keyTs ds).map fun ks => k :: ks) = some ks from h1)
    obtain ⟨ls, _, rfl⟩ := Option.map_eq_some_iff.mp h3
    rw [decide_eq_false (fun z => nomatch z)]
    rfl
  | d :: ds, e :: es, ks, ls, h1, h2 => by
    obtain ⟨k, a1, a2⟩ := Option.bind_eq_some_iff.mp (show ((keyT d).bind fun k => (keyTs ds).map fun ks => k :: ks) = some ks from h1)
    obtain ⟨ks, a3, rfl⟩ := Option.map_eq_some_iff.mp a2
    obtain ⟨l, b1, b2⟩ := Option.bind_eq_some_iff.mp (show ((keyT e).bind fun k => (keyTs es).map fun ks => k :: ks) = some ls from h2)
    obtain ⟨ls, b3, rfl⟩ := Option.map_eq_some_iff.mp b2
    show (PyData.eqv d e && PyData.eqvAll ds es) = _
    rw [key_eqv d e k l a1 b1, keys_eqv ds es ks ls a3 b3]
    by_cases x : k = l
    · subst x
      by_cases y : ks = ls
      · subst y
        simp
      · rw [decide_eq_false y, decide_eq_false (fun z => y (List.cons.inj z).2)]
        simp
    · rw [decide_eq_false x, decide_eq_false (fun z => x (List.cons.inj z).1)]
      simp
end
/-! ### the dict at l -/
def entryW (w : World) (x : NestedKey × Addr × Value) : DictEntry := ⟨NestedKey.hash w x.1, .ref x.2.1, x.2.2⟩
def exact (l : Addr) (o : Obj) : HO := .ext fun h => h.get? l = some o
/-- an entry: its key as data, its value; the key's sign, its tuple, the value. Rk, Rv: what tuple, what value stand for them -/
def Ent (Rk : PyData → Addr → Prop) (Rv : PyData → Value → Prop) (p : PyData × PyData) (q : NestedKey × Addr × Value) : Prop := keyT p.1 = some q.1 ∧ q.1.depth ≤ 8 ∧ Rk p.1 q.2.1 ∧ Rv p.2 q.2.2
def DicAt (Rk : PyData → Addr → Prop) (Rv : PyData → Value → Prop) (H : Hp) (l : Addr) (kvs : List (PyData × PyData)) : Prop := ∃ (o : Obj) (es : Array DictEntry) (ep : Nat) (xs : List (NestedKey × Addr × Value)),
  H l = some (exact l o) ∧ (l == sysModules) = false ∧ o.ExactDict ∧ o.data = .dict es ep ∧ (∀ w, es.toList = xs.map (entryW w)) ∧ (xs.map (·.1)).Nodup ∧ kvs.length ≤ sizeLine ∧ Paired (Ent Rk Rv) kvs xs
def hasD (kvs : List (PyData × PyData)) (d : PyData) : Bool := kvs.any fun p => PyData.eqv p.1 d
/-- d[k] = z -/
def putD (kvs : List (PyData × PyData)) (d z : PyData) : List (PyData × PyData) := if hasD kvs d = true then kvs.map (fun p => if PyData.eqv p.1 d = true then (p.1, z) else p) else kvs ++ [(d, z)]
theorem putD_len (kvs : List (PyData × PyData)) (d z : PyData) : (putD kvs d z).length ≤ kvs.length + 1 := by
  unfold putD
  split
  · rw [List.length_map]
    omega
  · rw [List.length_append]
    exact Nat.le_refl _
section
variable {X : Cx} {pins : List (Addr × Obj)} {σ : L2.St} {H : Hp} {s : Shared} {A : Around} {E : Value → Shared → Prop} {l : Addr} {kvs : List (PyData × PyData)} {Rk : PyData → Addr → Prop} {Rv : PyData → Value → Prop}
theorem ents_is (I : Inv X pins σ H s) (rk : ∀ d a, Rk d a → Dp X.K H (.ref a) d) : ∀ {kvs : List (PyData × PyData)} {xs : List (NestedKey × Addr × Value)}, Paired (Ent Rk Rv) kvs xs → ∀ x ∈ xs, (nestedKind X.prog X.w).is s.heap x.1 x.2.1
  | _, _, .nil, x, hx => nomatch hx
  | _, _, .cons h t, x, hx => by
    rcases List.mem_cons.mp hx with e | hx
    · subst e
      obtain ⟨as, r⟩ := Dp.reads I _ _ (.ref x.2.1) (rk _ _ h.2.2.1) rfl
      exact ⟨key_is _ _ _ _ h.1 r, h.2.1⟩
    · exact ents_is I rk t x hx
theorem dic_of (I : Inv X pins σ H s) (rk : ∀ d a, Rk d a → Dp X.K H (.ref a) d) (D : DicAt Rk Rv H l kvs) : ∃ (o : Obj) (xs : List (NestedKey × Addr × Value)), H l = some (exact l o) ∧ (l == sysModules) = false ∧ Paired (Ent Rk Rv) kvs xs ∧ s.heap.DictOfH (nestedKind X.prog X.w) l xs ∧ s.heap.get? l = some o := by
  obtain ⟨o, es, ep, xs, e1, e2, e3, e4, e5, e6, e7, e8⟩ := D
  have g : s.heap.get? l = some o := (show ObjOk X.prog X.w H s.heap l (exact l o) from I.hok l _ e1).1
  exact ⟨o, xs, e1, e2, e8, ⟨o, es, ep, g, e3, e4, e5 X.w, ents_is I rk e8, e6⟩, g⟩
theorem paired_len {α β : Type} {F : α → β → Prop} : ∀ {l : List α} {m : List β}, Paired F l m → l.length = m.length
  | _, _, .nil => rfl
  | _, _, .cons _ t => congrArg Nat.succ (paired_len t)
theorem ents_has : ∀ {kvs : List (PyData × PyData)} {xs : List (NestedKey × Addr × Value)}, Paired (Ent Rk Rv) kvs xs → ∀ {d : PyData} {k : NestedKey}, keyT d = some k → hasD kvs d = (atKey xs k).isSome
  | _, _, .nil, _, _, _ => rfl
  | _, _, .cons (a := p) (b := q) (l₁ := ps) (l₂ := qs) h t, d, k, hk => by
    have ih := ents_has t hk
    show (PyData.eqv p.1 d || hasD ps d) = _
    rw [key_eqv _ _ _ _ h.1 hk]
    obtain ⟨q1, q2, q3⟩ := q
    by_cases z : q1 = k
    · rw [decide_eq_true z]
      simp [atKey, z]
    · rw [decide_eq_false z, ih]
      simp [atKey, z]
end
end FwD
namespace FwD
open PySem PySem.Spec PyProof.Rows L2
section
variable {Rk : PyData → Addr → Prop} {Rv : PyData → Value → Prop}
theorem ents_map {d z : PyData} {k : NestedKey} {u : Value} (hk : keyT d = some k) (rv : Rv z u) : ∀ {kvs : List (PyData × PyData)} {xs : List (NestedKey × Addr × Value)}, Paired (Ent Rk Rv) kvs xs →
    Paired (Ent Rk Rv) (kvs.map fun p => if PyData.eqv p.1 d = true then (p.1, z) else p) (xs.map (putAt k u))
  | _, _, .nil => .nil
  | _, _, .cons (a := p) (b := q) h t => by
    refine .cons ?_ (ents_map hk rv t)
    obtain ⟨q1, q2, q3⟩ := q
    show Ent Rk Rv (if PyData.eqv p.1 d = true then (p.1, z) else p) _
    rw [key_eqv _ _ _ _ h.1 hk]
    by_cases e : q1 = k
    · rw [if_pos (decide_eq_true e)]
      have e2 : putAt k u (q1, q2, q3) = (q1, q2, u) := if_pos e
      rw [e2]
      exact ⟨h.1, h.2.1, h.2.2.1, rv⟩
    · rw [if_neg (by rw [decide_eq_false e]; exact Bool.false_ne_true)]
      have e2 : putAt k u (q1, q2, q3) = (q1, q2, q3) := if_neg e
      rw [e2]
      exact h
theorem paired_snoc {α β : Type} {F : α → β → Prop} {a : α} {b : β} (h : F a b) : ∀ {l : List α} {m : List β}, Paired F l m → Paired F (l ++ [a]) (m ++ [b])
  | _, _, .nil => .cons h .nil
  | _, _, .cons r t => .cons r (paired_snoc h t)
theorem ents_put {d z : PyData} {k : NestedKey} {a : Addr} {u : Value} (hk : keyT d = some k) (dp : k.depth ≤ 8) (hd : Rk d a) (rv : Rv z u) {kvs : List (PyData × PyData)} {xs : List (NestedKey × Addr × Value)} (r : Paired (Ent Rk Rv) kvs xs) :
    Paired (Ent Rk Rv) (putD kvs d z) (storedH xs k a u) := by
  have e : hasD kvs d = (atKey xs k).isSome := by
    have key : ∀ {kvs : List (PyData × PyData)} {xs : List (NestedKey × Addr × Value)}, Paired (Ent Rk Rv) kvs xs → hasD kvs d = (atKey xs k).isSome := by
      intro kvs xs r
      induction r with
      | nil => rfl
      | @cons p q ps qs h t ih =>
        show (PyData.eqv p.1 d || hasD ps d) = _
        rw [key_eqv _ _ _ _ h.1 hk]
        obtain ⟨q1, q2, q3⟩ := q
        by_cases z : q1 = k
        · rw [decide_eq_true z]
          simp [atKey, z]
        · rw [decide_eq_false z, ih]
          simp [atKey, z]
    exact key r
  unfold putD storedH
  rw [e]
  by_cases q : (atKey xs k).isSome = true
  · rw [if_pos q, if_pos q]
    exact ents_map hk rv r
  · rw [if_neg q, if_neg q]
    exact paired_snoc ⟨hk, dp, hd, rv⟩ r
theorem ents_hash {w w' : World} : ∀ {kvs : List (PyData × PyData)} {xs : List (NestedKey × Addr × Value)}, Paired (Ent Rk Rv) kvs xs → xs.map (entryW w) = xs.map (entryW w')
  | _, _, .nil => rfl
  | _, _, .cons (b := q) (l₂ := qs) h t => by
    show entryW w q :: qs.map (entryW w) = entryW w' q :: qs.map (entryW w')
    rw [ents_hash (w := w) (w' := w') t]
    congr 1
    unfold entryW
    rw [key_hash w w' _ _ h.1]
end
section
variable {X : Cx} {pins : List (Addr × Obj)} {σ : L2.St} {H : Hp} {s : Shared} {A : Around} {E : Value → Shared → Prop} {l : Addr} {kvs : List (PyData × PyData)} {Rk : PyData → Addr → Prop} {Rv : PyData → Value → Prop}
/-- the new object behind a change of the dict alone -/
theorem dic_new (I : Inv X pins σ H s) {o : Obj} (hl : H l = some (exact l o)) (nm : (l == sysModules) = false) {h' : Heap} {t' : Nat} {xs : List (NestedKey × Addr × Value)} {kvs' : List (PyData × PyData)} (sb : Heap.SameBut l s.heap h') (dd : h'.DictOfH (nestedKind X.prog X.w) l xs)
    (hz : kvs'.length ≤ sizeLine) (r : Paired (Ent Rk Rv) kvs' xs) : ∃ u, Inv X pins σ (upd H l u) { s with heap := h', toks := t' } ∧ DicAt Rk Rv (upd H l u) l kvs' := by
  obtain ⟨o', es, ep, g, e3, e4, e5, _, e6⟩ := dd
  refine ⟨exact l o', I.write (x := l) (e := l) (by rw [hl]; exact True.intro) (.inl rfl) (fun b q hb z => (sb.2 b hb).trans z) ⟨o', g⟩ ⟨g, ⟨o', g⟩, fun h1 h2 q k => k _ q⟩, o', es, ep, xs, upd_same, nm, e3, e4, fun w => ?_, e6, hz, r⟩
  rw [e5]
  exact ents_hash r
theorem d_putX {y zv : V} {u r : Value} {d z : PyData} {k : NestedKey} (hu : A.units + 8 < cLine) (I : Inv X pins σ H s) (rk : ∀ d a, Rk d a → Dp X.K H (.ref a) d) (D : DicAt Rk Rv H l kvs) (hy : Dp X.K H y d) (hk : keyT d = some k) (hn : ∀ i, d ≠ .int i) (dp : k.depth ≤ 8) (ry : RelV y u) (rz : RelV zv r)
    (ky : ∀ a, y = .ref a → Rk d a) (kz : ∀ r, RelV zv r → Rv z r) (hz : kvs.length < sizeLine) {Q : Unit → Shared → Prop} (h : ∀ s' v, Inv X pins σ (upd H l v) s' → DicAt Rk Rv (upd H l v) l (putD kvs d z) → Q () s') : wpAny (model X.prog X.w) A (dictSet l u r) Q E s := by
  obtain ⟨a, rfl⟩ : ∃ a, y = .ref a := by
    cases d with
    | int i => exact absurd rfl (hn i)
    | tuple ds =>
      cases hy
      exact ⟨_, rfl⟩
    | _ => cases hk
  cases ry
  obtain ⟨o, xs, e1, e2, e8, dd, g⟩ := dic_of I rk D
  obtain ⟨as, rd⟩ := Dp.reads I _ _ (.ref a) hy rfl
  refine wpAny_dictSet_heap (hsz := by rw [← paired_len e8]; omega) (show (nestedKind X.prog X.w).room A from hu) ⟨key_is _ _ _ _ hk rd, dp⟩ dd fun h' dd' sb => ?_
  obtain ⟨v, I', D'⟩ := dic_new (t' := s.toks + (nestedKind X.prog X.w).draws k) I e1 e2 sb dd' (by have := putD_len kvs d z; omega) (ents_put hk dp (ky a rfl) (kz r rz) e8)
  exact h _ v I' D'
/-- len(d) -/
theorem call_lenX : CallR X (.builtin "len") (fun xs H Q => ∃ (p : Addr) (kvs : List (PyData × PyData)) (Rk : PyData → Addr → Prop) (Rv : PyData → Value → Prop), xs = [.ref p] ∧ DicAt Rk Rv H p kvs ∧ (∀ d a, Rk d a → Dp X.K H (.ref a) d) ∧ Q (.int kvs.length) H) := fun pins s σ H xs us Q I r h => by
  obtain ⟨p, kvs, Rk, Rv, rfl, D, rk, q⟩ := h
  obtain ⟨u, rfl, ru⟩ := vals1 r
  cases ru
  obtain ⟨o, xs, e1, e2, e8, dd, g⟩ := dic_of I rk D
  have hl : kvs.length = xs.length := paired_len e8
  have hz : kvs.length ≤ sizeLine := D.choose_spec.choose_spec.choose_spec.choose_spec.2.2.2.2.2.2.1
  refine call_len_dictH e2 dd ?_ ⟨.int kvs.length, H, I.tok _, ⟨s.toks + 1, by rw [hl]⟩, q⟩
  rw [← hl]
  have := sizeLine_eq
  omega
end
/-- an empty dict as it is made -/
theorem dic_empty {Rk : PyData → Addr → Prop} {Rv : PyData → Value → Prop} {H : Hp} {l : Addr} (nm : (l == sysModules) = false) : DicAt Rk Rv (upd H l (exact l { cls := .type "dict", data := .dict #[] })) l [] :=
  ⟨{ cls := .type "dict", data := .dict #[] }, #[], 0, [], upd_same, nm, ⟨rfl, rfl, rfl⟩, rfl, fun _ => rfl, List.Pairwise.nil, Nat.zero_le _, .nil⟩
end FwD
/-! {k: v for .. in .. if ..} with such keys -/
namespace FwD
open PySem PySem.Spec PyProof.Rows L2
section
variable {X : Cx}
/-- one turn's end: the key y, the value zv, put into the dict at D -/
def PutX (K : PySem.W.Frag) (D : Addr) (y zv : V) (H : Hp) (Nx : Hp → Prop) : Prop := ∃ (Rk : PyData → Addr → Prop) (Rv : PyData → Value → Prop) (kvs : List (PyData × PyData)) (d z : PyData) (k : NestedKey), DicAt Rk Rv H D kvs ∧ (∀ d a, Rk d a → Dp K H (.ref a) d) ∧ Dp K H y d ∧ keyT d = some k ∧ (∀ i, d ≠ .int i) ∧ k.depth ≤ 8 ∧
  (∀ a, y = .ref a → Rk d a) ∧ (∀ r, RelV zv r → Rv z r) ∧ kvs.length < sizeLine ∧ ∀ v, DicAt Rk Rv (upd H D v) D (putD kvs d z) → Nx (upd H D v)
/-- a turn, from the walked item x -/
def TurnX (K : PySem.W.Frag) (g : TG) (tt : TT) (tk tv : TE) (vs : List Nat) (σ : L2.St) (D : Addr) (Nx : Hp → Prop) (x : V) (H : Hp) : Prop := g x (wipe σ vs) H fun σ2 H2 => wipe σ2 vs = wipe σ vs ∧
  tt σ2 H2 fun b H3 => if b = true then tk σ2 H3 fun y H4 => tv σ2 H4 fun z H5 => PutX K D y z H5 Nx else Nx H3
def tDcX (K : PySem.W.Frag) (wi : TI) (g : TG) (tt : TT) (tk tv : TE) (vs : List Nat) : TE := fun σ H Q => wi σ H fun J H1 =>
  ∀ D u0, H1 D = none → (∀ Rk Rv, DicAt Rk Rv (upd H1 D u0) D []) → ∃ W : Nat → Nat → Hp → Prop, (∃ m, W 0 m (upd H1 D u0)) ∧
    ∀ i m H, W i m H → (J.stop i H ∧ Q (.ref D) H) ∨ (J.go i H ∧ ∃ Nx : Hp → Prop, (∀ H', Nx H' → ∃ m', m' < m ∧ W (i + 1) m' H') ∧ ∀ x H', J.yld i H x H' → TurnX K g tt tk tv vs σ D Nx x H')
abbrev BlkFor (X : Cx) (scope : Scope) (J : Cx → Prop) : Prop := ∀ (s : Shared) (H : Hp) (C : Addr) (cl : List (Str × Addr)) (fp : List Addr), J (X.blk s H scope (compEnvC scope cl C X.env) fp)
theorem dcX_core {pins : List (Addr × Obj)} {s : Shared} {σ : L2.St} {H : Hp} {Q : VK} {kx vx tg iter : Expr} {ifs : List Expr} {scope : Scope} {own : List (Str × Nat)} {pos pos' : Pos} {wi : TI} {g : TG} {tt : TT} {tk tv : TE}
    {use : Option (Value → Sem Unit)} {Qf : Value → Shared → Prop} (hu : X.A.units + 64 < cLine) (calm : X.calm = true) (nd : X.N.Nodup) (I : Inv X pins σ H s) (hi : PI X tg iter wi) (ok : BlkOk X.N X.env.scope scope own)
    (pg : BlkFor X scope fun Y => PG Y tg g) (pt : BlkFor X scope fun Y => PTs Y ifs tt) (pk : BlkFor X scope fun Y => PE Y kx tk) (pv : BlkFor X scope fun Y => PE Y vx tv)
    (fold : ∀ x, foldedSetIterable iter X.env x = pure x) (rd : tDcX X.K wi g tt tk tv (own.map (·.2)) σ H Q)
    (post : ∀ D C s' m H', Inv X pins σ H' s' → Q (.ref D) H' → s'.heap.Ns C m → FpOk X pins H' C → compPost (model X.prog X.w) X.A X.xe use Qf (.ref D) C (.ok .next) s') :
    wpAny (model X.prog X.w) X.A (comprehension (.DictComp kx vx [⟨tg, iter, ifs, 0⟩] scope pos) scope X.env pos' newDict false (eval iter X.env) use) Qf X.xe s := by
  have free : ∀ y ∈ scope.names, y.2 = .free → ∃ c, X.env.cells.lookup y.1 = some c := by
    intro y hy e
    rcases ok.free y hy e with z | z
    · exact I.ok.has _ (.inl z)
    · exact I.ok.has _ (.inr z)
  refine wpAny_comprehension_free (use := use) rfl fold (closure_ok free) ok.kind (fun y hy e => by rw [ok.uniq y hy, e]) (thn (hi.run pins s σ H _ I rd) fun xv sa ha => thn ha fun itv sb hb => ?_)
  obtain ⟨it, fp, tn, J, Hb, e, Ib, T, stb, fb, q⟩ := hb
  subst e
  refine wpAny_newObj_type (newEnv_comp ?_)
  generalize hD : sb.heap.objs.size = D
  have fresh : Hb D = none := Ib.hok.fresh (Nat.le_of_eq hD)
  have nm : (D == sysModules) = false := by
    have b := Ib.big
    rw [hD] at b
    exact beq_eq_false_iff_ne.mpr (Nat.ne_of_gt b)
  obtain ⟨W, ⟨m0, w0⟩, turn⟩ := q D (exact D { cls := .type "dict", data := .dict #[] }) fresh (fun _ _ => dic_empty nm)
  generalize hc : ({ sb with heap := sb.heap.push { cls := .type "dict", data := .dict #[] } } : Shared) = sc
  have at0 : (sb.heap.push { cls := .type "dict", data := .dict #[] }).get? D = some { cls := .type "dict", data := .dict #[] } := by
    rw [← hD]
    exact Heap.get?_push_size _ rfl
  have Ic : Inv X pins σ (upd Hb D (exact D { cls := .type "dict", data := .dict #[] })) sc := by
    rw [← hc]
    exact Ib.laid (t' := sb.toks) (fun b o e => Heap.get?_push_of_some _ e) (Nat.le_of_eq hD) ⟨at0, ⟨_, at0⟩, fun h1 h2 a k => k _ a⟩
  have hpc : sc.heap = sb.heap.push { cls := .type "dict", data := .dict #[] } := by rw [← hc]
  have below : ∀ b ∈ fp, b < sb.heap.objs.size := by
    intro b hb
    obtain ⟨o, e, _⟩ := T.obj _ _ stb b hb
    exact Heap.lt_size e
  have fc : ∀ b ∈ fp, FpOk X pins (upd Hb D (exact D { cls := .type "dict", data := .dict #[] })) b ∧ b < sc.heap.objs.size := by
    intro b hb
    have lt := below b hb
    refine ⟨⟨?_, (fb b hb).2⟩, ?_⟩
    · rw [upd_ne (by rw [← hD]; exact Nat.ne_of_lt lt)]
      exact (fb b hb).1
    · rw [hpc, Heap.size_push]
      exact Nat.lt_succ_of_lt lt
  have stc : tn 0 sc.heap := T.keep _ _ _ stb fun b _ o e => by
    rw [hpc]
    exact Heap.get?_push_of_some _ e
  generalize hH : upd Hb D (exact D { cls := .type "dict", data := .dict #[] }) = Hc at Ic w0 fc
  have Id := block_start Ic ok nd fc
  generalize hcl : cellsFrom (sc.heap.objs.size + 1) scope.names (cloFrom X.env.cells scope.names []) = cl at Id
  have pg := pg sc Hc sc.heap.objs.size cl fp
  have pt := pt sc Hc sc.heap.objs.size cl fp
  have pk := pk sc Hc sc.heap.objs.size cl fp
  have pv := pv sc Hc sc.heap.objs.size cl fp
  have none0 : ∀ b ∈ fp, Hc b = none := fun b hb => (fc b hb).1.1
  have stat : ∀ {ce : Env} {σ' : L2.St} {H' : Hp} {s' : Shared}, Inv (X.blk sc Hc scope ce fp) [] σ' H' s' → (∀ b ∈ fp, H' b = none) → ∀ b ∈ fp, FpOk (X.blk sc Hc scope ce fp) [] H' b := by
    intro ce σ' H' s' I' hn b hb
    exact ⟨hn b hb, (I'.ok.exf b hb).1, I'.ok.exfs b hb, .inl hb, fun x c e => (I'.ok.exf b hb).2 x c e, fun p hp => (List.not_mem_nil (show p ∈ ([] : List (Addr × Obj)) from hp)).elim⟩
  generalize hce : compEnvC scope cl sc.heap.objs.size X.env = ce at Id pg pt pk pv
  have loc : ce.locals = sc.heap.objs.size := by
    subst hce
    rfl
  generalize hd : ({ sc with heap := pushCells (sc.heap.push { cls := .type "dict", data := .dict #[] }) scope.names } : Shared) = sd at Id
  have std : tn 0 sd.heap := T.keep _ _ _ stc fun b _ o e => by
    rw [← hd]
    exact pushCells_keeps _ _ _ _ (Heap.get?_push_of_some _ e)
  have loop : codeAny (model X.prog X.w) X.A (.compLoop (.DictComp kx vx [⟨tg, iter, ifs, 0⟩] scope pos) 0 (.ref it) (.ref D) ce) (compPost (model X.prog X.w) X.A X.xe use Qf (.ref D) sc.heap.objs.size) sd := by
    refine compLoop_anyD (fun n se => ∃ i He, Inv (X.blk sc Hc scope ce fp) [] (wipe σ (own.map (·.2))) He se ∧ tn i se.heap ∧ (∀ b ∈ fp, He b = none) ∧ W i n He) ?_ m0 ⟨0, Hc, Id, std, none0, w0⟩
    rintro n se ⟨i, He, Ie, ste, ne, we⟩
    rcases turn i n He we with ⟨stop, fin⟩ | ⟨go, Nx, less, step⟩
    · have td := T.done (X.blk sc Hc scope ce fp) rfl rfl rfl calm i [] se _ He (fun _ _ => False) Ie (stat Ie ne) ste stop
      refine thnF td fun r sf ⟨er, If⟩ => ?_
      subst er
      have Ig : Inv X pins σ He sf := Ic.call' (ch := fp) If.os If.base If.hok If.bare fun b hb => ⟨(fc b hb).1.2.2.2.1, (fc b hb).1.2.1, (fc b hb).1.2.2.2.2.1, (fc b hb).1.2.2.2.2.2⟩
      have gone : He sc.heap.objs.size = none := by
        have z : He ce.locals = none := If.free
        rwa [loc] at z
      obtain ⟨m, hn, _⟩ := If.loc
      have hn : sf.heap.Ns ce.locals m := hn
      rw [loc] at hn
      exact post D sc.heap.objs.size sf m He Ig fin hn (Ic.fpOk (Nat.le_refl _) gone)
    · have ti := T.item (X.blk sc Hc scope ce fp) rfl rfl rfl calm i [] se _ He (fun _ _ => False) Ie (stat Ie ne) ste go
      refine thnF ti fun r sf ⟨u, er, h6⟩ => ?_
      subst er
      refine thnF h6 fun _ sg ⟨x, Hg, Ig, rg, yg, stg, ng⟩ => ?_
      have Ig' := Ig.pinned (stat Ig ng) (T.obj _ _ stg)
      refine thnF (pg.run _ sg _ Hg x u _ Ig' rg (step x Hg yg)) fun _ sh ⟨σh, Hh, Ih, wh, qh⟩ => ?_
      refine thnF (pt.run _ sh σh Hh _ Ih qh) fun b si ⟨Hi, Ii, qi⟩ => ?_
      have next : ∀ {s' : Shared} {H' : Hp}, Inv (X.blk sc Hc scope ce fp) ([] ++ pinsAt fp sg.heap) σh H' s' → Nx H' →
          ∃ m, m < n ∧ ∃ i H', Inv (X.blk sc Hc scope ce fp) [] (wipe σ (own.map (·.2))) H' s' ∧ tn i s'.heap ∧ (∀ b ∈ fp, H' b = none) ∧ W i m H' := by
        intro s' H' I' nx
        obtain ⟨m', lt, w'⟩ := less H' nx
        have pin : ∀ b ∈ fp, ∀ o, sg.heap.get? b = some o → s'.heap.get? b = some o ∧ H' b = none := by
          intro b hb o e
          have z := I'.pin (b, o) (List.mem_append_right _ (List.mem_append_right _ (mem_pinsAt hb e)))
          exact ⟨z.1, z.2.1⟩
        have ln : (wipe σ (own.map (·.2))).length = σh.length := by rw [← wh, wipe_length]
        refine ⟨m', lt, i + 1, H', (I'.unpinned (pins := [])).weak ln ?_, T.keep _ _ _ stg (fun b hb o e => (pin b hb o e).1), ?_, w'⟩
        · intro j v e
          rw [← wh] at e
          exact (wipe_some e).1
        · intro b hb
          obtain ⟨o, e, _⟩ := T.obj _ _ stg b hb
          exact (pin b hb o e).2
      cases b with
      | false =>
        simp only [Bool.false_eq_true, if_false] at qi ⊢
        exact next Ii qi
      | true =>
        simp only [if_true] at qi ⊢
        refine thnF (pk.run _ si σh Hi _ Ii qi) fun y sj ⟨yj, Hj, Ij, rj, qj⟩ => ?_
        refine thnF (pv.run _ sj σh Hj _ Ij qj) fun z sk ⟨zk, Hk, Ik, rz, Rk, Rv, kvs, d, z', k, dk, rk, dy, ky, kn, kd, ka, kv, kl, nx⟩ => ?_
        exact d_putX (X := X.blk sc Hc scope ce fp) (show X.A.units + 8 < cLine by omega) Ik rk dk dy ky kn kd rj rz ka kv kl fun s' v I' D' => next I' (nx v D')
  subst hce hcl
  exact codeAny_compStart_dict loop (T.self X.A 0 _ _ _ std loop)
theorem pe_dcX {kx vx tg iter : Expr} {ifs : List Expr} {scope : Scope} {own : List (Str × Nat)} {pos : Pos} {wi : TI} {g : TG} {tt : TT} {tk tv : TE} (hu : X.A.units + 64 < cLine) (calm : X.calm = true) (nd : X.N.Nodup) (hi : PI X tg iter wi) (ok : BlkOk X.N X.env.scope scope own)
    (pg : BlkFor X scope fun Y => PG Y tg g) (pt : BlkFor X scope fun Y => PTs Y ifs tt) (pk : BlkFor X scope fun Y => PE Y kx tk) (pv : BlkFor X scope fun Y => PE Y vx tv)
    (fold : ∀ x, foldedSetIterable iter X.env x = pure x := by intro _; rfl) : PE X (.DictComp kx vx [⟨tg, iter, ifs, 0⟩] scope pos) (tDcX X.K wi g tt tk tv (own.map (·.2))) := by
  constructor
  intro pins s σ H Q I h
  rw [arm_eval_DictComp]
  refine dcX_core hu calm nd I hi ok pg pt pk pv fold h fun D C s' m H' I' q ns f => ⟨m, ns, fun h2 sb => ?_⟩
  obtain ⟨f0, f1, f2, f3, f4, f5⟩ := f
  refine ⟨.ref D, H', ?_, rfl, q⟩
  exact I'.turned (t' := s'.toks) (fun b o hb e => (sb.2 b hb).trans e) f0 f1 f3 f4 f5
end
end FwD
/-! the keys of such a dict, one by one -/
namespace FwD
open PySem PySem.Spec PyProof.Rows L2
def DicO (Rk : PyData → Addr → Prop) (Rv : PyData → Value → Prop) (H : Hp) (l : Addr) (o : Obj) (es : Array DictEntry) (ep : Nat) (kvs : List (PyData × PyData)) : Prop :=
  H l = some (exact l o) ∧ (l == sysModules) = false ∧ o.ExactDict ∧ o.data = .dict es ep ∧ ∃ xs : List (NestedKey × Addr × Value), (∀ w, es.toList = xs.map (entryW w)) ∧ Paired (Ent Rk Rv) kvs xs
theorem dicO_of {Rk : PyData → Addr → Prop} {Rv : PyData → Value → Prop} {H : Hp} {l : Addr} {kvs : List (PyData × PyData)} (D : DicAt Rk Rv H l kvs) : ∃ o es ep, DicO Rk Rv H l o es ep kvs := by
  obtain ⟨o, es, ep, xs, e1, e2, e3, e4, e5, e6, e7, e8⟩ := D
  exact ⟨o, es, ep, e1, e2, e3, e4, xs, e5, e8⟩
def ItX (K : PySem.W.Frag) (Rk : PyData → Addr → Prop) (Rv : PyData → Value → Prop) (l : Addr) (o : Obj) (es : Array DictEntry) (ep : Nat) (kvs : List (PyData × PyData)) : It :=
  ⟨fun i H => DicO Rk Rv H l o es ep kvs ∧ i < kvs.length, fun i H x H' => H' = H ∧ ∃ d z a, kvs[i]? = some (d, z) ∧ x = .ref a ∧ Rk d a, fun i H => DicO Rk Rv H l o es ep kvs ∧ kvs.length ≤ i⟩
theorem paired_at {α β : Type} {F : α → β → Prop} : ∀ {l : List α} {m : List β} {i : Nat} {a : α}, Paired F l m → l[i]? = some a → ∃ b, m[i]? = some b ∧ F a b
  | _, _, _, _, .nil, h => by simp at h
  | _, _, 0, _, .cons r _, h => by
    cases h
    exact ⟨_, rfl, r⟩
  | _, _, i + 1, _, .cons _ t, h => paired_at (i := i) t h
section
variable {P : Program} {w : World} {K : PySem.W.Frag} {tg : Expr} {l : Addr} {o : Obj} {es : Array DictEntry} {ep : Nat} {kvs : List (PyData × PyData)} {Rk : PyData → Addr → Prop} {Rv : PyData → Value → Prop}
theorem DicO.raw {X : Cx} {pins : List (Addr × Obj)} {σ : L2.St} {H : Hp} {s : Shared} (I : Inv X pins σ H s) (D : DicO Rk Rv H l o es ep kvs) : s.heap.DictRaw l es ep ∧ es.size = kvs.length ∧ ∀ (i : Nat) (hi : i < es.size) d z, kvs[i]? = some (d, z) → ∃ a, es[i].key = .ref a ∧ Rk d a := by
  obtain ⟨e1, e2, e3, e4, xs, e5, e8⟩ := D
  have g : s.heap.get? l = some o := (show ObjOk X.prog X.w H s.heap l (exact l o) from I.hok l _ e1).1
  have sz : es.size = xs.length := by
    have := congrArg List.length (e5 X.w)
    rwa [List.length_map, Array.length_toList] at this
  refine ⟨⟨o, g, e3, e4⟩, by rw [sz, paired_len e8], fun i hi d z hd => ?_⟩
  obtain ⟨q, hq, en⟩ := paired_at e8 hd
  have e : es.toList[i]? = some (entryW X.w q) := by rw [e5 X.w, List.getElem?_map, hq]; rfl
  have e' : es[i] = entryW X.w q := by
    rw [Array.getElem?_toList, Array.getElem?_eq_getElem hi] at e
    exact Option.some.inj e
  exact ⟨q.2.1, by rw [e']; rfl, en.2.2.1⟩
theorem turn_keysX (it : Addr) : Turn P w K tg (ItX K Rk Rv l o es ep kvs) [it] it (fun i h => h.IsKeyIter it l i es.size ep) where
  mem := List.mem_singleton.mpr rfl
  obj := fun i h st b hb => by
    obtain rfl := List.mem_singleton.mp hb
    obtain ⟨oi, e, _, dd⟩ := st
    exact ⟨oi, e, fun v z => by rw [dd] at z; cases z⟩
  keep := fun i h h' st k => st.at fun oi e => k it (List.mem_singleton.mpr rfl) oi e
  item := by
    intro X hP hw hK hc i pins s σ H E I hf st hg
    subst hP hw hK
    obtain ⟨D, hi⟩ := hg
    obtain ⟨f0, f1, f2, f3, f4, f5⟩ := hf it (List.mem_singleton.mpr rfl)
    obtain ⟨raw, sz, key⟩ := D.raw I
    obtain ⟨a, ka, ra⟩ := key i (by omega) kvs[i].1 kvs[i].2 (List.getElem?_eq_getElem hi)
    refine wpAny_pyNext_keys_item_raw st raw (by omega) fun h' st' sb => ?_
    have I1 : Inv X pins σ H { s with heap := h' } := I.turned (t' := s.toks) (fun b ob hb e => (sb.2 b hb).trans e) f0 f1 f3 f4 f5
    obtain ⟨oi, e, c, dd⟩ := id st'
    refine ⟨_, rfl, go_of (s := { s with heap := h' }) e c dd (by decide) ⟨.ref a, H, I1, ?_, ⟨rfl, _, _, a, List.getElem?_eq_getElem hi, rfl, ra⟩, st', fun b hb => (hf b hb).1⟩⟩
    rw [ka]
    rfl
  done := by
    intro X hP hw hK hc i pins s σ H E I hf st hg
    subst hP hw hK
    obtain ⟨D, hi⟩ := hg
    obtain ⟨f0, f1, f2, f3, f4, f5⟩ := hf it (List.mem_singleton.mpr rfl)
    obtain ⟨raw, sz, _⟩ := D.raw I
    exact wpAny_pyNext_keys_end_raw (I.ok.hd hc) st raw (by omega) fun h' eb => ⟨rfl, I.turned (t' := s.toks) (fun b ob hb e => eb b ob hb e) f0 f1 f3 f4 f5⟩
  self := fun A i s Q E st h => by
    refine wpAny_pyIter_slot st.typeIs F.slot_dict_keyiterator_iter (wpAny_call_entry F.slot_dict_keyiterator_iter st.typeIs F.entry_dict_keyiterator_iter ?_ (F.args_dict_keyiterator_iter_1 _))
    exact wpAny_pure ⟨_, rfl, "dict_keyiterator", _, st.typeIs, F.slot_dict_keyiterator_next.lookup, h⟩
def iKeysX (K : PySem.W.Frag) (td : TE) : TI := fun σ H R => td σ H fun x H1 => ∃ l o es ep kvs Rk Rv, x = .ref l ∧ DicO Rk Rv H1 l o es ep kvs ∧ R (ItX K Rk Rv l o es ep kvs) H1
theorem pi_keysX {X : Cx} {e : Expr} {td : TE} (he : PE X e td) : PI X tg e (iKeysX X.K td) := by
  constructor
  intro pins s σ H R I h
  refine thn (he.run pins s σ H _ I h) fun u s1 ⟨x, H1, I1, rx, l, o, es, ep, kvs, Rk, Rv, ex, D, q⟩ => ?_
  subst ex
  cases rx
  obtain ⟨raw, sz, _⟩ := D.raw I1
  exact wpAny_pyIter_dict_raw D.2.1 raw (pi_one (tk := s1.toks) I1 _ (turn_keysX _) ⟨_, Heap.get?_push_size _ rfl, rfl, rfl⟩ q)
end
end FwD
namespace FwD
open PySem PySem.Spec PyProof.Rows L2
theorem Ent.mono {Rk Rk' : PyData → Addr → Prop} {Rv Rv' : PyData → Value → Prop} (rk : ∀ d a, Rk d a → Rk' d a) (rv : ∀ d a, Rv d a → Rv' d a) : ∀ {kvs : List (PyData × PyData)} {xs : List (NestedKey × Addr × Value)}, Paired (Ent Rk Rv) kvs xs → Paired (Ent Rk' Rv') kvs xs
  | _, _, .nil => .nil
  | _, _, .cons h t => .cons ⟨h.1, h.2.1, rk _ _ h.2.2.1, rv _ _ h.2.2.2⟩ (Ent.mono rk rv t)
theorem DicAt.mono {Rk Rk' : PyData → Addr → Prop} {Rv Rv' : PyData → Value → Prop} {H H' : Hp} {l : Addr} {kvs : List (PyData × PyData)} (D : DicAt Rk Rv H l kvs) (rk : ∀ d a, Rk d a → Rk' d a) (rv : ∀ d a, Rv d a → Rv' d a) (hl : ∀ o, H l = some o → H' l = some o) : DicAt Rk' Rv' H' l kvs := by
  obtain ⟨o, es, ep, xs, e1, e2, e3, e4, e5, e6, e7, e8⟩ := D
  exact ⟨o, es, ep, xs, hl _ e1, e2, e3, e4, e5, e6, e7, Ent.mono rk rv e8⟩
theorem DicAt.there {Rk : PyData → Addr → Prop} {Rv : PyData → Value → Prop} {H : Hp} {l : Addr} {kvs : List (PyData × PyData)} (D : DicAt Rk Rv H l kvs) : ∃ o, H l = some (exact l o) := by
  obtain ⟨o, es, ep, xs, e1, _⟩ := D
  exact ⟨o, e1⟩
end FwD
namespace Fw
open PySem PySem.Spec PyProof.Rows L2 Evl FwD
/-! dicts beside the known heap -/
mutual
theorem key_noDict : ∀ (d : PyData) (k : NestedKey), keyT d = some k → d.hasDict = false
  | .int _, _, _ => rfl
  | .tuple ds, k, h => by
    have h' : (keyTs ds).map NestedKey.tup = some k := h
    cases e : keyTs ds with
    | none => rw [e] at h'; cases h'
    | some ks => exact keys_noDict ds ks e
  | .none, _, h => by cases h
  | .bool _, _, h => by cases h
  | .str _, _, h => by cases h
  | .list _, _, h => by cases h
  | .dict _, _, h => by cases h
theorem keys_noDict : ∀ (ds : List PyData) (ks : List NestedKey), keyTs ds = some ks → PyData.hasDictAll ds = false
  | [], _, _ => rfl
  | d :: ds, ks, h => by
    have h' : ((keyT d).bind fun k => (keyTs ds).map fun ks => k :: ks) = some ks := h
    cases e : keyT d with
    | none => rw [e] at h'; cases h'
    | some k =>
      cases e2 : keyTs ds with
      | none => rw [e, e2] at h'; cases h'
      | some ks' =>
        show (d.hasDict || PyData.hasDictAll ds) = false
        rw [key_noDict d k e, keys_noDict ds ks' e2]
        rfl
end
abbrev RkOf (K : PySem.W.Frag) (Hk : Hp) : PyData → Addr → Prop := fun d a => Dp K Hk (.ref a) d
abbrev RvOf (K : PySem.W.Frag) (Hk : Hp) : PyData → Value → Prop := fun d r => ∃ v, RelV v r ∧ Dx K Hk v d
abbrev DicK (K : PySem.W.Frag) (Hk H : Hp) (l : Addr) (kvs : List (PyData × PyData)) : Prop := DicAt (RkOf K Hk) (RvOf K Hk) H l kvs
theorem DicK.go {K : PySem.W.Frag} {p : Option Addr} {Hk H Hk' H' : Hp} {l : Addr} {kvs : List (PyData × PyData)} (D : DicK K Hk H l kvs) (g : Go p Hk H Hk' H') (hp : p ≠ some l) : DicK K Hk' H' l kvs :=
  D.mono (fun d a r => dp_mono0 g.kk d r) (fun d r ⟨v, rv, h⟩ => ⟨v, rv, dp_mono g.kk d h⟩) fun o h => g.rr l o hp h
def KeyOk (d : PyData) : Prop := (∃ k, keyT d = some k ∧ k.depth ≤ 8) ∧ ∀ i, d ≠ .int i
/-- te makes a new dict that nobody knows -/
def WpD (K : PySem.W.Frag) (p : Option Addr) (te : TE) (env : List Slot) (Φ : List (PyData × PyData) → Prop) : Prop := ∀ (H0 : Hp) (σ : List (Option V)) (Hk H : Hp) (Q : VK), Ex Hk H → PotOk Hk H p → En K p H0 Hk H σ env →
  (∀ l kvs Hk' H', Go p Hk H Hk' H' → H l = none → Hk' l = none → DicK K Hk' H' l kvs → Φ kvs → Q (.ref l) H') → te σ H Q
section
variable {K K' : PySem.W.Frag} {p : Option Addr} {env : List Slot} {Φ : PyData → Prop} {te tk tv : TE} {tt : TT}
theorem d_dc {wi : TI} {g : TG} {vs js : List Nat} {Ψ : List (PyData × PyData) → Prop} (hs : ∀ j ∈ js, j ∈ vs) (h : WpI K p wi env fun xs => xs.length ≤ 100000 ∧ ∃ Wd : Nat → List (PyData × PyData) → Prop, Wd 0 [] ∧
    (∀ (i : Nat) (x : PyData) (acc : List (PyData × PyData)), xs[i]? = some x → Wd i acc → acc.length ≤ i → WpG K p js g x (wipeE env vs) fun env2 => WpT K p tt env2 fun b =>
      if b = true then WpE K p tk env2 (fun y => KeyOk y ∧ WpE K p tv env2 fun z => Wd (i + 1) (putD acc y z)) else Wd (i + 1) acc) ∧
    ∀ acc, acc.length ≤ xs.length → Wd xs.length acc → Ψ acc) (hK : K' = K := by with_unfolding_all rfl) : WpD K p (tDcX K' wi g tt tk tv vs) env Ψ := fun H0 σ Hk H Q e po en k => by
  subst hK
  refine h H0 σ Hk H _ e po en fun J xs Hk1 H1 g1 it ⟨hz, Wd, i0, step, last⟩ D u0 hD emp => ?_
  have pD : p ≠ some D := pot_ne g1.po hD
  have g0 : Go p Hk1 H1 Hk1 (upd H1 D u0) := (Go.refl g1.kr g1.po).mut hD pD (fresh_back g1.kr hD)
  refine ⟨fun i m H' => m = xs.length - i ∧ i ≤ xs.length ∧ ∃ Hk' acc, Go p Hk1 H1 Hk' H' ∧ Hk' D = none ∧ DicK K' Hk' H' D acc ∧ acc.length ≤ i ∧ Wd i acc, ⟨xs.length, by omega, by omega, Hk1, [], g0, fresh_back g1.kr hD, emp _ _, Nat.le_refl _, i0⟩, ?_⟩
  rintro i m H' ⟨rfl, hi, Hk', acc, go, kD, dd, hlen, inv⟩
  obtain ⟨o1, o2, o3⟩ := it Hk' H' go.kk go.kr go.po
  have live : ∀ {Hk H : Hp}, DicK K' Hk H D acc → H D ≠ none := fun d => by
    obtain ⟨o, e⟩ := d.there
    rw [e]
    exact nofun
  by_cases hlt : i < xs.length
  · refine .inr ⟨o1 i hlt, fun H'' => i + 1 ≤ xs.length ∧ ∃ Hk' acc, Go p Hk1 H1 Hk' H'' ∧ Hk' D = none ∧ DicK K' Hk' H'' D acc ∧ acc.length ≤ i + 1 ∧ Wd (i + 1) acc, fun H'' q => ⟨xs.length - (i + 1), by omega, rfl, q⟩, fun x H'' y => ?_⟩
    obtain ⟨d, Hk2, hd, rd, g2⟩ := o3 i x H'' hlt y
    have en2 : En K' p H0 Hk2 H'' (L2.wipe σ vs) (wipeE env vs) := (((en.go g1).go go).go g2).wipe vs
    have k2 : Hk2 D = none := g2.nk D (live dd) kD
    have d2 := dd.go g2 pD
    refine step i d acc hd inv hlen H0 _ Hk2 H'' x _ g2.kr g2.po en2 rd fun σ2 env2 en3 same f3 => ⟨wipe_eq (by rw [same.1, wipe_length]) same.2 hs, ?_⟩
    refine f3 H0 σ2 Hk2 H'' _ g2.kr g2.po en3 fun b Hk4 H4 g4 f4 => ?_
    have k4 : Hk4 D = none := g4.nk D (live d2) k2
    have d4 := d2.go g4 pD
    cases b with
    | false => exact ⟨by omega, Hk4, acc, (go.trans g2).trans g4, k4, d4, by omega, f4⟩
    | true =>
      refine (show WpE K' p tk env2 _ from f4) H0 σ2 Hk4 H4 _ g4.kr g4.po (en3.go g4) fun y dy Hk5 H5 g5 r5 ⟨⟨⟨ks, hks, hdp⟩, hni⟩, f5⟩ => ?_
      have k5 : Hk5 D = none := g5.nk D (live d4) k4
      have d5 := d4.go g5 pD
      refine f5 H0 σ2 Hk5 H5 _ g5.kr g5.po ((en3.go g4).go g5) fun z dz Hk6 H6 g6 r6 f6 => ?_
      have k6 : Hk6 D = none := g6.nk D (live d5) k5
      have d6 := d5.go g6 pD
      have ry := dp_mono g6.kk dy r5
      refine ⟨RkOf K' Hk6, RvOf K' Hk6, acc, dy, dz, ks, d6, fun d a r => dp_mono0 g6.kr d r, dx_dp dy (key_noDict dy ks hks) (dp_mono g6.kr dy ry), hks, hni, hdp, fun a e => by show Dp K' Hk6 (.ref a) dy; rw [← e]; exact dx_dp dy (key_noDict dy ks hks) ry, fun r rr => ⟨z, rr, r6⟩, sz_lt (by omega), fun v dv => ?_⟩
      have gg := (((go.trans g2).trans g4).trans g5).trans g6
      exact ⟨by omega, Hk6, putD acc dy dz, gg.mut hD pD k6, k6, dv, by have := putD_len acc dy dz; omega, f6⟩
  · have hi2 : i = xs.length := by omega
    subst hi2
    have h0 : H D = none := by
      cases z : H D with
      | none => rfl
      | some o => exact absurd hD (g1.live (by rw [z]; exact nofun))
    exact .inl ⟨o2, k D acc Hk' _ (g1.trans go) h0 kD dd (last acc hlen inv)⟩
/-- the keys of a dict that is made on the way, one by one -/
theorem i_keysD {Ψ : List PyData → Prop} (h : WpD K p te env fun kvs => Ψ (kvs.map (·.1))) (hK : K' = K := by with_unfolding_all rfl) : WpI K p (iKeysX K' te) env Ψ := fun H0 σ Hk H R e po en k => by
  subst hK
  refine h H0 σ Hk H _ e po en fun l kvs Hk' H' g h0 hk D f => ?_
  obtain ⟨o, es, ep, DO⟩ := dicO_of D
  have hp := pot_ne po h0
  refine ⟨l, o, es, ep, kvs, _, _, rfl, DO, ?_⟩
  have gp := g.pub h0 hp hk DO.1
  refine k _ _ (upd Hk' l (exact l o)) H' gp (fun Hk1 H1 x1 x2 po1 => ?_) f
  have DO1 : DicO (RkOf K' Hk') (RvOf K' Hk') H1 l o es ep kvs := ⟨x2 l _ (x1 l _ upd_same), DO.2⟩
  have ln : (kvs.map (·.1)).length = kvs.length := List.length_map ..
  refine ⟨fun i hi => ⟨DO1, by omega⟩, ⟨DO1, by omega⟩, fun i x H2 hi y => ?_⟩
  obtain ⟨rfl, d, z, a, hd, rfl, ra⟩ := y
  refine ⟨d, Hk1, by rw [List.getElem?_map, hd]; rfl, ?_, Go.refl x2 po1⟩
  exact dp_mono ((Ex.new hk).trans x1) d (dp_dx d ra)
/-- len of such a dict -/
theorem e_lenD (h : WpD K p te env fun kvs => Φ (.int kvs.length)) {r : List V → Hp → VK → Prop} (hr : r = fun xs H Q => ∃ (p : Addr) (kvs : List (PyData × PyData)) (Rk : PyData → Addr → Prop) (Rv : PyData → Value → Prop), xs = [.ref p] ∧ DicAt Rk Rv H p kvs ∧ (∀ d a, Rk d a → Dp K H (.ref a) d) ∧ Q (.int kvs.length) H := by with_unfolding_all rfl) :
    WpE K p (tCB r (tCons te tNil)) env Φ := fun H0 σ Hk H Q e po en k => by
  subst hr
  exact h H0 σ Hk H _ e po en fun l kvs Hk' H' g h0 hk D f => ⟨l, kvs, _, _, rfl, D, fun d a r => dp_mono0 g.kr d r, k _ _ Hk' H' g (.int _) f⟩
end
end Fw
/-! sum and max of a tuple of ints, t[::-1], truths taken away from each other -/
namespace FwT
open PySem PySem.Spec PyProof.Rows L2
section
variable {X : Cx}
def rSumT (K : PySem.W.Frag) : List V → Hp → VK → Prop := fun vs H Q => ∃ (a : Addr) (ns : List Int), vs = [V.ref a] ∧ SqT K H a (ns.map V.int) ∧ Q (.int ns.sum) H
theorem cr_sumT (hc : X.calm = true) : CallR X (.builtin "sum") (rSumT X.K) := fun pins s σ H vs us Q I r h => by
  obtain ⟨a, ns, rfl, hs, q⟩ := h
  obtain ⟨u, rfl, ru⟩ := vals1 r
  cases ru
  obtain ⟨its, rv, tp, _⟩ := I.tuple hs
  have hi := rv.ints
  obtain ⟨xs, e⟩ := hi.allInts.items
  have hn : numsOf (intItems xs).toList = ns := by rw [← e]; exact hi.numsOf
  rw [nums_intItems] at hn
  rw [e] at tp
  refine PySem.W.ktm_sumG (I.ok.hd hc) tp fun h' tk t' hk => ⟨.int _, H, I.kept hk, ⟨t', rfl⟩, ?_⟩
  rw [preSum_eq, List.take_of_length_le (by simp), hn]
  exact q
theorem op_sub_bb : OpR X (binaryOp .Sub) (fun x y H Q => ∃ a b, x = .bl a ∧ y = .bl b ∧ Q (.int (b2i a - b2i b)) H) := fun pins s σ H x y v u Q I rx ry h => by
  obtain ⟨a, b, rfl, rfl, q⟩ := h
  cases rx
  cases ry
  exact sub_bool ⟨.int _, H, I.tok _, ⟨_, rfl⟩, q⟩
/-- max of a tuple of ints -/
def rMaxT (K : PySem.W.Frag) : List V → Hp → VK → Prop := fun vs H Q => ∃ (a : Addr) (n : Int) (ns : List Int), vs = [V.ref a] ∧ SqT K H a ((n :: ns).map V.int) ∧ Q (.int (ns.foldl max n)) H
theorem reads_ints {h : Heap} : ∀ {us : List Value} {ns : List Int}, Vals (ns.map V.int) us → ReadsAll h us (ns.map .int) []
  | [], [], _ => .nil
  | u :: us, n :: ns, .cons r t => by
    obtain ⟨tk, rfl⟩ := r
    have q := ReadsAll.cons (Reads.int (h := h) n tk) (reads_ints t)
    exact q
theorem cr_maxT (hu : X.A.units + 64 < cLine) (hc : X.calm = true) : CallR X (.builtin "max") (rMaxT X.K) := fun pins s σ H vs us Q I r h => by
  obtain ⟨a, n, ns, rfl, hs, q⟩ := h
  obtain ⟨u, rfl, ru⟩ := vals1 r
  cases ru
  obtain ⟨its, rv, tp, _⟩ := I.tuple hs
  have rd : ReadsAll s.heap its.toArray.toList (PyData.int n :: ns.map .int) [] := by
    rw [List.toList_toArray]
    exact reads_ints (ns := n :: ns) rv
  have al : PySem.W.AlikeAll (PyData.int n :: ns.map .int) := by
    have isI : ∀ x ∈ PyData.int n :: ns.map PyData.int, ∃ m, x = PyData.int m := fun x hx => by
      rcases List.mem_cons.mp hx with e | hx
      · exact ⟨n, e⟩
      · obtain ⟨m, _, e⟩ := List.mem_map.mp hx
        exact ⟨m, e.symm⟩
    refine ⟨fun x hx y hy => ?_, fun x hx => ?_⟩
    · obtain ⟨m, rfl⟩ := isI x hx
      obtain ⟨k, rfl⟩ := isI y hy
      rfl
    · obtain ⟨m, rfl⟩ := isI x hx
      exact fun z => nomatch z
  have dz : PyData.depthAll (PyData.int n :: ns.map .int) = 0 := PySem.W.depth_ints (n :: ns)
  refine PySem.W.max_tuple_data (I.ok.hd hc) tp rd al (by rw [dz]; omega) fun i v h' tk bs hv r hk => ?_
  rw [PySem.W.maxD_ints] at r
  cases r
  exact ⟨.int _, H, I.kept hk, ⟨_, rfl⟩, q⟩
/-! ### t[::-1] -/
theorem sliceRev {prog : Program} {w : World} {A : Around} {E : Value → Shared → Prop} {s : Shared} {sl : Addr} {vs : Value} {n : Nat} {Q : Int × Int × Nat → Shared → Prop} (hs : s.heap.IsSliceOf sl .none .none vs) (ps : IsPart vs (some (-1)))
    (h : Q ((n : Int) - 1, -1, n) s) : wpAny (model prog w) A (Builtin.Slice.sliceApplied (.ref sl) (pure (n : Int))) Q E s := by
  obtain ⟨os, ho, hc, hd⟩ := id hs
  unfold Builtin.Slice.sliceApplied Builtin.Slice.sliceFields
  refine wpAny_bind (wpAny_bind (wpAny_field ho hd (x := .none) rfl (wpAny_bind (wpAny_field ho hd (x := .none) rfl (wpAny_bind (wpAny_field ho hd (x := vs) rfl (wpAny_pure ?_)))))))
  refine wpAny_bind (HT.slicePart_ ps ?_)
  show wpAny _ _ (if ((-1 : Int) == 0) = true then _ else _) _ _ s
  rw [if_neg (by decide)]
  refine wpAny_bind (slicePart_none (wpAny_bind (slicePart_none (wpAny_bind (wpAny_pure ?_)))))
  have pl : Builtin.Slice.slicePlaces ((n : Int) - 1) (-1) (-1) = n := by
    unfold Builtin.Slice.slicePlaces
    rw [if_neg (by decide)]
    by_cases z : (n : Int) - 1 > -1
    · rw [if_pos z, show (-(-1) : Int) = 1 by decide, Int.ediv_one]
      omega
    · rw [if_neg z]
      omega
  show wpAny _ _ (pure ((n : Int) - 1, (-1 : Int), Builtin.Slice.slicePlaces ((n : Int) - 1) (-1) (-1))) _ _ s
  rw [pl]
  exact wpAny_pure h
theorem fm_congr {f g : Nat → Option Value} : ∀ {l : List Nat}, (∀ k ∈ l, f k = g k) → l.filterMap f = l.filterMap g
  | [], _ => rfl
  | k :: l, h => by
    rw [List.filterMap_cons, List.filterMap_cons, h k List.mem_cons_self, fm_congr fun j hj => h j (List.mem_cons_of_mem _ hj)]
theorem pickRev (xs : List Value) : ((List.range xs.length).filterMap fun (k : Nat) => xs.toArray[(((xs.length : Int) - 1) + (k : Int) * (-1)).toNat]?) = xs.reverse := by
  have e : ∀ k ∈ List.range xs.length, xs.toArray[(((xs.length : Int) - 1) + (k : Int) * (-1)).toNat]? = xs.reverse[k]? := fun k hk => by
    have lt := List.mem_range.mp hk
    rw [List.getElem?_reverse lt, List.getElem?_toArray]
    congr 1
    omega
  rw [fm_congr e]
  have all : ∀ ys : List Value, (List.range ys.length).filterMap (fun k => ys[k]?) = ys := fun ys => by
    refine List.ext_getElem? fun i => ?_
    induction ys generalizing i with
    | nil => rfl
    | cons y ys ih =>
      rw [List.length_cons, List.range_succ_eq_map, List.filterMap_cons]
      show (y :: ((List.range ys.length).map Nat.succ).filterMap fun k => (y :: ys)[k]?)[i]? = _
      rw [List.filterMap_map]
      cases i with
      | zero => rfl
      | succ i => exact ih i
  have := all xs.reverse
  rw [List.length_reverse] at this
  exact this
def tRevT (K : PySem.W.Frag) (te : TE) : TE := fun σ H Q => te σ H fun x H1 => ∃ a xs, x = .ref a ∧ SqT K H1 a xs ∧ ∀ p, H1 p = none → Q (.ref p) (upd H1 p (.tup xs.reverse))
theorem getRev {prog : Program} {w : World} {A : Around} {E : Value → Shared → Prop} {s : Shared} {t sl : Addr} {its : List Value} {vs : Value} {Q : Value → Shared → Prop} (ht : IsTup s.heap t its.toArray) (hs : s.heap.IsSliceOf sl .none .none vs) (ps : IsPart vs (some (-1))) (hz : its.length ≤ sizeLine)
    (h : Q (.ref s.heap.objs.size) { s with heap := s.heap.push { cls := .type "tuple", data := .seq its.reverse.toArray } }) : wpAny (model prog w) A (getItem (.ref t) (.ref sl)) Q E s := by
  have fits : sizeOk (.seq its.reverse.toArray) := by
    show its.reverse.toArray.size ≤ sizeLine
    rw [List.size_toArray, List.length_reverse]
    exact hz
  obtain ⟨os, ho, hc, hd⟩ := id hs
  have isS : s.TypeIs (.ref sl) "slice" := ⟨os, ho, hc⟩
  unfold getItem
  try with_reducible refine wpAny_holding ?_
  first | refine wpAny_bind (wpAny_pure ?_) | skip
  refine wpAny_bind (wpAny_sequenceKey ht.typeIs (by decide) ?_)
  refine wpAny_bind (wpAny_callSpecial?_slot (name := Str.ofString "__getitem__") ht.typeIs PyProof.Rows.slot_tuple_getitem ?_)
  refine wpAny_call_entry PyProof.Rows.slot_tuple_getitem ht.typeIs PyProof.Rows.entry_tuple_getitem ?_ (PyProof.Rows.args_tuple_getitem _ _)
  show wpAny _ _ (Builtin.Tuple.tupleItemsOf (.ref t) >>= _) _ _ s
  refine wpAny_bind (PyProof.Rows.tupleItemsOf_ ht ?_)
  refine wpAny_bind (wpAny_typeOf isS ?_)
  rw [if_pos (by decide)]
  refine wpAny_bind (sliceRev (n := its.toArray.size) hs ps ?_)
  show wpAny _ _ (if ((((its.toArray.size : Int) - 1) == 0 && (-1 : Int) == 1 && its.toArray.size == its.toArray.size) = true) then _ else _) _ _ s
  rw [if_neg (by simp)]
  have e := pickRev its
  rw [show its.length = its.toArray.size from (List.size_toArray).symm] at e
  rw [e]
  first
    | exact wpAny_bind (m := Builtin.Tuple.tupleExact _) (wpAny_newObj_type (wpAny_pure ⟨_, rfl, wpAny_pure h⟩) fits)
    | exact wpAny_bind (wpAny_bind (m := Builtin.Tuple.tupleExact _) (wpAny_newObj_type (wpAny_pure (wpAny_pure ⟨_, rfl, wpAny_pure h⟩)) fits))
end
end FwT
/-! zip of three tuples; t[::-1] as an expression -/
namespace FwT
open PySem PySem.Spec PyProof.Rows L2
def ItZ3 (K : PySem.W.Frag) (a b c : Addr) : It :=
  ⟨fun i H => ∃ xs ys zs : List V, SqT K H a xs ∧ SqT K H b ys ∧ SqT K H c zs ∧ i < min (min xs.length ys.length) zs.length,
    fun i H v H' => ∃ T x y z, v = .ref T ∧ H T = none ∧ H' = upd H T (.tup [x, y, z]) ∧ (∀ xs, SqT K H a xs → xs[i]? = some x) ∧ (∀ ys, SqT K H b ys → ys[i]? = some y) ∧ ∀ zs, SqT K H c zs → zs[i]? = some z,
    fun i H => ∃ xs ys zs : List V, SqT K H a xs ∧ SqT K H b ys ∧ SqT K H c zs ∧ i = min (min xs.length ys.length) zs.length⟩
/-- the iterator's own cells -/
def CellsZ3 (z TI TO i1 i2 i3 a b c : Addr) (i : Nat) (h : Heap) : Prop := IsZip h z TI TO .none ∧ IsTupOf3 h TI (.ref i1) (.ref i2) (.ref i3) ∧ (∃ a1 a2 a3, IsTupOf3 h TO a1 a2 a3) ∧ h.IsTupleIter i1 a i ∧ h.IsTupleIter i2 b i ∧ h.IsTupleIter i3 c i
abbrev fpZ3 (z TI TO i1 i2 i3 : Addr) : List Addr := [z, TI, TO, i1, i2, i3]
theorem val_ref {xs : List V} {us : List Value} {i : Nat} {v : Value} (r : Vals xs us) (h : us[i]? = some v) : ∃ x, xs[i]? = some x ∧ RelV x v := by
  induction r generalizing i with
  | nil => simp at h
  | @cons x u xs us r rr ih =>
    cases i with
    | zero =>
      cases h
      exact ⟨x, rfl, r⟩
    | succ i => exact ih h
section
variable {P : Program} {w : World} {K : PySem.W.Frag} {elts : List Expr} {kk : Nat} {tpos : Pos} {z TI TO i1 i2 i3 a b c : Addr}
theorem turn_z3 (S : ZipSep3 z TI TO i1 i2 i3 [i1, a] [i2, b] [i3, c]) (na : a ≠ i1) (nb : b ≠ i2) (nc : c ≠ i3) : Turn P w K (.Tuple elts kk tpos) (ItZ3 K a b c) (fpZ3 z TI TO i1 i2 i3) z (CellsZ3 z TI TO i1 i2 i3 a b c) := by
  have goes : ∀ (A : Around), A.handled = none → ∀ (xs ys zs : List Value), GoesN P w A (.Tuple elts kk tpos) z (z :: TI :: TO :: ([i1, a] ++ [i2, b] ++ [i3, c])) [z, TO, i1, i2, i3] (min (min xs.toArray.size ys.toArray.size) zs.toArray.size) _ _ :=
    fun A hh xs ys zs => GoesN.zip3 (elts := elts) (x1 := kk) (pos := tpos) S (Draws.tuple (A := A.in1) hh i1 a na xs.toArray) (Draws.tuple (A := A.in1) hh i2 b nb ys.toArray) (Draws.tuple (A := A.in1) hh i3 c nc zs.toArray)
  constructor
  · exact List.mem_cons_self
  · rintro i h ⟨c1, c2, ⟨a1, a2, a3, c3⟩, ⟨o1, e1, _, d1⟩, ⟨o2, e2, _, d2⟩, ⟨o3, e3, _, d3⟩⟩ x hx
    have cases6 : x = z ∨ x = TI ∨ x = TO ∨ x = i1 ∨ x = i2 ∨ x = i3 := by simpa using hx
    rcases cases6 with rfl | rfl | rfl | rfl | rfl | rfl
    · exact ⟨_, c1, fun v q => nomatch q⟩
    · exact ⟨_, c2, fun v q => nomatch q⟩
    · exact ⟨_, c3, fun v q => nomatch q⟩
    · exact ⟨o1, e1, fun v q => by rw [d1] at q; cases q⟩
    · exact ⟨o2, e2, fun v q => by rw [d2] at q; cases q⟩
    · exact ⟨o3, e3, fun v q => by rw [d3] at q; cases q⟩
  · rintro i h h' ⟨c1, c2, ⟨a1, a2, a3, c3⟩, h1, h2, h3⟩ k
    exact ⟨k z (by simp) _ c1, k TI (by simp) _ c2, ⟨a1, a2, a3, k TO (by simp) _ c3⟩, h1.at fun o q => k i1 (by simp) o q, h2.at fun o q => k i2 (by simp) o q, h3.at fun o q => k i3 (by simp) o q⟩
  · intro X hP hw hK hc i pins s σ H E I hf st ⟨xs, ys, zs, q1, q2, q3, lt⟩
    subst hP hw hK
    obtain ⟨us, r1, p1, _⟩ := I.tuple q1
    obtain ⟨vs, r2, p2, _⟩ := I.tuple q2
    obtain ⟨ws, r3, p3, _⟩ := I.tuple q3
    have W := goes X.A (I.ok.hd hc) us vs ws
    have l1 := r1.length
    have l2 := r2.length
    have l3 := r3.length
    obtain ⟨c1, c2, c3, h1, h2, h3⟩ := st
    refine W.goes i s _ E (by rw [List.size_toArray, List.size_toArray, List.size_toArray]; omega) ⟨c1, c2, c3, ⟨h1, p1⟩, ⟨h2, p2⟩, ⟨h3, p3⟩⟩ fun v h' tk hY st' hk _ => ?_
    obtain ⟨T, x, y, u, rfl, hn, hx, hy, hu, hT⟩ := hY
    obtain ⟨d1, d2, d3, ⟨g1, _⟩, ⟨g2, _⟩, ⟨g3, _⟩⟩ := st'
    obtain ⟨x', ex, rx⟩ := val_ref r1 (by simpa using hx)
    obtain ⟨y', ey, ry⟩ := val_ref r2 (by simpa using hy)
    obtain ⟨u', eu, ru⟩ := val_ref r3 (by simpa using hu)
    have new : ObjOk X.prog X.w (upd H T (.tup [x', y', u'])) h' T (.tup [x', y', u']) := ⟨by show 3 ≤ sizeLine; decide, [x, y, u], .cons rx (.cons ry (.cons ru .nil)), hT⟩
    have out : ∀ d, d ∉ fpZ3 z TI TO i1 i2 i3 → d ∉ [z, TO, i1, i2, i3] := fun d n m => n (by
      simp only [List.mem_cons, List.not_mem_nil, or_false] at m ⊢
      rcases m with m | m | m | m | m <;> simp [m])
    have I1 := I.turnedNew (t' := tk) (ch := fpZ3 z TI TO i1 i2 i3) (fun d o n e => hk d o (out d n) e) hf hn new
    have hTn : H T = none := I.hok.fresh hn
    refine ⟨.ref T, _, I1, rfl, ⟨T, x', y', u', rfl, hTn, rfl, fun l hl => by rw [I.tuple_inj hl q1]; exact ex, fun l hl => by rw [I.tuple_inj hl q2]; exact ey, fun l hl => by rw [I.tuple_inj hl q3]; exact eu⟩, ⟨d1, d2, d3, g1, g2, g3⟩, fun d hd => ?_⟩
    have low : d < s.heap.objs.size := by
      have cases6 : d = z ∨ d = TI ∨ d = TO ∨ d = i1 ∨ d = i2 ∨ d = i3 := by simpa using hd
      obtain ⟨a1, a2, a3, c3⟩ := c3
      rcases cases6 with rfl | rfl | rfl | rfl | rfl | rfl
      · exact Heap.lt_size c1
      · exact Heap.lt_size c2
      · exact Heap.lt_size c3
      · obtain ⟨_, e, _⟩ := h1; exact Heap.lt_size e
      · obtain ⟨_, e, _⟩ := h2; exact Heap.lt_size e
      · obtain ⟨_, e, _⟩ := h3; exact Heap.lt_size e
    rw [upd_ne (Nat.ne_of_lt (Nat.lt_of_lt_of_le low hn))]
    exact (hf d hd).1
  · intro X hP hw hK hc i pins s σ H E I hf st ⟨xs, ys, zs, q1, q2, q3, en⟩
    subst hP hw hK
    obtain ⟨us, r1, p1, _⟩ := I.tuple q1
    obtain ⟨vs, r2, p2, _⟩ := I.tuple q2
    obtain ⟨ws, r3, p3, _⟩ := I.tuple q3
    have W := goes X.A (I.ok.hd hc) us vs ws
    have e : i = min (min us.toArray.size vs.toArray.size) ws.toArray.size := by rw [List.size_toArray, List.size_toArray, List.size_toArray, ← r1.length, ← r2.length, ← r3.length]; exact en
    obtain ⟨c1, c2, c3, h1, h2, h3⟩ := st
    subst e
    refine W.stops s _ E ⟨c1, c2, c3, ⟨h1, p1⟩, ⟨h2, p2⟩, ⟨h3, p3⟩⟩ fun h' tk hk _ => I.turnedL (t' := tk) (ch := fpZ3 z TI TO i1 i2 i3) (fun d o n e => hk d o (fun m => n (by
      simp only [List.mem_cons, List.not_mem_nil, or_false] at m ⊢
      rcases m with m | m | m | m | m <;> simp [m])) e) hf
  · intro A i s Q E st h
    exact wpAny_pyIter_zip st.1 h
def iZip3 (K : PySem.W.Frag) (ta : TA) : L2.TI := fun σ H R => ta σ H fun vs H1 => ∃ a b c xs ys zs, vs = [.ref a, .ref b, .ref c] ∧ SqT K H1 a xs ∧ SqT K H1 b ys ∧ SqT K H1 c zs ∧ R (ItZ3 K a b c) H1
theorem pi_zip3 {X : Cx} {e e2 e3 : Expr} {ta : TA} {p pos : Pos} (hg : Gl X "zip") (hm : X.mg "zip" = none) (ha : PA X [e, e2, e3] ta)
    (hs : starEach [e, e2, e3] X.env = (false, eval e X.env) :: starEach [e2, e3] X.env := by rfl) (hpl : (backTo pos (starEach [e2, e3] X.env)).any (·.1) = false := by rfl) :
    PI X (.Tuple elts kk tpos) (.Call (.Name "zip" p) [e, e2, e3] [] pos) (iZip3 X.K ta) := by
  constructor
  intro pins s σ H R I h
  refine Call_ (ld_blt I hg hm PyProof.Rows.boot_zip (PyProof.Rows.callWith_type1 (thn (ha.run pos pins s σ H _ I h) fun us s1 ⟨vs, H1, I1, r1, q1⟩ => ?_) hs hpl))
  obtain ⟨a, b, c, xs, ys, zs, ex, t1, t2, t3, q⟩ := q1
  subst ex
  cases r1 with
  | cons r rr =>
    cases rr with
    | cons r' rr =>
      cases rr with
      | cons r'' rr =>
        cases rr
        cases r
        cases r'
        cases r''
        obtain ⟨_, _, p1, _⟩ := I1.tuple t1
        obtain ⟨_, _, p2, _⟩ := I1.tuple t2
        obtain ⟨_, _, p3, _⟩ := I1.tuple t3
        have low : ∀ {d : Addr} {its : Array Value}, IsTup s1.heap d its → d < s1.heap.objs.size := fun t => by
          obtain ⟨o, e, _⟩ := t
          exact Heap.lt_size e
        refine zip_begins3 (begins_tuple a _) (begins_tuple b _) (begins_tuple c _) p1 p2 p3 fun h' hz hTI hTO g1 g2 g3 hsz hk => wpAny_pyIter_zip hz ?_
        have I2 : Inv X pins σ H1 { s1 with heap := h' } := I1.kept (t' := s1.toks) hk
        have S := zip_sep3 (N := s1.heap.objs.size) (fp1 := [a]) (fp2 := [b]) (fp3 := [c]) (fun d hd => by rw [List.mem_singleton.mp hd]; exact low p1) (fun d hd => by rw [List.mem_singleton.mp hd]; exact low p2) (fun d hd => by rw [List.mem_singleton.mp hd]; exact low p3)
        have ne : ∀ {d : Addr} (k : Nat), d < s1.heap.objs.size → d ≠ s1.heap.objs.size + k := fun k lt => Nat.ne_of_lt (Nat.lt_of_lt_of_le lt (Nat.le_add_right _ _))
        refine ⟨_, _, _, _, H1, rfl, I2, turn_z3 S (ne 0 (low p1)) (ne 1 (low p2)) (ne 2 (low p3)), ⟨hz, hTI, ⟨_, _, _, hTO⟩, ⟨_, g1, rfl, rfl⟩, ⟨_, g2, rfl, rfl⟩, ⟨_, g3, rfl, rfl⟩⟩, fun d hd => ?_, q⟩
        have le : s1.heap.objs.size ≤ d := by
          have cases6 : d = s1.heap.objs.size + 5 ∨ d = s1.heap.objs.size + 3 ∨ d = s1.heap.objs.size + 4 ∨ d = s1.heap.objs.size ∨ d = s1.heap.objs.size + 1 ∨ d = s1.heap.objs.size + 2 := by simpa using hd
          rcases cases6 with e | e | e | e | e | e <;> rw [e]
          · exact Nat.le_add_right _ _
          · exact Nat.le_add_right _ _
          · exact Nat.le_add_right _ _
          · exact Nat.le_refl _
          · exact Nat.le_add_right _ _
          · exact Nat.le_add_right _ _
        exact I1.fpOk le (I1.hok.fresh le)
theorem pe_revT {X : Cx} {e : Expr} {te : TE} {k : Nat} {p1 p2 p3 pos : Pos} (he : PE X e te) : PE X (.Subscript e (.Slice none none (some (.UnaryOp .USub (.Constant (.int 1) k p1) p2)) p3) pos) (tRevT X.K te) := by
  constructor
  intro pins s σ H Q I h
  refine Subscript_ (thn (he.run pins s σ H _ I h) fun v s1 ⟨x, H1, I1, r1, a, xs, ex, hx, q⟩ => ?_)
  subst ex
  cases r1
  have minus : PO X (some (.UnaryOp .USub (.Constant (.int 1) k p1) p2)) (tPart (tUn (rU fun i => .int (-i)) (tC (.int 1)))) := po_some (pe_un un_neg pe_int)
  refine wpAny_Slice (thn (po_none.run pins s1 σ H1 (fun o H2 => o = none ∧ H2 = H1) I1 ⟨rfl, rfl⟩) fun vl s2 ⟨l, H2, I2, pl, el, e2⟩ => ?_)
  subst el e2
  refine thn (po_none.run pins s2 σ H2 (fun o H3 => o = none ∧ H3 = H2) I2 ⟨rfl, rfl⟩) fun vu s3 ⟨u, H3, I3, pu, eu, e3⟩ => ?_
  subst eu e3
  refine thn (minus.run pins s3 σ H3 (fun o H4 => o = some (-1) ∧ H4 = H3) I3 ⟨1, rfl, -1, rfl, rfl, rfl⟩) fun vs s4 ⟨o, H4, I4, ps, eo, e4⟩ => ?_
  subst eo e4
  cases pl
  cases pu
  have I5 : Inv X pins σ H4 { s4 with heap := s4.heap.push { cls := .type "slice", data := .fields #[.none, .none, vs] } } := I4.kept (t' := s4.toks) fun b ob q => Heap.get?_push_of_some _ q
  obtain ⟨its, r, ht, hz⟩ := I5.tuple hx
  refine tail_any (ops := [.ref a, .ref s4.heap.objs.size]) ht.typeIs PyProof.Rows.slot_tuple_getitem.lookup ?_ (by with_unfolding_all rfl)
  refine getRev ht (Heap.IsSliceOf.new _ .none .none vs) ps (by rw [← r.length]; exact hz) ?_
  refine ⟨.ref _, _, I5.laid (t' := s4.toks) (o := .tup xs.reverse) (fun b ob q => Heap.get?_push_of_some _ q) (Nat.le_refl _) ?_, rfl, q _ (I5.hok.fresh (Nat.le_refl _))⟩
  exact ⟨by rw [List.length_reverse]; exact hz, _, r.reverse, ⟨_, Heap.get?_push_size _ rfl, rfl, 0, rfl⟩⟩
end
end FwT
namespace Fw
open PySem PySem.Spec PyProof.Rows L2 Evl FwD FwS FwT
theorem paired_dp {K : PySem.W.Frag} {H : Hp} : ∀ {xs : List V} {ds : List PyData}, DxAll K H xs ds → Paired (Dx K H) xs ds
  | _, _, .nil => .nil
  | _, _, .cons h t => .cons h (paired_dp t)
theorem dp_paired {K : PySem.W.Frag} {H : Hp} : ∀ {xs : List V} {ds : List PyData}, Paired (Dx K H) xs ds → DxAll K H xs ds
  | _, _, .nil => .nil
  | _, _, .cons h t => .cons h (dp_paired t)
theorem paired_dp0 {K : PySem.W.Frag} {H : Hp} : ∀ {xs : List V} {ds : List PyData}, DpAll K H xs ds → Paired (Dp K H) xs ds
  | _, _, .nil => .nil
  | _, _, .cons h t => .cons h (paired_dp0 t)
theorem dp_paired0 {K : PySem.W.Frag} {H : Hp} : ∀ {xs : List V} {ds : List PyData}, Paired (Dp K H) xs ds → DpAll K H xs ds
  | _, _, .nil => .nil
  | _, _, .cons h t => .cons h (dp_paired0 t)
section
variable {K K' K2 : PySem.W.Frag} {p : Option Addr} {env : List Slot} {Φ : PyData → Prop} {te ta' : TE} {ta : TA} {O : Outs}
/-! ### tests of two classes -/
theorem kitAny2 {t a b : String} {r1 r2 : Bool} (h1 : kitB t a = some r1) (h2 : kitB t b = some r2) : PySem.W.kitAny K (.type t) [.type a, .type b] = some (r1 || r2) := by
  unfold PySem.W.kitAny
  rw [kit_ty h1]
  cases r1 with
  | true => rfl
  | false =>
    show PySem.W.kitAny K (.type t) [.type b] = _
    unfold PySem.W.kitAny
    rw [kit_ty h2]
    cases r2 <;> rfl
theorem e_isi2 {a b : String} (h : WpE K p te env fun x => ∃ b1, kitB (tyD x) a = some b1 ∧ ∃ b2, kitB (tyD x) b = some b2 ∧ Φ (.bool (b1 || b2))) (hK : K' = K := by with_unfolding_all rfl) :
    WpE K p (tCB (rIsiT K') (tCons te (tCons (tTup (tCons (tC (.ty a)) (tCons (tC (.ty b)) tNil))) tNil))) env Φ := fun H0 σ Hk H Q e po en k => by
  subst hK
  refine h H0 σ Hk H _ e po en fun vx x Hk1 H1 g1 rx ⟨b1, h1, b2, h2, f⟩ => ⟨by show 2 ≤ sizeLine; decide, fun q hq => ?_⟩
  have g2 := Go.new (o := .tup [.ty a, .ty b]) g1.kr g1.po hq
  refine ⟨vx, q, [.ty a, .ty b], .type (tyD x), [.type a, .type b], _, rfl, upd_same, .cons (.ty a) (.cons (.ty b) .nil), tyX (dp_mono g2.kr _ (dp_mono g2.kk _ rx)), kitAny2 h1 h2, ?_⟩
  exact k _ _ _ _ (g1.trans g2) (.bl _) f
/-! ### order, sorted, sums -/
theorem od_ord {f : PyData → PyData → Bool} {x y : PyData} (al : PySem.W.alike x y = true) (nn : x ≠ .none) (dp : x.depth ≤ 60) (nx : x.hasDict = false) (ny : y.hasDict = false) (h : Φ (.bool (f x y))) (hK : K' = K := by with_unfolding_all rfl) : OpD K p (rOrd K' f) x y Φ := fun vx vy Hk H Q e po rx ry k => by
  subst hK
  exact ⟨x, y, dx_dp x nx (dp_mono e x rx), dx_dp y ny (dp_mono e y ry), al, nn, dp, k _ _ _ _ (Go.refl e po) (.bl _) h⟩
theorem od_sub_bb {a b : Bool} (h : Φ (.int (b2i a - b2i b))) : OpD K p (fun x y H Q => ∃ a b, x = .bl a ∧ y = .bl b ∧ Q (.int (b2i a - b2i b)) H) (.bool a) (.bool b) Φ := fun vx vy Hk H Q e po rx ry k => by
  rw [dp_bl rx, dp_bl ry]
  exact ⟨a, b, rfl, rfl, k _ _ _ _ (Go.refl e po) (.int _) h⟩
theorem cb_sumT2 {ds : List PyData} (ns : List Int) (hd : ds = ns.map .int) (h : Φ (.int ns.sum)) (hK : K' = K := by with_unfolding_all rfl) : CbD K p (rSumT K') [.tuple ds] Φ := fun vs Hk H Q e po rx k => by
  subst hK
  subst hd
  cases rx with
  | cons rx rr =>
    cases rr
    obtain ⟨a, xs, rfl, hT, r⟩ := dp_tup rx
    have := dpAll_ints r
    subst this
    exact ⟨a, ns, rfl, ex_t e hT, k _ _ _ _ (Go.refl e po) (.int _) h⟩
theorem cb_maxT {ds : List PyData} (n : Int) (ns : List Int) (hd : ds = (n :: ns).map .int) (h : Φ (.int (ns.foldl max n))) (hK : K' = K := by with_unfolding_all rfl) : CbD K p (rMaxT K') [.tuple ds] Φ := fun vs Hk H Q e po rx k => by
  subst hK
  subst hd
  cases rx with
  | cons rx rr =>
    cases rr
    obtain ⟨a, xs, rfl, hT, r⟩ := dp_tup rx
    have := dpAll_ints (ns := n :: ns) r
    subst this
    exact ⟨a, n, ns, rfl, ex_t e hT, k _ _ _ _ (Go.refl e po) (.int _) h⟩
/-- sorted(..), as a new list -/
theorem f_sorted {Ψ : List PyData → Prop} (h : WpA K p ta env fun xs => ∃ ds, xs = [.list ds] ∧ PySem.W.AllAlike ds ∧ PySem.W.Sortable ds ∧ (∀ d ∈ ds, d.depth ≤ 60) ∧ PyData.hasDictAll ds = false ∧ Ψ (sortD ds)) (hK : K' = K := by with_unfolding_all rfl) : WpF K p (tCB (rSortD K') ta) env Ψ := fun H0 σ Hk H Q e po en k => by
  subst hK
  refine h H0 σ Hk H _ e po en fun vs xs Hk1 H1 g1 r ⟨ds, ex, al, so, dp, nd, f⟩ => ?_
  subst ex
  cases r with
  | cons r rr =>
    cases rr
    obtain ⟨a, ws, rfl, hL, r⟩ := dp_lst r
    refine ⟨a, ws, ds, Dp K' Hk1, rfl, ex_l g1.kr hL, paired_dp0 (dxAll_dp ds nd r), fun x d h => dp_mono0 g1.kr d h, al, so, dp, fun ys q hy hq => ?_⟩
    have hp := pot_ne g1.po hq
    exact k q ys (sortD ds) Hk1 _ ((Go.trans g1 (Go.refl g1.kr g1.po)).mut (fresh0 g1 hq) hp (fresh_back g1.kr hq)) (fresh0 g1 hq) (fresh_back g1.kr hq) upd_same (dpAll_dx _ (dp_paired0 hy)) f
/-- list(..), as a new list -/
theorem f_list {Ψ : List PyData → Prop} {r : List V → Hp → VK → Prop} (h : WpE K p te env fun x => ∃ ds, (x = .tuple ds ∨ x = .list ds) ∧ Ψ ds) (hr : r = fun xs H Q => ∃ p ys, xs = [V.ref p] ∧ (SqL K H p ys ∨ SqT K H p ys) ∧ ∀ l, H l = none → Q (.ref l) (upd H l (.lst ys)) := by with_unfolding_all rfl) :
    WpF K p (tCB r (tCons te tNil)) env Ψ := fun H0 σ Hk H Q e po en k => by
  subst hr
  refine h H0 σ Hk H _ e po en fun v x Hk1 H1 g1 rx ⟨ds, ex, f⟩ => ?_
  have fin : ∀ (xs : List V), DxAll K Hk1 xs ds → ∀ l, H1 l = none → Q (.ref l) (upd H1 l (.lst xs)) := fun xs r l hl =>
    k l xs ds Hk1 _ ((Go.trans g1 (Go.refl g1.kr g1.po)).mut (fresh0 g1 hl) (pot_ne g1.po hl) (fresh_back g1.kr hl)) (fresh0 g1 hl) (fresh_back g1.kr hl) upd_same r f
  rcases ex with rfl | rfl
  · obtain ⟨a, xs, rfl, hT, r⟩ := dp_tup rx
    exact ⟨a, xs, rfl, .inr (ex_t g1.kr hT), fin xs r⟩
  · obtain ⟨a, xs, rfl, hT, r⟩ := dp_lst rx
    exact ⟨a, xs, rfl, .inl (ex_l g1.kr hT), fin xs r⟩
/-- a slice of a list, a new one -/
theorem f_slL {Ψ : List PyData → Prop} {tl th : TO} (h : WpE K p te env fun x => WpO K p tl env fun l => WpO K p th env fun u => ∃ ds, x = .list ds ∧ Ψ (cutD ds l u)) (hK : K' = K := by with_unfolding_all rfl) : WpF K p (tSl (rSlL K') te tl th) env Ψ := fun H0 σ Hk H Q e po en k => by
  subst hK
  refine h H0 σ Hk H _ e po en fun v x Hk1 H1 g1 rx h1 => h1 H0 σ Hk1 H1 _ g1.kr g1.po (en.go g1) fun l Hk2 H2 g2 h2 => h2 H0 σ Hk2 H2 _ g2.kr g2.po ((en.go g1).go g2) fun u Hk3 H3 g3 ⟨ds, ex, f⟩ => ?_
  subst ex
  have g := (g1.trans g2).trans g3
  obtain ⟨a, xs, rfl, hL, r⟩ := dp_lst (dp_mono g3.kk _ (dp_mono g2.kk _ rx))
  refine ⟨a, xs, rfl, ex_l g3.kr hL, fun q hq => ?_⟩
  refine k q _ (cutD ds l u) Hk3 _ (g.mut (fresh0 g hq) (pot_ne g.po hq) (fresh_back g.kr hq)) (fresh0 g hq) (fresh_back g.kr hq) upd_same ?_ f
  unfold cutV cutD
  rw [dpAll_len r]
  exact dpAll_take _ (dpAll_drop _ r)
theorem f_revL {Ψ : List PyData → Prop} (h : WpE K p te env fun x => ∃ ds, x = .list ds ∧ Ψ ds.reverse) (hK : K' = K := by with_unfolding_all rfl) : WpF K p (tRevL K' te) env Ψ := fun H0 σ Hk H Q e po en k => by
  subst hK
  refine h H0 σ Hk H _ e po en fun v x Hk1 H1 g rx ⟨ds, ex, f⟩ => ?_
  subst ex
  obtain ⟨a, xs, rfl, hL, r⟩ := dp_lst rx
  refine ⟨a, xs, rfl, ex_l g.kr hL, fun q hq => ?_⟩
  exact k q _ ds.reverse Hk1 _ ((Go.trans g (Go.refl g.kr g.po)).mut (fresh0 g hq) (pot_ne g.po hq) (fresh_back g.kr hq)) (fresh0 g hq) (fresh_back g.kr hq) upd_same (dpAll_rev r) f
theorem e_revT (h : WpE K p te env fun x => ∃ ds, x = .tuple ds ∧ Φ (.tuple ds.reverse)) (hK : K' = K := by with_unfolding_all rfl) : WpE K p (tRevT K' te) env Φ := fun H0 σ Hk H Q e po en k => by
  subst hK
  refine h H0 σ Hk H _ e po en fun v x Hk1 H1 g rx ⟨ds, ex, f⟩ => ?_
  subst ex
  obtain ⟨a, xs, rfl, hT, r⟩ := dp_tup rx
  refine ⟨a, xs, rfl, ex_t g.kr hT, fun q hq => ?_⟩
  exact k _ _ _ _ (g.trans (Go.new g.kr g.po hq)) (.tup (SqT.of upd_same) (dpAll_mono (Ex.new (fresh_back g.kr hq)) _ (dpAll_rev r))) f
end
end Fw
namespace FwU
open PySem PySem.Spec PyProof.Rows L2
/-- list + list, both known or not -/
def rCatL (K : PySem.W.Frag) : R2 := fun x y H Q => ∃ a b xs ys, x = .ref a ∧ y = .ref b ∧ SqL K H a xs ∧ SqL K H b ys ∧ xs.length + ys.length ≤ sizeLine ∧ ∀ p, H p = none → Q (.ref p) (upd H p (.lst (xs ++ ys)))
theorem op_catL {X : Cx} : OpR X (binaryOp .Add) (rCatL X.K) := fun pins s σ H x y v u Q I rx ry h => by
  obtain ⟨a, b, xs, ys, rfl, rfl, ha, hb, hz, q⟩ := h
  cases rx
  cases ry
  obtain ⟨its, r, hl, _⟩ := I.list ha
  obtain ⟨its2, r2, hl2, _⟩ := I.list hb
  have l1 := r.length
  have l2 := r2.length
  obtain ⟨⟨cls, dd, data, sl⟩, ho, hc, n, hd⟩ := hl.isList
  obtain ⟨⟨cls2, dd2, data2, sl2⟩, ho2, hc2, n2, hd2⟩ := hl2.isList
  simp only at hc hd hc2 hd2
  subst hc hd hc2 hd2
  refine concat_meets ⟨_, ho, rfl⟩ ⟨_, ho2, rfl⟩ noFill_list_add seq_list_add PySem.F.slot_list_add PySem.F.entry_list_add (PySem.F.args_list_add_2 _ _) (list_addW a b its.toArray its2.toArray n n2 dd dd2 sl sl2 (by rw [List.size_toArray, List.size_toArray]; omega)) ⟨ho, ho2, ?_⟩
  have ea : its.toArray ++ its2.toArray = (its ++ its2).toArray := by simp
  rw [ea]
  exact ⟨.ref _, _, I.lnew (t' := s.toks) (r.append r2) (by rw [List.length_append]; omega), rfl, q _ I.fresh⟩
/-- a walk over a list or a tuple -/
def iAny (K : PySem.W.Frag) (tl : TE) : L2.TI := fun σ H R => tl σ H fun x H1 => (∃ a, x = .ref a ∧ (∃ xs, SqL K H1 a xs) ∧ R (Itl K a) H1) ∨ ∃ a, x = .ref a ∧ (∃ xs, SqT K H1 a xs) ∧ R (Itt K a) H1
theorem pi_any {X : Cx} {tg l : Expr} {tl : TE} (hl : PE X l tl) : PI X tg l (iAny X.K tl) := by
  refine ⟨fun pins s σ H R I h => ?_⟩
  refine thn (hl.run pins s σ H _ I h) fun v s1 ⟨x, H1, I1, r1, q1⟩ => ?_
  rcases q1 with ⟨a, e, ⟨xs, hq⟩, q⟩ | ⟨a, e, ⟨xs, hq⟩, q⟩
  · subst e
    cases r1
    obtain ⟨its, rv, p, hz⟩ := I1.list hq
    refine wpAny_pyIter_list p.isList ?_
    refine ⟨s1.heap.objs.size, [s1.heap.objs.size], _, _, H1, rfl, I1.kept (t' := s1.toks) fun b o e => Heap.get?_push_of_some _ e, turn_list a _, ⟨_, Heap.get?_push_size _ rfl, rfl, rfl⟩, fun b hb => ?_, q⟩
    have e : b = s1.heap.objs.size := by simpa using hb
    subst e
    exact I1.fpOk (Nat.le_refl _) (I1.hok.fresh (Nat.le_refl _))
  · subst e
    cases r1
    obtain ⟨its, rv, p, hz⟩ := I1.tuple hq
    refine wpAny_pyIter_tuple (show s1.heap.IsTuple a its.toArray from p) ?_
    refine ⟨s1.heap.objs.size, [s1.heap.objs.size], _, _, H1, rfl, I1.kept (t' := s1.toks) fun b o e => Heap.get?_push_of_some _ e, turn_tuple a _, ⟨_, Heap.get?_push_size _ rfl, rfl, rfl⟩, fun b hb => ?_, q⟩
    have e : b = s1.heap.objs.size := by simpa using hb
    subst e
    exact I1.fpOk (Nat.le_refl _) (I1.hok.fresh (Nat.le_refl _))
end FwU
namespace Fw
open PySem PySem.Spec PyProof.Rows L2 Evl FwD FwS FwT FwU
theorem flat_ints0 : ∀ ns : List Int, flatAllD (ns.map PyData.int) = true
  | [] => by simp [flatAllD]
  | n :: ns => by
    have := flat_ints0 ns
    simp [flatAllD, flatD] at this ⊢
    exact this
theorem flat_tupI (ns : List Int) : flatD (.tuple (ns.map PyData.int)) = true := by
  have := flat_ints0 ns
  simp [flatD] at this ⊢
  exact this
section
variable {K K' K2 : PySem.W.Frag} {p : Option Addr} {env : List Slot} {Φ : PyData → Prop} {te tb : TE} {ta : TA} {O : Outs}
/-- list + list, the one known, the other known: a new one -/
theorem f_catL {Ψ : List PyData → Prop} (h : WpE K p te env fun x => WpE K p tb env fun y => ∃ ds es, x = .list ds ∧ y = .list es ∧ ds.length + es.length ≤ 100000 ∧ Ψ (ds ++ es)) (hK : K' = K := by with_unfolding_all rfl) : WpF K p (tOp (rCatL K') te tb) env Ψ := fun H0 σ Hk H Q e po en k => by
  subst hK
  refine h H0 σ Hk H _ e po en fun v x Hk1 H1 g1 rx h1 => h1 H0 σ Hk1 H1 _ g1.kr g1.po (en.go g1) fun w y Hk2 H2 g2 ry ⟨ds, es, ex, ey, hz, f⟩ => ?_
  subst ex ey
  have g := g1.trans g2
  obtain ⟨a, xs, rfl, hL, r⟩ := dp_lst (dp_mono g2.kk _ rx)
  obtain ⟨b, ys, rfl, hM, u⟩ := dp_lst ry
  refine ⟨a, b, xs, ys, rfl, rfl, ex_l g.kr hL, ex_l g.kr hM, sz_of (by rw [dpAll_len r, dpAll_len u]; exact hz), fun q hq => ?_⟩
  exact k q _ (ds ++ es) Hk2 _ (g.mut (fresh0 g hq) (pot_ne g.po hq) (fresh_back g.kr hq)) (fresh0 g hq) (fresh_back g.kr hq) upd_same (dpAll_app r u) f
/-- two names, the second for a new list -/
theorem s_parF {i j : Nat} (h : WpE K p te env fun x => WpF K p tb env fun ds => O.nx ((env.set i (.dat x)).set j (.own ds))) : WpS K p (tPar i j (tCons te (tCons tb tNil))) env O := fun H0 Hk0 σ Hk H D g en k =>
  h H0 σ Hk H _ g.kr g.po en fun v x Hk1 H1 g1 rx h1 => h1 H0 σ Hk1 H1 _ g1.kr g1.po (en.go g1) fun l vs ds Hk' H' g' h0 hk hl r f => by
    have gg := g.trans g1
    refine ⟨v, .ref l, rfl, k.nx _ _ Hk' H' (gg.trans g') ?_ f⟩
    exact En.add_own ((en.go g1).set rx) (((en.go g1).go g').set (dp_mono g'.kk x rx)) (fresh0 gg h0) h0 hl hk (pot_ne g1.po h0) r
/-- two places of an own list are set at once -/
theorem s_set2 {i j1 j2 : Nat} {ds : List PyData} {k1 k2 : Int} (n1 n2 : Nat) (hi : env[i]? = some (.own ds)) (h1 : env[j1]? = some (.dat (.int k1))) (h2 : env[j2]? = some (.dat (.int k2))) (e1 : ixN ds.length k1 = some n1) (e2 : ixN ds.length k2 = some n2)
    (h : WpE K p te env fun d => ∃ a b, d = .tuple [a, b] ∧ O.nx (env.set i (.own ((ds.set n1 a).set n2 b)))) (hK : K' = K := by with_unfolding_all rfl) :
    WpS K p (tAsg te (gTup K' 2 (gCons (gSub (tVar i) (tVar j1) rSetL) (gCons (gSub (tVar i) (tVar j2) rSetL) gNil)))) env O := fun H0 Hk0 σ Hk H D g en k => by
  subst hK
  refine h H0 σ Hk H _ g.kr g.po en fun v d Hk' H' g' r ⟨a, b, ed, q⟩ => ?_
  subst ed
  obtain ⟨t, xs, rfl, hT, rx⟩ := dp_tup r
  cases rx with
  | @cons va _ _ _ ra r2 =>
    cases r2 with
    | @cons vb _ _ _ rb r3 =>
      cases r3
      have en' := en.go g'
      obtain ⟨ov, s1, l, vs, rfl, h0, hk, hp, hl, rr⟩ := en'.slot i _ hi
      obtain ⟨_, q1, v1, rfl, r1⟩ := en'.slot j1 _ h1
      obtain ⟨_, q2, v2, rfl, r2⟩ := en'.slot j2 _ h2
      have z1 := dp_int r1
      have z2 := dp_int r2
      subst z1 z2
      have hlen := dpAll_len rr
      have hlt : i < env.length := (List.getElem?_eq_some_iff.mp hi).1
      have enA := en'.put_own (ws := vs.set n1 va) hi s1 (dpAll_set ra n1 rr)
      have iA : (env.set i (.own (ds.set n1 a)))[i]? = some (.own (ds.set n1 a)) := by rw [List.getElem?_set]; simp [hlt]
      have enB := enA.put_own (ws := (vs.set n1 va).set n2 vb) iA s1 (dpAll_set rb n2 (dpAll_set ra n1 rr))
      rw [List.set_set] at enB
      have gA := (g.trans g').mut (o := .lst (vs.set n1 va)) h0 hp hk
      have gB := gA.mut (o := .lst ((vs.set n1 va).set n2 vb)) h0 hp hk
      refine ⟨t, _, rfl, ex_t g'.kr hT, rfl, va, _, rfl, .ref l, s1, .int k1, q1, l, vs, k1, n1, rfl, rfl, hl, by rw [hlen]; exact e1, vb, [], rfl, .ref l, s1, .int k2, q2, l, _, k2, n2, rfl, rfl, upd_same, by rw [List.length_set, hlen]; exact e2, rfl, ?_⟩
      exact k.nx _ σ Hk' _ gB enB q
/-- insert into an own list -/
theorem s_ins {i : Nat} {ds : List PyData} {r : V → List V → Hp → VK → Prop} (hi : env[i]? = some (.own ds)) (h : WpE K p te env fun x => WpE K p tb env fun d => ∃ k : Nat, x = .int k ∧ k < 100000 ∧ ds.length < 100000 ∧ O.nx (env.set i (.own (ds.take k ++ [d] ++ ds.drop k)))) (hK : K' = K := by with_unfolding_all rfl)
    (hr : r = fun x vs H Q => ∃ (l : Addr) (xs : List V) (i : Int) (y : V), x = .ref l ∧ vs = [.int i, y] ∧ H l = some (.lst xs) ∧ xs.length < sizeLine ∧ 0 ≤ i ∧ i < 2 ^ 63 ∧ Q .non (upd H l (.lst (xs.take i.toNat ++ [y] ++ xs.drop i.toNat))) := by with_unfolding_all rfl) :
    WpS K p (tDrop (tBM K' "list" r (tVar i) (tCons te (tCons tb tNil)))) env O := fun H0 Hk0 σ Hk H D g en k => by
  subst hK hr
  obtain ⟨ov, s1, l, vs, rfl, h0, hk, hp, hl, rr⟩ := en.slot i _ hi
  refine ⟨.ref l, s1, .inl ⟨rfl, vs, SqL.of hl⟩, h H0 σ Hk H _ g.kr g.po en fun v x Hk1 H1 g1 rx h1 => h1 H0 σ Hk1 H1 _ g1.kr g1.po (en.go g1) fun w d Hk2 H2 g2 rd ⟨n, ex, n1, hz, q⟩ => ?_⟩
  subst ex
  have gg := g1.trans g2
  have hl' : H2 l = some (.lst vs) := gg.rr l _ hp hl
  have hk' : Hk2 l = none := gg.nk l (by rw [hl]; exact nofun) hk
  have e1 := dp_int rx
  subst e1
  refine ⟨l, vs, (n : Int), w, rfl, rfl, hl', sz_lt (by rw [dpAll_len rr]; exact hz), Int.natCast_nonneg n, by omega, ?_⟩
  refine k.nx _ σ Hk2 _ ((g.trans gg).mut h0 hp hk') ?_ q
  have r0 := dpAll_mono gg.kk ds rr
  rw [Int.toNat_natCast]
  exact (en.go gg).put_own hi s1 (dpAll_app (dpAll_app (dpAll_take n r0) (.cons rd .nil)) (dpAll_drop n r0))
variable {Ψ : List PyData → Prop}
theorem i_zip3 (h : WpA K p ta env fun ds => ∃ xs ys zs, ds = [.tuple xs, .tuple ys, .tuple zs] ∧ ys.length = xs.length ∧ zs.length = xs.length ∧ ∃ ts : List PyData, ts.length = xs.length ∧ (∀ (i : Nat) (x y z : PyData), xs[i]? = some x → ys[i]? = some y → zs[i]? = some z → ts[i]? = some (.tuple [x, y, z])) ∧ Ψ ts) (hK : K' = K := by with_unfolding_all rfl) : WpI K p (iZip3 K' ta) env Ψ := fun H0 σ Hk H R e po en k => by
  subst hK
  refine h H0 σ Hk H _ e po en fun vs ds Hk1 H1 g rd ⟨xs, ys, zs, ed, ly, lz, ts, lt, ht, f⟩ => ?_
  subst ed
  cases rd with
  | cons r1 r2 =>
    cases r2 with
    | cons r2 r3 =>
      cases r3 with
      | cons r3 r4 =>
        cases r4
        obtain ⟨a, us, rfl, hS, r⟩ := dp_tup r1
        obtain ⟨b, ws, rfl, hT, u⟩ := dp_tup r2
        obtain ⟨c, qs, rfl, hU, q⟩ := dp_tup r3
        refine ⟨a, b, c, us, ws, qs, rfl, ex_t g.kr hS, ex_t g.kr hT, ex_t g.kr hU, k _ _ Hk1 H1 g (fun Hk2 H2 x1 x2 po2 => ?_) f⟩
        have hS2 : SqT K' H2 a us := ex_t (x1.trans x2) hS
        have hT2 : SqT K' H2 b ws := ex_t (x1.trans x2) hT
        have hU2 : SqT K' H2 c qs := ex_t (x1.trans x2) hU
        have l1 := dpAll_len r
        have l2 := dpAll_len u
        have l3 := dpAll_len q
        rw [lt]
        refine ⟨fun i hi => ⟨us, ws, qs, hS2, hT2, hU2, by omega⟩, ⟨us, ws, qs, hS2, hT2, hU2, by omega⟩, fun i x H' hi y => ?_⟩
        obtain ⟨T, x', y', z', rfl, nT, rfl, f1, f2, f3⟩ := y
        have hi1 : i < xs.length := by omega
        have hi2 : i < ys.length := by omega
        have hi3 : i < zs.length := by omega
        obtain ⟨v, hv, rv⟩ := dpAll_get r (List.getElem?_eq_getElem hi1)
        obtain ⟨w, hw, rw'⟩ := dpAll_get u (List.getElem?_eq_getElem hi2)
        obtain ⟨z, hz, rz⟩ := dpAll_get q (List.getElem?_eq_getElem hi3)
        have e1 : x' = v := Option.some.inj ((f1 us hS2).symm.trans hv)
        have e2 : y' = w := Option.some.inj ((f2 ws hT2).symm.trans hw)
        have e3 : z' = z := Option.some.inj ((f3 qs hU2).symm.trans hz)
        subst e1 e2 e3
        have nk := fresh_back x2 nT
        have xn := Ex.new (o := .tup [x', y', z']) nk
        exact ⟨_, _, ht i _ _ _ (List.getElem?_eq_getElem hi1) (List.getElem?_eq_getElem hi2) (List.getElem?_eq_getElem hi3), .tup (SqT.of upd_same) (.cons (dp_mono xn _ (dp_mono x1 _ rv)) (.cons (dp_mono xn _ (dp_mono x1 _ rw')) (.cons (dp_mono xn _ (dp_mono x1 _ rz)) .nil))), Go.new x2 po2 nT⟩
theorem i_any {tl : TE} (h : WpE K p tl env fun d => ∃ xs, (d = .list xs ∨ d = .tuple xs) ∧ Ψ xs) (hK : K' = K := by with_unfolding_all rfl) : WpI K p (iAny K' tl) env Ψ := fun H0 σ Hk H R e po en k => by
  subst hK
  refine h H0 σ Hk H _ e po en fun v d Hk1 H1 g r ⟨xs, ed, f⟩ => ?_
  rcases ed with rfl | rfl
  · obtain ⟨a, vs, rfl, hS, r⟩ := dp_lst r
    refine .inl ⟨a, rfl, ⟨vs, ex_l g.kr hS⟩, k _ xs Hk1 H1 g (fun Hk2 H2 x1 x2 po2 => ?_) f⟩
    have hS2 : SqL K' H2 a vs := ex_l (x1.trans x2) hS
    have hl := dpAll_len r
    refine ⟨fun i hi => ⟨vs, vs[i]'(by omega), hS2, by simp [hl, hi]⟩, ⟨vs, hS2, by omega⟩, fun i x H' hi y => ?_⟩
    obtain ⟨rfl, y⟩ := y
    obtain ⟨v, hv, rv⟩ := dpAll_get r (List.getElem?_eq_getElem hi)
    have ex : x = v := Option.some.inj ((y vs hS2).symm.trans hv)
    subst ex
    exact ⟨xs[i], Hk2, List.getElem?_eq_getElem hi, dp_mono x1 _ rv, Go.refl x2 po2⟩
  · obtain ⟨a, vs, rfl, hS, r⟩ := dp_tup r
    refine .inr ⟨a, rfl, ⟨vs, ex_t g.kr hS⟩, k _ xs Hk1 H1 g (fun Hk2 H2 x1 x2 po2 => ?_) f⟩
    have hS2 : SqT K' H2 a vs := ex_t (x1.trans x2) hS
    have hl := dpAll_len r
    refine ⟨fun i hi => ⟨vs, vs[i]'(by omega), hS2, by simp [hl, hi]⟩, ⟨vs, hS2, by omega⟩, fun i x H' hi y => ?_⟩
    obtain ⟨rfl, y⟩ := y
    obtain ⟨v, hv, rv⟩ := dpAll_get r (List.getElem?_eq_getElem hi)
    have ex : x = v := Option.some.inj ((y vs hS2).symm.trans hv)
    subst ex
    exact ⟨xs[i], Hk2, List.getElem?_eq_getElem hi, dp_mono x1 _ rv, Go.refl x2 po2⟩
end
end Fw
namespace Fw
open PySem PySem.Spec PyProof.Rows L2 Evl
def isInt : PyData → Bool
  | .int _ => true
  | _ => false
def toI : PyData → Int
  | .int n => n
  | _ => 0
theorem iteB {c : Bool} {A B : Prop} (h1 : c = true → A) (h2 : c = false → B) : if c = true then A else B := by
  cases c with
  | true => exact h1 rfl
  | false => exact h2 rfl
theorem iteNT {A B : Prop} (h : B) : if (!true) = true then A else B := h
theorem iteNF {A B : Prop} (h : A) : if (!false) = true then A else B := h
abbrev swap2 {α : Type} (l : List α) : List α := match l with
  | [a, b] => [b, a]
  | _ => []
abbrev same1 {α : Type} (l : List α) : List α := l
theorem e_callSw {K : PySem.W.Frag} {p : Option Addr} {env : List Slot} {Φ : PyData → Prop} {pre : List PyData → (PyData → Prop) → Prop} {E : XK} {tk : TA} (h : WpA K p tk env fun ds => ∃ a b, ds = [a, b] ∧ pre [b, a] Φ) : WpE K p (tCallK (SpF K pre) (onlyK swap2) E tNil tk) env Φ := fun H0 σ Hk H Q e po en k =>
  h H0 σ Hk H _ e po en fun vs ds Hk1 H1 g1 r ⟨a, b, ed, f⟩ => by
    subst ed
    cases r with
    | cons r1 r2 =>
      cases r2 with
      | cons r2 r3 =>
        cases r3
        exact ⟨Hk1, [b, a], Φ, g1.kr, .cons r2 (.cons r1 .nil), f, fun v d Hk' H' g rd f' => k v d Hk' H' (g1.trans (g.lift g1.po)) rd f'⟩
abbrev swap3 {α : Type} (l : List α) : List α := match l with
  | [a, b, c] => [c, b, a]
  | _ => []
theorem e_callS3 {K : PySem.W.Frag} {p : Option Addr} {env : List Slot} {Φ : PyData → Prop} {pre : List PyData → (PyData → Prop) → Prop} {E : XK} {tk : TA} (h : WpA K p tk env fun ds => ∃ a b c, ds = [a, b, c] ∧ pre [c, b, a] Φ) : WpE K p (tCallK (SpF K pre) (onlyK swap3) E tNil tk) env Φ := fun H0 σ Hk H Q e po en k =>
  h H0 σ Hk H _ e po en fun vs ds Hk1 H1 g1 r ⟨a, b, c, ed, f⟩ => by
    subst ed
    cases r with
    | cons r1 r2 =>
      cases r2 with
      | cons r2 r3 =>
        cases r3 with
        | cons r3 r4 =>
          cases r4
          exact ⟨Hk1, [c, b, a], Φ, g1.kr, .cons r3 (.cons r2 (.cons r1 .nil)), f, fun v d Hk' H' g rd f' => k v d Hk' H' (g1.trans (g.lift g1.po)) rd f'⟩
theorem f_callSw {K : PySem.W.Frag} {p : Option Addr} {env : List Slot} {Ψ : List PyData → Prop} {pre : List PyData → (List PyData → Prop) → Prop} {E : XK} {tk : TA} (h : WpA K p tk env fun ds => ∃ a b, ds = [a, b] ∧ pre [b, a] Ψ) : WpF K p (tCallK (SpN K pre) (onlyK swap2) E tNil tk) env Ψ := fun H0 σ Hk H Q e po en k =>
  h H0 σ Hk H _ e po en fun vs ds Hk1 H1 g1 r ⟨a, b, ed, f⟩ => by
    subst ed
    cases r with
    | cons r1 r2 =>
      cases r2 with
      | cons r2 r3 =>
        cases r3
        exact ⟨Hk1, [b, a], Ψ, g1.kr, .cons r2 (.cons r1 .nil), f, fun l us es Hk' H' g h0 hk hl rd f' => k l us es Hk' H' (g1.trans (g.lift g1.po)) (fresh0 g1 h0) hk hl rd f'⟩
theorem cb_reprI {K : PySem.W.Frag} {p : Option Addr} {Φ : PyData → Prop} {i : Int} (hi : i.natAbs.log2 < 1920) (h : Φ (.str (toString i))) {r : List V → Hp → VK → Prop} (hr : r = fun xs H Q => ∃ i : Int, xs = [V.int i] ∧ i.natAbs.log2 < 1920 ∧ Q (.str (toString i)) H := by with_unfolding_all rfl) : CbD K p r [.int i] Φ := fun vs Hk H Q e po rx k => by
  subst hr
  cases rx with
  | cons rx rr =>
    cases rr
    rw [dp_int rx]
    exact ⟨i, rfl, hi, k _ _ _ _ (Go.refl e po) (.str _) h⟩
theorem e_callS1 {K : PySem.W.Frag} {p : Option Addr} {env : List Slot} {Φ : PyData → Prop} {pre : List PyData → (PyData → Prop) → Prop} {E : XK} {tk : TA} (h : WpA K p tk env fun ds => pre ds Φ) : WpE K p (tCallK (SpF K pre) (onlyK same1) E tNil tk) env Φ := fun H0 σ Hk H Q e po en k =>
  h H0 σ Hk H _ e po en fun vs ds Hk1 H1 g1 r f => ⟨Hk1, ds, Φ, g1.kr, r, f, fun v d Hk' H' g rd f' => k v d Hk' H' (g1.trans (g.lift g1.po)) rd f'⟩
theorem e_repL {K : PySem.W.Frag} {p : Option Addr} {env : List Slot} {Φ : PyData → Prop} {ta : TA} {tb : TE} (h : WpA K p ta env fun xs => xs.length ≤ 100 ∧ WpE K p tb env fun y => ∃ k : Int, y = .int k ∧ 0 ≤ k ∧ k ≤ 1000 ∧ Φ (.list (List.replicate k.toNat xs).flatten)) : WpE K p (tOp rRep (tLst ta) tb) env Φ :=
  e_new (f_rep (f_lst fun H0 σ Hk H Q e po en k => h H0 σ Hk H Q e po en fun vs ds Hk' H' g r f => k vs ds Hk' H' g r ⟨by have := f.1; omega, f.2.mono fun y ⟨n, ey, n0, n1, q⟩ => ⟨n, ey, n0, n1, f.1, q⟩⟩))
theorem s_app2 {K K' : PySem.W.Frag} {p : Option Addr} {env : List Slot} {te : TE} {O : Outs} {i : Nat} {ds : List PyData} (hi : env[i]? = some (.own ds)) (h : WpE K p te env fun d => ds.length < 100000 ∧ O.nx (env.set i (.own (ds ++ [d])))) (hK : K' = K := by with_unfolding_all rfl) : WpS K p (tDrop (tBM K' "list" rAppend (tVar i) (tCons te tNil))) env O := s_app_ hi h hK
theorem iteI {m : Int} {A B : Prop} (h : A) : if isInt (.int m) = true then A else B := h
theorem iteNI {m : Int} {A B : Prop} (h : B) : if (!isInt (.int m)) = true then A else B := h
theorem iteD {c : Prop} [Decidable c] {A B : Prop} (hc : c) (h : A) : if decide c = true then A else B := by
  rw [decide_eq_true hc]
  exact h
theorem iteDF {c : Prop} [Decidable c] {A B : Prop} (hc : ¬ c) (h : B) : if decide c = true then A else B := by
  rw [decide_eq_false hc]
  exact h
theorem iteND {c : Prop} [Decidable c] {A B : Prop} (hc : c) (h : B) : if (!decide c) = true then A else B := by
  rw [decide_eq_true hc]
  exact h
theorem iteNDF {c : Prop} [Decidable c] {A B : Prop} (hc : ¬ c) (h : A) : if (!decide c) = true then A else B := by
  rw [decide_eq_false hc]
  exact h
theorem iteP {c : Prop} [Decidable c] {A B : Prop} (h1 : c → A) (h2 : ¬ c → B) : if decide c = true then A else B := by
  by_cases h : c
  · exact iteD h (h1 h)
  · exact iteDF h (h2 h)
theorem iteNP {c : Prop} [Decidable c] {A B : Prop} (h1 : ¬ c → A) (h2 : c → B) : if (!decide c) = true then A else B := by
  by_cases h : c
  · exact iteND h (h2 h)
  · exact iteNDF h (h1 h)
theorem zip_ints (f : Int → Int → Int) : ∀ xs ys : List Int, List.zipWith (fun a b => PyData.int (f (toI a) (toI b))) (xs.map .int) (ys.map .int) = (List.zipWith f xs ys).map .int
  | [], _ => rfl
  | _ :: _, [] => rfl
  | x :: xs, y :: ys => by
    show PyData.int (f x y) :: List.zipWith (fun a b => PyData.int (f (toI a) (toI b))) (xs.map .int) (ys.map .int) = .int (f x y) :: (List.zipWith f xs ys).map .int
    rw [zip_ints f xs ys]
section
variable {K K' K2 : PySem.W.Frag} {p : Option Addr} {env : List Slot} {te : TE} {Φ : PyData → Prop}
theorem e_mapT {i j : Nat} {vs : List Nat} {xs : List PyData} (f : PyData → PyData) (hi : env[i]? = some (.dat (.tuple xs))) (hz : xs.length ≤ 100000) (hs : ∀ x ∈ xs, WpE K p te ((wipeE env vs).set j (.dat x)) (fun y => y = f x)) (q : Φ (.list (xs.map f))) (hj : j ∈ vs := by decide) (hK : K' = K := by with_unfolding_all rfl) :
    WpE K p (tLc (iTup K' (tVar i)) (gName j) tYes te vs) env Φ :=
  e_map (js := [j]) (fun k hk => by rw [List.mem_singleton.mp hk]; exact hj) (i_tup_ (e_var hi ⟨xs, rfl, hz, f, fun i x hx => g_name (hs x (List.mem_of_getElem? hx)), q⟩) hK)
theorem e_relT {i j : Nat} {vs : List Nat} {xs : List PyData} (R : PyData → PyData → Prop) (hi : env[i]? = some (.dat (.tuple xs))) (hz : xs.length ≤ 100000) (hs : ∀ x ∈ xs, WpE K p te ((wipeE env vs).set j (.dat x)) (fun y => R x y)) (q : ∀ ys : List PyData, ys.length = xs.length → (∀ (i : Nat) (x y : PyData), xs[i]? = some x → ys[i]? = some y → R x y) → Φ (.list ys)) (hj : j ∈ vs := by decide) (hK : K' = K := by with_unfolding_all rfl) :
    WpE K p (tLc (iTup K' (tVar i)) (gName j) tYes te vs) env Φ :=
  e_rel (js := [j]) (fun k hk => by rw [List.mem_singleton.mp hk]; exact hj) (i_tup_ (e_var hi ⟨xs, rfl, hz, R, fun i x hx => g_name (hs x (List.mem_of_getElem? hx)), q⟩) hK)
theorem f_map {wi : TI} {g : TG} {vs js : List Nat} {Φ : List PyData → Prop} (hs : ∀ j ∈ js, j ∈ vs) (h : WpI K p wi env fun xs => xs.length ≤ 100000 ∧ ∃ f : PyData → PyData, (∀ (i : Nat) (x : PyData), xs[i]? = some x → WpG K p js g x (wipeE env vs) fun env2 => WpE K p te env2 (fun y => y = f x)) ∧ Φ (xs.map f)) : WpF K p (tLc wi g tYes te vs) env Φ :=
  f_lc hs fun H0 σ Hk H R e po en k => h H0 σ Hk H R e po en fun J xs Hk' H' g it ⟨hz, f, step, last⟩ => k J xs Hk' H' g it ⟨hz, fun i acc => acc = (xs.take i).map f, rfl, fun i x acc hx inv _ => fun H0 σ Hk H v Q e po en r k =>
    step i x hx H0 σ Hk H v Q e po en r fun σ' env' en' same f' => k σ' env' en' same (t_yes (show WpE K p _ env' _ from f'.mono fun y hy => by
      rw [inv, hy]
      show (xs.take i).map f ++ [f x] = (xs.take (i + 1)).map f
      rw [List.take_add_one, hx, List.map_append]
      rfl)), fun acc _ inv => by
      rw [inv, List.take_length]
      exact last⟩
theorem f_mapL {i j : Nat} {vs : List Nat} {xs : List PyData} {Φ : List PyData → Prop} (f : PyData → PyData) (hi : env[i]? = some (.dat (.list xs))) (hz : xs.length ≤ 100000) (hs : ∀ x ∈ xs, WpE K p te ((wipeE env vs).set j (.dat x)) (fun y => y = f x)) (q : Φ (xs.map f)) (hj : j ∈ vs := by decide) (hK : K' = K := by with_unfolding_all rfl) :
    WpF K p (tLc (iList K' (tVar i)) (gName j) tYes te vs) env Φ :=
  f_map (js := [j]) (fun k hk => by rw [List.mem_singleton.mp hk]; exact hj) (i_list_ (e_var hi ⟨xs, rfl, hz, f, fun i x hx => g_name (hs x (List.mem_of_getElem? hx)), q⟩) hK)
theorem s_nil {O : Outs} {i : Nat} (h : O.nx (env.set i (.own []))) : WpS K p (tAsg (tLst tNil) (gName i)) env O := s_ownF (f_lst (a_nil ⟨Nat.zero_le _, h⟩))
theorem map_zipD (f : PyData → PyData → PyData) (g : PyData → PyData) (hg : ∀ a b, g (.tuple [a, b]) = f a b) : ∀ xs ys : List PyData, (zipD xs ys).map g = List.zipWith f xs ys
  | [], _ => rfl
  | _ :: _, [] => rfl
  | x :: xs, y :: ys => by
    show g (.tuple [x, y]) :: (zipD xs ys).map g = f x y :: List.zipWith f xs ys
    rw [hg, map_zipD f g hg xs ys]
theorem zipD_mem {xs ys : List PyData} {i : Nat} {x : PyData} (h : (zipD xs ys)[i]? = some x) : ∃ a b, x = .tuple [a, b] ∧ a ∈ xs ∧ b ∈ ys := by
  unfold zipD at h
  rw [List.getElem?_zipWith] at h
  cases h1 : xs[i]? with
  | none => rw [h1] at h; cases h
  | some a =>
    cases h2 : ys[i]? with
    | none => rw [h1, h2] at h; cases h
    | some b =>
      rw [h1, h2] at h
      cases h
      exact ⟨a, b, rfl, List.mem_of_getElem? h1, List.mem_of_getElem? h2⟩
def pairF (f : PyData → PyData → PyData) : PyData → PyData
  | .tuple [a, b] => f a b
  | d => d
theorem e_mapZ {i1 i2 j1 j2 : Nat} {vs : List Nat} {xs ys : List PyData} (f : PyData → PyData → PyData) (h1 : env[i1]? = some (.dat (.tuple xs))) (h2 : env[i2]? = some (.dat (.tuple ys))) (hz : xs.length ≤ 100000)
    (hs : ∀ a b, a ∈ xs → b ∈ ys → WpE K p te (((wipeE env vs).set j1 (.dat a)).set j2 (.dat b)) (fun y => y = f a b)) (q : Φ (.list (List.zipWith f xs ys))) (hj1 : j1 ∈ vs := by decide) (hj2 : j2 ∈ vs := by decide) (hK : K' = K := by with_unfolding_all rfl) (hK2 : K2 = K := by with_unfolding_all rfl) :
    WpE K p (tLc (RZ.iZipA K' (tCons (tVar i1) (tCons (tVar i2) tNil))) (gTup K2 2 (gCons (gName j1) (gCons (gName j2) gNil))) tYes te vs) env Φ := by
  refine e_map (js := [j1] ++ ([j2] ++ [])) (fun k hk => ?_) (i_zipT_ (a_cons (e_var h1 (a_cons (e_var h2 (a_nil ⟨xs, ys, rfl, ?_, pairF f, fun i x hx => ?_, ?_⟩))))) hK)
  · simp only [List.append_nil, List.singleton_append, List.mem_cons, List.not_mem_nil, or_false] at hk
    rcases hk with rfl | rfl
    · exact hj1
    · exact hj2
  · rw [zipD_len]
    omega
  · obtain ⟨a, b, rfl, ha, hb⟩ := zipD_mem hx
    exact g_tup_ [a, b] rfl rfl (g_cons (g_name (g_cons (g_name (g_nil (hs a b ha hb)))))) hK2
  · rw [map_zipD f (pairF f) (fun _ _ => rfl)]
    exact q
end
/-! ### ints in data -/
abbrev tupI (ns : List Int) : PyData := .tuple (ns.map .int)
theorem ints_of : ∀ {xs : List PyData}, xs.all isInt = true → xs = (xs.map toI).map .int
  | [], _ => rfl
  | x :: xs, h => by
    rw [List.all_cons, Bool.and_eq_true] at h
    cases x with
    | int n =>
      have ih := ints_of h.2
      show PyData.int n :: xs = PyData.int n :: (xs.map toI).map .int
      rw [← ih]
    | _ => cases h.1
theorem all_ints (ns : List Int) : (ns.map PyData.int).all isInt = true := by
  rw [List.all_map]
  exact List.all_eq_true.mpr fun _ _ => rfl
theorem map_bools {f : PyData → Bool} (xs : List PyData) : xs.map (fun x => PyData.bool (f x)) = (xs.map f).map .bool := by rw [List.map_map]; rfl
theorem all_map_id {α : Type} (f : α → Bool) (xs : List α) : (xs.map f).all id = xs.all f := by rw [List.all_map]; rfl
def innerI (row other : List Int) : Int := (List.zipWith (fun a b => a * b) row other).sum
theorem zipD_ints (f : Int → Int → Int) (g : PyData → PyData) (hg : ∀ a b, g (.tuple [.int a, .int b]) = .int (f a b)) : ∀ xs ys : List Int, (zipD (xs.map .int) (ys.map .int)).map g = (List.zipWith f xs ys).map .int
  | [], _ => rfl
  | _ :: _, [] => rfl
  | x :: xs, y :: ys => by
    show g (.tuple [.int x, .int y]) :: (zipD (xs.map .int) (ys.map .int)).map g = .int (f x y) :: (List.zipWith f xs ys).map .int
    rw [hg, zipD_ints f g hg xs ys]
theorem zipD_at {xs ys : List Int} {i : Nat} {x : PyData} (h : (zipD (xs.map .int) (ys.map .int))[i]? = some x) : ∃ a b, x = .tuple [.int a, .int b] ∧ a ∈ xs ∧ b ∈ ys := by
  unfold zipD at h
  rw [List.getElem?_zipWith, List.getElem?_map, List.getElem?_map] at h
  cases h1 : xs[i]? with
  | none => rw [h1] at h; cases h
  | some a =>
    cases h2 : ys[i]? with
    | none => rw [h1, h2] at h; cases h
    | some b =>
      rw [h1, h2] at h
      cases h
      exact ⟨a, b, rfl, List.mem_of_getElem? h1, List.mem_of_getElem? h2⟩
end Fw
namespace Fw
open PySem PySem.Spec PyProof.Rows L2 Evl
/-! ### data that can be shown and compared -/
structure Tm (d : PyData) (k b : Nat) : Prop where
  sh : d.showable = true
  nd : d.hasDict = false
  cl : d.canLay0 = true
  ls : d.leavesShort 13 = true
  dp : d.depth ≤ k
  bk : d.bulk ≤ b
theorem tm_int {i : Int} (h1 : -999999999999 ≤ i) (h2 : i ≤ 999999999999) : Tm (.int i) 0 0 := by
  have e := PyData.shown_int_le2 h1 h2
  refine ⟨?_, rfl, rfl, ?_, Nat.le_refl _, Nat.le_refl _⟩
  · show decide (i.natAbs.log2 < 1920) = true
    have : i.natAbs.log2 < 40 := by
      by_cases z : i.natAbs = 0
      · rw [z]; decide
      · rw [Nat.log2_lt z]
        omega
    exact decide_eq_true (by omega)
  · show decide ((PyData.shown (.int i)).length ≤ 13) = true
    exact decide_eq_true e
theorem tm_none : Tm .none 0 0 := ⟨rfl, rfl, rfl, rfl, Nat.le_refl _, Nat.le_refl _⟩
theorem tm_bool {b : Bool} : Tm (.bool b) 0 0 := ⟨rfl, rfl, rfl, rfl, Nat.le_refl _, Nat.le_refl _⟩
structure TmAll (xs : List PyData) (k b : Nat) : Prop where
  sh : PyData.showableAll xs = true
  nd : PyData.hasDictAll xs = false
  cl : PyData.canLayAll0 xs = true
  ls : PyData.leavesShortAll 13 xs = true
  dp : PyData.depthAll xs ≤ k
  bk : PyData.bulkAll xs ≤ xs.length * (b + 1)
theorem tm_all {k b : Nat} : ∀ {xs : List PyData}, (∀ x ∈ xs, Tm x k b) → TmAll xs k b
  | [], _ => ⟨rfl, rfl, rfl, rfl, Nat.zero_le _, Nat.zero_le _⟩
  | x :: xs, h => by
    have h1 := h x List.mem_cons_self
    have h2 := tm_all fun y hy => h y (List.mem_cons_of_mem _ hy)
    have e : (x :: xs).length * (b + 1) = xs.length * (b + 1) + (b + 1) := by rw [List.length_cons, Nat.add_mul, Nat.one_mul]
    refine ⟨?_, ?_, ?_, ?_, ?_, ?_⟩
    · show (x.showable && PyData.showableAll xs) = true
      rw [h1.sh, h2.sh]; rfl
    · show (x.hasDict || PyData.hasDictAll xs) = false
      rw [h1.nd, h2.nd]; rfl
    · show (x.canLay0 && PyData.canLayAll0 xs) = true
      rw [h1.cl, h2.cl]; rfl
    · show (x.leavesShort 13 && PyData.leavesShortAll 13 xs) = true
      rw [h1.ls, h2.ls]; rfl
    · show max x.depth (PyData.depthAll xs) ≤ k
      have := h1.dp
      have := h2.dp
      omega
    · show x.bulk + 1 + PyData.bulkAll xs ≤ _
      have := h1.bk
      have := h2.bk
      omega
theorem tm_list {xs : List PyData} {k b n : Nat} (h : ∀ x ∈ xs, Tm x k b) (hn : xs.length ≤ n) : Tm (.list xs) (k + 1) (n * (b + 1)) := by
  have a := tm_all h
  exact ⟨a.sh, a.nd, a.cl, a.ls, Nat.succ_le_succ a.dp, Nat.le_trans a.bk (Nat.mul_le_mul_right _ hn)⟩
theorem tm_tuple {xs : List PyData} {k b n : Nat} (h : ∀ x ∈ xs, Tm x k b) (hn : xs.length ≤ n) : Tm (.tuple xs) (k + 1) (n * (b + 1)) := by
  have a := tm_all h
  exact ⟨a.sh, a.nd, a.cl, a.ls, Nat.succ_le_succ a.dp, Nat.le_trans a.bk (Nat.mul_le_mul_right _ hn)⟩
theorem Tm.mono {d : PyData} {k b k' b' : Nat} (h : Tm d k b) (h1 : k ≤ k') (h2 : b ≤ b') : Tm d k' b' := ⟨h.sh, h.nd, h.cl, h.ls, Nat.le_trans h.dp h1, Nat.le_trans h.bk h2⟩
theorem tm_tupI {ns : List Int} {n : Nat} (h : ∀ m ∈ ns, -999999999999 ≤ m ∧ m ≤ 999999999999) (hn : ns.length ≤ n) : Tm (tupI ns) 1 n := by
  have := tm_tuple (xs := ns.map .int) (k := 0) (b := 0) (n := n) (fun x hx => by
    obtain ⟨m, hm, rfl⟩ := List.mem_map.mp hx
    exact tm_int (h m hm).1 (h m hm).2) (by rw [List.length_map]; exact hn)
  exact this.mono (Nat.le_refl _) (by omega)
theorem Tm.fits {d : PyData} {k b : Nat} (h : Tm d k b) (hb : b ≤ 1000000) : d.shown.length ≤ sizeLine := by
  have := PyData.shown_le_bulk 13 (by decide) d h.ls
  have := h.bk
  rw [sizeLine_eq]
  omega
theorem Tm.shaped {d : PyData} {k b : Nat} (h : Tm d k b) (hk : k ≤ 60) : SeqAt.shaped d = true := by
  unfold SeqAt.shaped
  rw [h.cl, decide_eq_true (show d.depth ≤ 64 from Nat.le_trans h.dp (by omega))]
  rfl
section
variable {K K' : PySem.W.Frag} {p : Option Addr} {Φ : PyData → Prop}
theorem cb_reprT {d : PyData} {k b : Nat} (h : Tm d k b) (hd : isDisplay d = true) (hk : k ≤ 60) (hb : b ≤ 1000000) (q : Φ (.str d.shown)) (hK : K' = K := by with_unfolding_all rfl) : CbD K p (FwE.rReprD K') [d] Φ :=
  cb_reprD_ hd h.sh h.nd (Nat.le_trans h.dp hk) (h.fits hb) q hK
end
end Fw
namespace Fw
open PySem
theorem tm_rows {ms : List (List Int)} {n N : Nat} (h : ∀ m ∈ ms, (∀ c ∈ m, -999999999999 ≤ c ∧ c ≤ 999999999999) ∧ m.length ≤ n) (hn : ms.length ≤ N) : Tm (.list (ms.map fun m => tupI m)) 2 (N * (n + 1)) :=
  tm_list (k := 1) (b := n) (fun x hx => by
    obtain ⟨m, hm, rfl⟩ := List.mem_map.mp hx
    exact tm_tupI (h m hm).1 (h m hm).2) (by rw [List.length_map]; exact hn)
open PySem.Spec PyProof.Rows L2 Evl
theorem ints_all {P : Int → Prop} : ∀ {ys : List PyData}, (∀ y ∈ ys, ∃ c, y = .int c ∧ P c) → ∃ ns : List Int, ys = ns.map .int ∧ ∀ c ∈ ns, P c
  | [], _ => ⟨[], rfl, fun _ h => nomatch h⟩
  | y :: ys, h => by
    obtain ⟨c, rfl, hc⟩ := h y List.mem_cons_self
    obtain ⟨ns, rfl, hn⟩ := ints_all (ys := ys) fun z hz => h z (List.mem_cons_of_mem _ hz)
    refine ⟨c :: ns, rfl, fun d hd => ?_⟩
    rcases List.mem_cons.mp hd with e | e
    · rw [e]; exact hc
    · exact hn d e
theorem e_rngInts {K : PySem.W.Frag} {p : Option Addr} {env : List Slot} {Φ : PyData → Prop} {te : TE} {i j n : Nat} {vs : List Nat} (P : Int → Prop) (hi : env[i]? = some (.dat (.int n))) (hn : n ≤ 1000) (hs : ∀ x : PyData, WpE K p te ((wipeE env vs).set j (.dat x)) (fun y => ∃ c : Int, y = .int c ∧ P c)) (q : ∀ ns : List Int, ns.length = n → (∀ c ∈ ns, P c) → Φ (.list (ns.map .int))) (hj : j ∈ vs := by decide) :
    WpE K p (tLc (iRng1 (tCons (tVar i) tNil)) (gName j) tYes te vs) env Φ := by
  refine e_rel (js := [j]) (fun k hk => by rw [List.mem_singleton.mp hk]; exact hj) (i_rng1 (a_cons (e_var hi (a_nil ⟨_, rfl, by omega, by omega, by rw [rng_len]; omega, fun _ y => ∃ c : Int, y = .int c ∧ P c, fun k x hx => g_name (hs x), fun ys hl hr => ?_⟩))))
  rw [rng_len] at hl
  have : ∀ y ∈ ys, ∃ c, y = .int c ∧ P c := fun y hy => by
    obtain ⟨k, hk, rfl⟩ := List.getElem_of_mem hy
    have hk2 : k < (rng 0 (n : Int).toNat).length := by rw [rng_len]; omega
    exact hr k _ _ (List.getElem?_eq_getElem hk2) (List.getElem?_eq_getElem hk)
  obtain ⟨ns, rfl, h⟩ := ints_all this
  rw [List.length_map] at hl
  exact q ns (by omega) h
section
variable {K K' : PySem.W.Frag} {p : Option Addr} {env : List Slot} {Φ : PyData → Prop}
theorem set_other {i j : Nat} {s t u : Slot} (hi : env[i]? = some s) (hj : env[j]? = some t) (ne : s ≠ t) : (env.set i u)[j]? = some t := by
  rw [List.getElem?_set_ne]
  · exact hj
  · intro e
    subst e
    rw [hi] at hj
    exact ne (Option.some.inj hj)
theorem e_ixO {i j : Nat} {ds : List PyData} {k : Int} {d : PyData} (hi : env[i]? = some (.own ds)) (hj : env[j]? = some (.dat (.int k))) (ha : atI ds k = some d) (fl : flatD d = true) (h : Φ d) (hK : K' = K := by with_unfolding_all rfl) : WpE K p (tOp (rIxL K') (tVar i) (tVar j)) env Φ :=
  e_own hi (e_op (e_var (by rw [List.getElem?_set]; simp [(List.getElem?_eq_some_iff.mp hi).1]) (e_var (set_other hi hj (fun z => nomatch z)) (od_ixL_ ha ⟨fl, h⟩ hK))))
theorem e_ixOc {i : Nat} {ds : List PyData} {k : Int} {d : PyData} (hi : env[i]? = some (.own ds)) (ha : atI ds k = some d) (fl : flatD d = true) (h : Φ d) (hK : K' = K := by with_unfolding_all rfl) : WpE K p (tOp (rIxL K') (tVar i) (tC (.int k))) env Φ :=
  e_own hi (e_op (e_var (by rw [List.getElem?_set]; simp [(List.getElem?_eq_some_iff.mp hi).1]) (e_int (od_ixL_ ha ⟨fl, h⟩ hK))))
theorem e_ixOn {i : Nat} {ds : List PyData} {d : PyData} (hi : env[i]? = some (.own ds)) (ha : atI ds (-1) = some d) (fl : flatD d = true) (h : Φ d) (hK : K' = K := by with_unfolding_all rfl) : WpE K p (tOp (rIxL K') (tVar i) (tUn (rU fun i => .int (-i)) (tC (.int 1)))) env Φ :=
  e_own hi (e_op (e_var (by rw [List.getElem?_set]; simp [(List.getElem?_eq_some_iff.mp hi).1]) (e_un (e_int (ud_neg (od_ixL_ ha ⟨fl, h⟩ hK))))))
theorem e_lenO {i : Nat} {ds : List PyData} {r : List V → Hp → VK → Prop} (hi : env[i]? = some (.own ds)) (h : Φ (.int ds.length)) (hr : r = fun xs H Q => ∃ p ys, xs = [.ref p] ∧ (SqL K H p ys ∨ SqT K H p ys) ∧ Q (.int ys.length) H := by with_unfolding_all rfl) : WpE K p (tCB r (tCons (tVar i) tNil)) env Φ :=
  e_own hi (e_cb (a_cons (e_var (by rw [List.getElem?_set]; simp [(List.getElem?_eq_some_iff.mp hi).1]) (a_nil (cb_len_ (.inr rfl) ⟨rfl, h⟩ hr)))))
theorem e_ixO2 {i j : Nat} {ds : List PyData} {k : Int} (hi : env[i]? = some (.own ds)) (hj : env[j]? = some (.dat (.int k))) (h : ∃ d, atI ds k = some d ∧ flatD d = true ∧ Φ d) (hK : K' = K := by with_unfolding_all rfl) : WpE K p (tOp (rIxL K') (tVar i) (tVar j)) env Φ := by
  obtain ⟨d, a, b, c⟩ := h
  exact e_ixO hi hj a b c hK
theorem e_ixOc2 {i : Nat} {ds : List PyData} {k : Int} (hi : env[i]? = some (.own ds)) (h : ∃ d, atI ds k = some d ∧ flatD d = true ∧ Φ d) (hK : K' = K := by with_unfolding_all rfl) : WpE K p (tOp (rIxL K') (tVar i) (tC (.int k))) env Φ := by
  obtain ⟨d, a, b, c⟩ := h
  exact e_ixOc hi a b c hK
theorem e_ixOn2 {i : Nat} {ds : List PyData} (hi : env[i]? = some (.own ds)) (h : ∃ d, atI ds (-1) = some d ∧ flatD d = true ∧ Φ d) (hK : K' = K := by with_unfolding_all rfl) : WpE K p (tOp (rIxL K') (tVar i) (tUn (rU fun i => .int (-i)) (tC (.int 1)))) env Φ := by
  obtain ⟨d, a, b, c⟩ := h
  exact e_ixOn hi a b c hK
theorem ixN_nat {n : Nat} {k : Int} (h0 : 0 ≤ k) (h1 : k < n) : ixN n k = some k.toNat := by
  unfold ixN
  rw [if_pos h0, if_pos h1]
end
end Fw
/-! sorted of a set of tuples of ints -/
namespace FwW
open PySem PySem.Spec PyProof.Rows L2
theorem perm_map {α β : Type} (f : α → β) : ∀ {us vs : List β}, us.Perm vs → ∀ L : List α, vs = L.map f → ∃ M : List α, us = M.map f ∧ M.Perm L := by
  intro us vs p
  induction p with
  | nil =>
    intro L e
    cases L with
    | nil => exact ⟨[], rfl, .nil⟩
    | cons _ _ => cases e
  | @cons x l m _ ih =>
    intro L e
    cases L with
    | nil => cases e
    | cons q L =>
      simp only [List.map_cons, List.cons.injEq] at e
      obtain ⟨M, e1, e2⟩ := ih L e.2
      exact ⟨q :: M, by rw [List.map_cons, e.1, e1], e2.cons q⟩
  | swap x y l =>
    intro L e
    match L, e with
    | q :: r :: L, e =>
      simp only [List.map_cons, List.cons.injEq] at e
      exact ⟨r :: q :: L, by rw [List.map_cons, List.map_cons, e.1, e.2.1, e.2.2], List.Perm.swap q r L⟩
  | trans _ _ ih1 ih2 =>
    intro L e
    obtain ⟨M, e1, e2⟩ := ih2 L e
    obtain ⟨N, f1, f2⟩ := ih1 M e1
    exact ⟨N, f1, f2.trans e2⟩
abbrev rowT (q : Addr × List Int) : PyData := .tuple (q.2.map .int)
theorem each_refs : ∀ L : List (Addr × List Int), PySem.W.EachIs (fun (v : Value) (q : Addr × List Int) => v = Value.ref q.1) (L.map fun q => Value.ref q.1) L
  | [] => .nil
  | _ :: L => .cons rfl (each_refs L)
theorem refs_each : ∀ {us : List Value} {L : List (Addr × List Int)}, PySem.W.EachIs (fun (v : Value) (q : Addr × List Int) => v = Value.ref q.1) us L → us = L.map fun q => Value.ref q.1
  | _, _, .nil => rfl
  | _, _, .cons h t => by rw [List.map_cons, h, refs_each t]
theorem each_ref {R : Value → Addr × List Int → Prop} : ∀ {L : List (Addr × List Int)}, (∀ q ∈ L, R (Value.ref q.1) q) → PySem.W.EachIs R (L.map fun q => Value.ref q.1) L
  | [], _ => .nil
  | q :: L, h => .cons (h q List.mem_cons_self) (each_ref fun r hr => h r (List.mem_cons_of_mem _ hr))
theorem alike_all : ∀ a b : List Int, PySem.W.alikeAll (a.map .int) (b.map .int) = true
  | [], _ => by simp [PySem.W.alikeAll]
  | _ :: _, [] => by simp [PySem.W.alikeAll]
  | x :: a, y :: b => by
    have ih := alike_all a b
    simp [PySem.W.alikeAll, PySem.W.alike, ih]
theorem deep_ints : ∀ m : List Int, PyData.depthAll (m.map .int) = 0
  | [] => rfl
  | x :: m => by
    show max (PyData.depth (.int x)) (PyData.depthAll (m.map .int)) = 0
    rw [deep_ints m]
    rfl
theorem lt_rows (a b : List Int) : PySem.W.dataLt (.tuple (a.map .int)) (.tuple (b.map .int)) = decide (a < b) := by
  rw [PySem.W.dataLt_tuple]
  exact PySem.W.dataLt_ints a b
section
variable {P : Program} {w : World} {A : Around} {E : Value → Shared → Prop} {s : Shared}
theorem sorted_setD {a : Addr} {L : List (Addr × List Int)} {es : Array (Int × Value)} {ep : Nat} {t : SetTable} {Q : Value → Shared → Prop} (R : SetTR P w s.heap a L es ep t) (hh : A.handled = none) (hu : A.units + 64 < cLine)
    (rd : ∀ q ∈ L, ∃ o n its, s.heap.get? q.1 = some o ∧ o.cls = .type "tuple" ∧ o.data = .seq its n ∧ ReadsAll s.heap its.toList (q.2.map .int) []) (ne : ∀ q ∈ L, q.2 ≠ [])
    (hQ : ∀ (s' : Shared) (p : Addr) (out : List Value) (c : Nat) (M : List (Addr × List Int)), (∀ b o, s.heap.get? b = some o → s'.heap.get? b = some o) → s'.gens = s.gens → s'.os = s.os → s.heap.objs.size ≤ p → s'.heap.get? p = some (seqObj "list" out.toArray c) →
      out = M.map (fun q => Value.ref q.1) → M.Perm L → M.Pairwise (fun q r => ¬ r.2 < q.2) → Q (.ref p) s') : wpAny (model P w) A (call (.builtin "sorted") [.ref a]) Q E s := by
  obtain ⟨o, ho, hex, hd⟩ := R.ob
  have hsz := R.size
  have hfew := R.few
  refine Calls.call_function_entry kind_sorted plain_sorted entry_sorted (args_sorted1 _) ?_
  unfold Builtin.«sorted»
  refine wpAny_bind (m := checkCount "sorted" 1 1 _) (wpAny_pure ?_)
  refine wpAny_bind (collect_set (A := A.in1) hh ⟨o, ho, hex.1, hd⟩ R.fits (by unfold scanBound; omega) R.tab.ris R.led fun s1 vs k1 hz g1 o1 pm => ?_)
  have hes : es.toList.map (·.2) = L.map fun q => Value.ref q.1 := by
    rw [R.rows]
    unfold rowsOf
    rw [List.map_map] <;> rfl
  rw [hes] at pm
  obtain ⟨M, rfl, pM⟩ := perm_map _ pm L rfl
  have hml : M.length < 64 := by rw [pM.length_eq]; exact hfew
  refine wpAny_bind (wpAny_newList ?_ (by rw [sizeLine_eq, List.length_map]; omega))
  have hoL : (s1.heap.push (seqObj "list" (M.map fun q => Value.ref q.1).toArray 0)).get? s1.heap.objs.size = some (seqObj "list" (M.map fun q => Value.ref q.1).toArray 0) := Heap.get?_push_size _ rfl
  have rdM : ∀ q ∈ M, ∃ as, Reads (s1.heap.push (seqObj "list" (M.map fun q => Value.ref q.1).toArray 0)) (Value.ref q.1) (rowT q) as ∧ s1.heap.objs.size ∉ as := fun q hq => by
    obtain ⟨o, n, its, h1, h2, h3, h4⟩ := rd q (pM.mem_iff.mp hq)
    refine ⟨[], ?_, by simp⟩
    exact .tuple (Heap.get?_push_of_some _ (k1 _ _ h1)) h2 h3 (PyProof.Rows.ReadsAll.keeps (fun b u e => Heap.get?_push_of_some _ (k1 b u e)) h4)
  refine wpAny_bind (wpAny_holding (PySem.W.list_sort_data (s := { s1 with heap := s1.heap.push (seqObj "list" (M.map fun q => Value.ref q.1).toArray 0) }) (enc := rowT) (bs := M) hoL (each_refs M) (each_ref rdM) (fun d hd d' hd' => ?_) (.inl fun d hd => ?_) (by rw [sizeLine_eq]; omega) (fun q _ => ?_) fun out ho' hb => ?_))
  · obtain ⟨q, _, rfl⟩ := List.mem_map.mp hd
    obtain ⟨r, _, rfl⟩ := List.mem_map.mp hd'
    have := alike_all q.2 r.2
    simpa [PySem.W.alike] using this
  · obtain ⟨q, hq, rfl⟩ := List.mem_map.mp hd
    cases e : q.2 with
    | nil => exact absurd e (ne q (pM.mem_iff.mp hq))
    | cons x r => exact ⟨.int x, r.map .int, by show PyData.tuple (q.2.map .int) = _; rw [e]; rfl⟩
  · show A.in1.units + 1 + (PyData.depthAll (q.2.map .int) + 1) < cLine
    rw [deep_ints]
    simp only [Around.in1_units]
    omega
  · have eo := refs_each hb
    obtain ⟨c, hc⟩ := sortedHeap_at (vs := M.map fun q => Value.ref q.1) (out := out.toArray) hoL
    have T := PySem.W.sortLe_total (PyProof.Rows.listOrd PyProof.Rows.itemOrd) false fun q : Addr × List Int => PySem.W.keyToks (rowT q)
    have pw := List.pairwise_mergeSort (le := PySem.W.dataLe false rowT) (fun a b c h1 h2 => T.trans _ _ _ h1 h2) (fun a b => by
      rcases T.total a b with h | h
      · exact Bool.or_eq_true_iff.mpr (.inl h)
      · exact Bool.or_eq_true_iff.mpr (.inr h)) M
    refine wpAny_pure ⟨_, rfl, hQ _ s1.heap.objs.size out c _ (fun b u e => ?_) g1 o1 hz hc eo ((List.mergeSort_perm _ _).trans pM) (pw.imp fun {q r} h => ?_)⟩
    · have q := k1 b u e
      have hlt := Heap.lt_size q
      show (sortedHeap (s1.heap.push (seqObj "list" (M.map fun q => Value.ref q.1).toArray 0)) s1.heap.objs.size (M.map fun q => Value.ref q.1) out.toArray).get? b = some u
      rw [sortedHeap_old (Nat.ne_of_lt hlt) (by rw [size_push']; exact Nat.lt_succ_of_lt hlt)]
      exact Heap.get?_push_of_some _ q
    · have h3 : (!PySem.W.dataLt (rowT r) (rowT q)) = true := h
      rw [lt_rows] at h3
      simpa using h3
end
def rSortS (K : PySem.W.Frag) (P : Program) (w : World) : List V → Hp → VK → Prop := fun vs H Q => ∃ (a : Addr) (L : List (Addr × List Int)), vs = [V.ref a] ∧ H a = some (SetTO P w a L) ∧ (∀ p ∈ L, SqT K H p.1 (p.2.map V.int)) ∧ (∀ p ∈ L, p.2 ≠ []) ∧
  ∀ (M : List (Addr × List Int)) (p : Addr), M.Perm L → (M.map (·.2)).Nodup → M.length < 64 → M.Pairwise (fun q r => ¬ r.2 < q.2) → H p = none → Q (.ref p) (upd H p (.lst (M.map fun q => V.ref q.1)))
theorem vals_ints0 {h : Heap} : ∀ {us : List Value} {ns : List Int}, Vals (ns.map V.int) us → ReadsAll h us (ns.map .int) [] := FwT.reads_ints
theorem cr_sortedS {X : Cx} (hc : X.calm = true) (hu : X.A.units + 64 < cLine) : CallR X (.builtin "sorted") (rSortS X.K X.prog X.w) := fun pins s σ H vs us Q I r h => by
  obtain ⟨a, L, rfl, ha, hk, ne, q⟩ := h
  have R0 : SetT0 X.prog X.w s.heap a L := (I.hok a _ ha).1
  obtain ⟨es, ep, t, R⟩ := R0.full fun p hp => I.isT (hk p hp)
  rw [Vals.ref1 r]
  refine sorted_setD R (I.ok.hd hc) hu (fun p hp => ?_) ne fun s' p out c M k g o hp hg hout pm pw => ?_
  · obtain ⟨its, rv, ⟨ob, hob, hcl, n, hdt⟩, _⟩ := I.tuple (hk p hp)
    refine ⟨ob, n, its.toArray, hob, hcl, hdt, ?_⟩
    rw [List.toList_toArray]
    exact vals_ints0 rv
  · have few : M.length < 64 := by rw [pm.length_eq]; exact R.few
    have len : (M.map fun q => V.ref q.1).length ≤ sizeLine := by rw [List.length_map, sizeLine_eq]; omega
    have nn : H p = none := I.hok.fresh hp
    have vv : Vals (M.map fun q => V.ref q.1) out := by rw [hout]; exact vals_of_refs M
    have J : Inv X pins σ (upd H p (.lst (M.map fun q => V.ref q.1))) { s with heap := s'.heap, gens := s'.gens, drawn := s'.drawn, toks := s'.toks } :=
      I.call (ch := []) (Un.laid k hp nn) (I.hok.laid k hp ⟨len, out, c, vv, hg⟩) (by rw [g]; exact I.bare) (fun _ z => nomatch z)
    have e : s' = { s with heap := s'.heap, gens := s'.gens, drawn := s'.drawn, toks := s'.toks } := by
      cases s'
      cases s
      cases o
      rfl
    rw [e]
    exact ⟨.ref p, _, J, rfl, q M p pm ((pm.map (·.2)).nodup_iff.mpr R.nd) few pw nn⟩
end FwW
namespace Fw
open PySem PySem.Spec PyProof.Rows L2 Evl FwW
theorem rows_refs {K : PySem.W.Frag} {H : Hp} : ∀ {ms : List (List Int)} {xs : List V}, DxAll K H xs (ms.map fun m => tupI m) → ∃ ks : List (Addr × List Int), xs = ks.map (fun q => V.ref q.1) ∧ ks.map (·.2) = ms ∧ ∀ q ∈ ks, SqT K H q.1 (q.2.map V.int)
  | [], _, h => by
    cases h
    exact ⟨[], rfl, rfl, fun _ h => nomatch h⟩
  | m :: ms, _, h => by
    cases h with
    | cons h t =>
      obtain ⟨ks, rfl, e2, e3⟩ := rows_refs t
      obtain ⟨a, us, rfl, hT, r⟩ := dp_tup h
      have := dpAll_ints r
      subst this
      refine ⟨(a, m) :: ks, rfl, by rw [List.map_cons, e2], fun q hq => ?_⟩
      rcases List.mem_cons.mp hq with e | e
      · rw [e]
        exact hT
      · exact e3 q e
theorem refs_rows {K : PySem.W.Frag} {H : Hp} : ∀ {ks : List (Addr × List Int)}, (∀ q ∈ ks, SqT K H q.1 (q.2.map V.int)) → DxAll K H (ks.map fun q => V.ref q.1) ((ks.map (·.2)).map fun m => tupI m)
  | [], _ => .nil
  | q :: ks, h => by
    refine .cons (.tup (h q List.mem_cons_self) ?_) (refs_rows fun r hr => h r (List.mem_cons_of_mem _ hr))
    have all : ∀ ns : List Int, DxAll K H (ns.map V.int) (ns.map .int) := fun ns => by
      induction ns with
      | nil => exact .nil
      | cons n ns ih => exact .cons (.int n) ih
    exact all q.2
theorem asc_of {l : List (List Int)} (tri : ∀ a b : List Int, a < b ∨ a = b ∨ b < a) (nd : l.Nodup) (h : l.Pairwise fun a b => ¬ b < a) : l.Pairwise (· < ·) := by
  refine (List.Pairwise.and h nd).imp fun {a b} z => ?_
  rcases tri a b with q | q | q
  · exact q
  · exact absurd q z.2
  · exact absurd q z.1
theorem ints_tri : ∀ a b : List Int, a < b ∨ a = b ∨ b < a
  | [], [] => .inr (.inl rfl)
  | [], _ :: _ => .inl (List.nil_lt_cons ..)
  | _ :: _, [] => .inr (.inr (List.nil_lt_cons ..))
  | x :: a, y :: b => by
    rw [List.cons_lt_cons_iff, List.cons_lt_cons_iff]
    rcases Int.lt_trichotomy x y with h | h | h
    · exact .inl (.inl h)
    · subst h
      rcases ints_tri a b with h | h | h
      · exact .inl (.inr ⟨rfl, h⟩)
      · exact .inr (.inl (by rw [h]))
      · exact .inr (.inr (.inr ⟨rfl, h⟩))
    · exact .inr (.inr (.inl h))
/-- sorted(set(rows)): a new list -/
theorem f_sortSet {K K' : PySem.W.Frag} {p : Option Addr} {env : List Slot} {te : TE} {P : Program} {w : World} {Ψ : List PyData → Prop} (h : WpE K p te env fun x => ∃ ms : List (List Int), x = .list (ms.map fun m => tupI m) ∧ ms.length < 64 ∧ (∀ m ∈ ms, m ≠ []) ∧ ∀ rs : List (List Int), rs.Pairwise (· < ·) → (∀ y, y ∈ rs ↔ y ∈ ms) → Ψ (rs.map fun m => tupI m)) (hK : K' = K := by with_unfolding_all rfl) :
    WpF K p (tCB (rSortS K' P w) (tCons (tCB (rSetOfT K' P w) (tCons te tNil)) tNil)) env Ψ := fun H0 σ Hk H Q e po en k => by
  subst hK
  refine h H0 σ Hk H _ e po en fun v x Hk1 H1 g1 rx ⟨ms, ex, few, ne, f⟩ => ?_
  subst ex
  obtain ⟨l, xs, rfl, hL, r⟩ := dp_lst rx
  obtain ⟨ks, rfl, e2, e3⟩ := rows_refs r
  have kl : ks.length = ms.length := by rw [← e2, List.length_map]
  refine ⟨l, ks, rfl, ex_l g1.kr hL, fun q hq => ex_t g1.kr (e3 q hq), by omega, fun a L ha hs hm => ?_⟩
  have gA := g1.mut (o := SetTO P w a L) (fresh0 g1 ha) (pot_ne g1.po ha) (fresh_back g1.kr ha)
  refine ⟨a, L, rfl, upd_same, fun q hq => ex_t gA.kr (e3 q (hs q hq)), fun q hq => ne q.2 (by rw [← e2]; exact List.mem_map.mpr ⟨q, hs q hq, rfl⟩), fun M b pm nd ml pw hb => ?_⟩
  have mM : ∀ y, y ∈ M.map (·.2) ↔ y ∈ ms := fun y => by
    rw [← e2]
    constructor
    · intro hy
      obtain ⟨q, hq, rfl⟩ := List.mem_map.mp hy
      exact List.mem_map.mpr ⟨q, hs q (pm.mem_iff.mp hq), rfl⟩
    · intro hy
      obtain ⟨q, hq, rfl⟩ := List.mem_map.mp hy
      obtain ⟨q', hq', e⟩ := List.mem_map.mp (hm q hq)
      exact List.mem_map.mpr ⟨q', pm.mem_iff.mpr hq', e⟩
  refine k b _ ((M.map (·.2)).map fun m => tupI m) Hk1 _ (gA.mut (fresh0 gA hb) (pot_ne gA.po hb) (fresh_back gA.kr hb)) (fresh0 gA hb) (fresh_back gA.kr hb) upd_same (refs_rows fun q hq => e3 q (hs q (pm.mem_iff.mp hq))) (f _ (asc_of ints_tri nd (List.pairwise_map.mpr pw)) mM)
end Fw
namespace Fw
open PySem PySem.Spec PyProof.Rows L2 Evl
/-! ### repr of any data, {} -/
def rReprA (K : PySem.W.Frag) : List V → Hp → VK → Prop := fun vs H Q => ∃ (x : V) (d : PyData), vs = [x] ∧ Dx K H x d ∧ (d.hasDict = false ∨ d = .dict []) ∧ d.showable = true ∧ d.depth ≤ 60 ∧ d.shown.length ≤ sizeLine ∧ Q (.str d.shown) H
theorem call_reprA {X : Cx} (hg : X.A.guards = some []) (hu : X.A.units + 61 < cLine) : CallR X (.builtin "repr") (rReprA X.K) := fun pins s σ H vs us Q I r h => by
  obtain ⟨x, d, rfl, hd, hk, sh, dp, sz, q⟩ := h
  obtain ⟨u, rfl, rx⟩ := vals1 r
  have big : ∀ {a : Addr} {as : List Addr}, u = .ref a → d.hasDict = false → Reads s.heap (.ref a) d as → wpAny (model X.prog X.w) X.A (call (.builtin "repr") [u]) (EP X pins σ Q) X.xe s := fun {a as} e n rd => by
    subst e
    exact repr_of_reads' rd sh (PyData.noDict_hsm n) hg (by omega) (fun _ _ e => e) (fun h' t tk hk => ⟨.str d.shown, H, I.kept hk, ⟨_, rfl⟩, q⟩) sz
  cases hd with
  | non =>
    cases rx
    exact PySem.P.repr_of_none ⟨.str _, H, I.tok _, ⟨_, rfl⟩, q⟩
  | bl b =>
    cases rx
    refine PySem.P.repr_of_bool ⟨.str _, H, I.tok _, ?_, q⟩
    cases b
    · exact ⟨_, rfl⟩
    · exact ⟨_, rfl⟩
  | int i =>
    obtain ⟨t, rfl⟩ := rx
    exact PySem.P.repr_of_int (of_decide_eq_true sh) ⟨.str _, H, I.tok _, ⟨_, rfl⟩, q⟩
  | str z =>
    obtain ⟨t, rfl⟩ := rx
    exact PySem.P.repr_of_str ⟨.str _, H, I.tok _, ⟨_, rfl⟩, q⟩ sz
  | lst hl hr =>
    have n : PyData.hasDict (.list _) = false := hk.elim id fun z => nomatch z
    cases rx
    obtain ⟨as, rd⟩ := Dp.reads I _ _ (.ref _) (dx_dp _ n (.lst hl hr)) rfl
    exact big rfl n rd
  | tup hl hr =>
    have n : PyData.hasDict (.tuple _) = false := hk.elim id fun z => nomatch z
    cases rx
    obtain ⟨as, rd⟩ := Dp.reads I _ _ (.ref _) (dx_dp _ n (.tup hl hr)) rfl
    exact big rfl n rd
  | @dic a hl =>
    cases rx
    obtain ⟨_, nm, ws, kv, o, es, ep, ho, ex, hdt, _, pr, _⟩ := I.hok a _ hl
    cases kv
    have e0 : es = #[] := by
      cases hh : es.toList with
      | nil => exact Array.toList_eq_nil_iff.mp hh
      | cons e t => rw [hh] at pr; cases pr
    subst e0
    have rd : Reads s.heap (.ref a) (.dict []) [a] := Reads.dict (as := []) (bs := []) ho ex.1 hdt .nil .nil
    exact repr_of_reads' rd sh (fun _ m => by rw [List.mem_singleton.mp m] at nm; simp at nm) hg (by omega) (fun _ _ e => e) (fun h' t tk hk => ⟨.str _, H, I.kept hk, ⟨_, rfl⟩, q⟩) sz
section
variable {K K' : PySem.W.Frag} {p : Option Addr} {env : List Slot} {Φ : PyData → Prop}
theorem cb_reprA {d : PyData} (hk : d.hasDict = false ∨ d = .dict []) (sh : d.showable = true) (dp : d.depth ≤ 60) (sz : d.shown.length ≤ sizeLine) (q : Φ (.str d.shown)) (hK : K' = K := by with_unfolding_all rfl) : CbD K p (rReprA K') [d] Φ := fun vs Hk H Q e po rx k => by
  subst hK
  cases rx with
  | cons rx rr =>
    cases rr
    exact ⟨_, d, rfl, dp_mono e d rx, hk, sh, dp, sz, k _ _ _ _ (Go.refl e po) (.str _) q⟩
/-- {} -/
theorem e_dict0 (h : Φ (.dict [])) : WpE K p tDNewK env Φ := fun H0 σ Hk H Q e po en k => fun q hq =>
  k _ _ _ _ (Go.new e po hq) (.dic upd_same) h
end
end Fw
namespace Fw
open PySem PySem.Spec PyProof.Rows L2 Evl
theorem rows_at {ms : List (List Int)} {k : Nat} {m : List Int} (h : ms[k]? = some m) : atI (ms.map fun m => tupI m) (k : Int) = some (tupI m) := by
  have hk := (List.getElem?_eq_some_iff.mp h).1
  unfold atI
  rw [ixN_nat (by omega) (by rw [List.length_map]; omega)]
  show (ms.map fun m => tupI m)[((k : Int)).toNat]? = _
  rw [Int.toNat_natCast, List.getElem?_map, h]
  rfl
theorem ints_at {ns : List Int} {k : Nat} {n : Int} (h : ns[k]? = some n) : atI (ns.map PyData.int) (k : Int) = some (.int n) := by
  have hk := (List.getElem?_eq_some_iff.mp h).1
  unfold atI
  rw [ixN_nat (by omega) (by rw [List.length_map]; omega)]
  show (ns.map PyData.int)[((k : Int)).toNat]? = _
  rw [Int.toNat_natCast, List.getElem?_map, h]
  rfl
/-- a comprehension within another one -/
def relabelS (sc sc0 : Scope) : Scope := { sc with names := sc.names.map fun (n, k) => if (k == .free && sc0.kind == .function && sc0.names.lookup n == some .cell) then (n, .cell) else (n, k) }
theorem blkOk_in {X : Cx} {st : Shared} {H : Hp} {sc : Scope} {cl : List (Str × Addr)} {C : Addr} {env0 : Env} {fp : List Addr} {N : List Str} {scope : Scope} {own : List (Str × Nat)} (sc0 : Scope) (hN : X.N = N) (h0 : env0.scope = sc0) (h : blkC N (relabelS sc sc0) scope own = true) :
    BlkOk (X.blk st H sc (compEnvC sc cl C env0) fp).N (X.blk st H sc (compEnvC sc cl C env0) fp).env.scope scope own := by
  subst hN
  subst h0
  exact blkOk_by h
theorem kd_dict_int {kvs : List (PyData × PyData)} : kitB (tyD (PyData.dict kvs)) "int" = some false := by show kitB "dict" "int" = some false; decide +kernel
theorem kd_dict_bool {kvs : List (PyData × PyData)} : kitB (tyD (PyData.dict kvs)) "bool" = some false := by show kitB "dict" "bool" = some false; decide +kernel
theorem kd_dict_str {kvs : List (PyData × PyData)} : kitB (tyD (PyData.dict kvs)) "str" = some false := by show kitB "dict" "str" = some false; decide +kernel
theorem kd_dict_list {kvs : List (PyData × PyData)} : kitB (tyD (PyData.dict kvs)) "list" = some false := by show kitB "dict" "list" = some false; decide +kernel
theorem kd_dict_tuple {kvs : List (PyData × PyData)} : kitB (tyD (PyData.dict kvs)) "tuple" = some false := by show kitB "dict" "tuple" = some false; decide +kernel
section
variable {K K' : PySem.W.Frag} {p : Option Addr} {env : List Slot} {Φ : PyData → Prop} {te tb : TE} {O : Outs}
/-- own.extend(a new list) -/
theorem s_ext {i : Nat} {ds : List PyData} (hi : env[i]? = some (.own ds)) (h : WpF K p tb env fun es => ds.length + es.length ≤ 100000 ∧ O.nx (env.set i (.own (ds ++ es)))) (hK : K' = K := by with_unfolding_all rfl) : WpS K p (tDrop (tBM K' "list" rExtend (tVar i) (tCons tb tNil))) env O := fun H0 Hk0 σ Hk H D g en k => by
  subst hK
  obtain ⟨ov, s1, l, vs, rfl, h0, hk, hp, hl, rr⟩ := en.slot i _ hi
  refine ⟨.ref l, s1, .inl ⟨rfl, vs, SqL.of hl⟩, h H0 σ Hk H _ g.kr g.po en fun b zs es Hk1 H1 g1 b0 bk bh br ⟨hz, q⟩ => ?_⟩
  have hl' : H1 l = some (.lst vs) := g1.rr l _ hp hl
  have hk' : Hk1 l = none := g1.nk l (by rw [hl]; exact nofun) hk
  have r0 := dpAll_mono g1.kk ds rr
  refine ⟨l, b, vs, zs, rfl, rfl, hl', bh, sz_of (by rw [dpAll_len rr, dpAll_len br]; exact hz), ?_⟩
  exact k.nx _ σ Hk1 _ ((g.trans g1).mut h0 hp hk') ((en.go g1).put_own hi s1 (dpAll_app r0 br)) q
/-- one place of an own list is set -/
theorem s_set1 {i : Nat} {ti : TE} {ds : List PyData} (hi : env[i]? = some (.own ds)) (h : WpE K p te env fun d => WpE K p ti env fun x => ∃ (j : Int) (n : Nat), x = .int j ∧ ixN ds.length j = some n ∧ O.nx (env.set i (.own (ds.set n d)))) : WpS K p (tAsg te (gSub (tVar i) ti rSetL)) env O := fun H0 Hk0 σ Hk H D g en k =>
  h H0 σ Hk H _ g.kr g.po en fun v d Hk1 H1 g1 r h1 => by
    have en1 := en.go g1
    obtain ⟨ov, s1, l, vs, rfl, h0, hk, hp, hl, rr⟩ := en1.slot i _ hi
    refine ⟨.ref l, s1, h1 H0 σ Hk1 H1 _ g1.kr g1.po en1 fun w x Hk2 H2 g2 rx ⟨j, n, ex, en2, q⟩ => ?_⟩
    subst ex
    have e1 := dp_int rx
    subst e1
    have hl' : H2 l = some (.lst vs) := g2.rr l _ hp hl
    have hk' : Hk2 l = none := g2.nk l (by rw [hl]; exact nofun) hk
    have r0 := dpAll_mono g2.kk ds rr
    refine ⟨l, vs, j, n, rfl, rfl, hl', by rw [dpAll_len rr]; exact en2, ?_⟩
    exact k.nx _ σ Hk2 _ (((g.trans g1).trans g2).mut h0 hp hk') ((en1.go g2).put_own hi s1 (dpAll_set (dp_mono g2.kk d r) n r0)) q
theorem dpAll_blt {H : Hp} {bs : List Bool} {vs : List V} (h : DxAll K H vs (bs.map .bool)) : vs = bs.map V.bl := dpAll_bools h
theorem cb_any_ {ds : List PyData} (bs : List Bool) (hd : ds = bs.map .bool) (h : Φ (.bool (bs.any id))) (hK : K' = K := by with_unfolding_all rfl) : CbD K p (rAny K') [.list ds] Φ := fun vs Hk H Q e po rx k => by
  subst hK
  subst hd
  cases rx with
  | cons rx rr =>
    cases rr
    obtain ⟨a, xs, rfl, hL, r⟩ := dp_lst rx
    have := dpAll_bools r
    subst this
    exact ⟨a, bs, rfl, ex_l e hL, k _ _ _ _ (Go.refl e po) (.bl _) h⟩
theorem dpAll_erase {H : Hp} : ∀ {vs : List V} {ds : List PyData}, DxAll K H vs ds → ∀ j : Nat, DxAll K H (vs.eraseIdx j) (ds.eraseIdx j)
  | _, _, .nil, _ => .nil
  | _, _, .cons _ t, 0 => t
  | _, _, .cons h t, j + 1 => .cons h (dpAll_erase t j)
/-- own.append(other own.pop(j)): the one grows by what the other loses -/
theorem s_appPop {i m : Nat} {tj : TE} {ds es : List PyData} (hi : env[i]? = some (.own ds)) (hm : env[m]? = some (.own es)) (im : i ≠ m) (h : WpE K p tj env fun x => ∃ (j : Nat) (d : PyData), x = .int j ∧ es[j]? = some d ∧ ds.length < 100000 ∧ es.length ≤ 100000 ∧ O.nx ((env.set i (.own (ds ++ [d]))).set m (.own (es.eraseIdx j)))) (hK : K' = K := by with_unfolding_all rfl) :
    WpS K p (tDrop (tBM K' "list" rAppend (tVar i) (tCons (tBM K' "list" rPopAt (tVar m) (tCons tj tNil)) tNil))) env O := fun H0 Hk0 σ Hk H D g en k => by
  subst hK
  obtain ⟨ov, s1, l, vs, rfl, h0, hk, hp, hl, rr⟩ := en.slot i _ hi
  obtain ⟨ov2, s2, l2, vs2, rfl, h02, hk2, hp2, hl2, rr2⟩ := en.slot m _ hm
  have ll : l ≠ l2 := fun z => im (en.apart i m l ds es hi hm s1 (by rw [s2, z]))
  refine ⟨.ref l, s1, .inl ⟨rfl, vs, SqL.of hl⟩, .ref l2, s2, .inl ⟨rfl, vs2, SqL.of hl2⟩, h H0 σ Hk H _ g.kr g.po en fun v x Hk1 H1 g1 rx ⟨j, d, ex, hj, hz, he, q⟩ => ?_⟩
  subst ex
  have e1 := dp_int rx
  subst e1
  have a1 : H1 l = some (.lst vs) := g1.rr l _ hp hl
  have a2 : H1 l2 = some (.lst vs2) := g1.rr l2 _ hp2 hl2
  have b1 : Hk1 l = none := g1.nk l (by rw [hl]; exact nofun) hk
  have b2 : Hk1 l2 = none := g1.nk l2 (by rw [hl2]; exact nofun) hk2
  have r1 := dpAll_mono g1.kk ds rr
  have r2 := dpAll_mono g1.kk es rr2
  obtain ⟨w, hw, rw'⟩ := dpAll_get r2 hj
  have jl : j < vs2.length := (List.getElem?_eq_some_iff.mp hw).1
  have jz : vs2.length ≤ 100000 := by rw [dpAll_len rr2]; exact he
  refine ⟨l2, vs2, (j : Int), j, w, rfl, rfl, a2, by omega, by omega, (seqIndex_of (by omega) (by omega)).trans (by rw [Int.toNat_natCast]), hw, ?_⟩
  have c1 : (upd H1 l2 (.lst (vs2.eraseIdx j))) l = some (.lst vs) := by rw [upd_ne ll]; exact a1
  refine ⟨l, vs, w, rfl, rfl, c1, sz_lt (by rw [dpAll_len rr]; exact hz), ?_⟩
  have gA := ((g.trans g1).mut (o := .lst (vs2.eraseIdx j)) h02 hp2 b2).mut (o := .lst (vs ++ [w])) h0 hp b1
  have enA := (en.go g1).put_own (ws := vs2.eraseIdx j) (es := es.eraseIdx j) hm s2 (dpAll_erase r2 j)
  have iA : (env.set m (.own (es.eraseIdx j)))[i]? = some (.own ds) := by rw [List.getElem?_set_ne (Ne.symm im)]; exact hi
  have enB := enA.put_own (ws := vs ++ [w]) (es := ds ++ [d]) iA s1 (dpAll_app r1 (.cons rw' .nil))
  rw [List.set_comm _ _ (Ne.symm im)] at enB
  exact k.nx _ σ Hk1 _ gA enB q
/-- any over a list or a tuple of ints -/
def rAnyN (K : PySem.W.Frag) : List V → Hp → VK → Prop := fun vs H Q => ∃ (a : Addr) (ns : List Int), vs = [V.ref a] ∧ (SqL K H a (ns.map V.int) ∨ SqT K H a (ns.map V.int)) ∧ Q (.bl (ns.any fun n => n != 0)) H
theorem plain_ints : ∀ ns : List Int, PyData.plainAll (ns.map .int) = true
  | [] => rfl
  | n :: ns => by
    show (PyData.plain (.int n) && PyData.plainAll (ns.map .int)) = true
    rw [plain_ints ns]
    rfl
theorem any_truthy (ns : List Int) : (ns.map PyData.int).any PyData.truthy = ns.any fun n => n != 0 := by
  rw [List.any_map]
  rfl
theorem cr_anyN {X : Cx} (hc : X.calm = true) : CallR X (.builtin "any") (rAnyN X.K) := fun pins s σ H vs us Q I r h => by
  obtain ⟨a, ns, rfl, hs, q⟩ := h
  obtain ⟨u, rfl, ru⟩ := vals1 r
  cases ru
  have fit : ∀ x ∈ ns.map PyData.int, PyData.fits63 x := fun x hx => by
    obtain ⟨n, _, rfl⟩ := List.mem_map.mp hx
    exact True.intro
  rcases hs with hs | hs
  · obtain ⟨its, rv, pl, _⟩ := I.list hs
    have rd : ReadsAll s.heap its.toArray.toList (ns.map .int) [] := by
      rw [List.toList_toArray]
      exact FwT.reads_ints rv
    refine PySem.W.any_list_data (I.ok.hd hc) pl.isList rd (plain_ints ns) fit fun h' tk hk => ⟨.bl _, H, I.kept hk, ?_, q⟩
    rw [any_truthy]
    rfl
  · obtain ⟨its, rv, pl, _⟩ := I.tuple hs
    have rd : ReadsAll s.heap its.toArray.toList (ns.map .int) [] := by
      rw [List.toList_toArray]
      exact FwT.reads_ints rv
    refine PySem.W.any_tuple_data (I.ok.hd hc) (show s.heap.IsTuple a its.toArray from pl) rd (plain_ints ns) fit fun h' tk hk => ⟨.bl _, H, I.kept hk, ?_, q⟩
    rw [any_truthy]
    rfl
theorem cb_anyN {x : PyData} (ns : List Int) (hx : x = .list (ns.map .int) ∨ x = .tuple (ns.map .int)) (h : Φ (.bool (ns.any fun n => n != 0))) (hK : K' = K := by with_unfolding_all rfl) : CbD K p (rAnyN K') [x] Φ := fun vs Hk H Q e po rx k => by
  subst hK
  cases rx with
  | cons rx rr =>
    cases rr
    rcases hx with rfl | rfl
    · obtain ⟨a, xs, rfl, hL, r⟩ := dp_lst rx
      have := dpAll_ints r
      subst this
      exact ⟨a, ns, rfl, .inl (ex_l e hL), k _ _ _ _ (Go.refl e po) (.bl _) h⟩
    · obtain ⟨a, xs, rfl, hT, r⟩ := dp_tup rx
      have := dpAll_ints r
      subst this
      exact ⟨a, ns, rfl, .inr (ex_t e hT), k _ _ _ _ (Go.refl e po) (.bl _) h⟩
/-- max, min of a list of ints -/
theorem cb_maxL {ds : List PyData} (ns : List Int) (hd : ds = ns.map .int) (ne : 0 < ns.length) (h : ∀ m ∈ ns, (∀ y ∈ ns, y ≤ m) → Φ (.int m)) (hK : K' = K := by with_unfolding_all rfl) : CbD K p (rMax K') [.list ds] Φ := fun vs Hk H Q e po rx k => by
  subst hK
  subst hd
  cases rx with
  | cons rx rr =>
    cases rr
    obtain ⟨a, xs, rfl, hL, r⟩ := dp_lst rx
    have := dpAll_ints r
    subst this
    exact ⟨a, ns, rfl, ex_l e hL, ne, fun m m1 m2 => k _ _ _ _ (Go.refl e po) (.int _) (h m m1 m2)⟩
theorem cb_minL {ds : List PyData} (ns : List Int) (hd : ds = ns.map .int) (ne : 0 < ns.length) (h : ∀ m ∈ ns, (∀ y ∈ ns, m ≤ y) → Φ (.int m)) (hK : K' = K := by with_unfolding_all rfl) : CbD K p (rMin K') [.list ds] Φ := fun vs Hk H Q e po rx k => by
  subst hK
  subst hd
  cases rx with
  | cons rx rr =>
    cases rr
    obtain ⟨a, xs, rfl, hL, r⟩ := dp_lst rx
    have := dpAll_ints r
    subst this
    exact ⟨a, ns, rfl, ex_l e hL, ne, fun m m1 m2 => k _ _ _ _ (Go.refl e po) (.int _) (h m m1 m2)⟩
def isNo : PyData → Bool
  | .none => true
  | _ => false
theorem isNo_val {H : Hp} {v : V} {d : PyData} (h : Dx K H v d) : decide (v = .non) = isNo d := by
  cases h <;> rfl
theorem od_isN {x : PyData} (h : Φ (.bool (isNo x))) : OpD K p (fun x y H Q => y = .non ∧ Q (.bl (decide (x = .non))) H) x .none Φ := fun vx vy Hk H Q e po rx ry k => by
  rw [dp_non ry]
  refine ⟨rfl, ?_⟩
  rw [isNo_val rx]
  exact k _ _ _ _ (Go.refl e po) (.bl _) h
theorem od_notN {x : PyData} (h : Φ (.bool (!isNo x))) : OpD K p (fun x y H Q => y = .non ∧ Q (.bl (!decide (x = .non))) H) x .none Φ := fun vx vy Hk H Q e po rx ry k => by
  rw [dp_non ry]
  refine ⟨rfl, ?_⟩
  rw [isNo_val rx]
  exact k _ _ _ _ (Go.refl e po) (.bl _) h
end
end Fw
namespace FwB
open PySem PySem.Spec PyProof.Rows L2
/-! a set of the items of a tuple, each a tuple of ints -/
section
variable {P : Program} {w : World} {A : Around} {E : Value → Shared → Prop} {s : Shared}
abbrev eset (w : World) : Obj := { cls := .type "set", dict := none, data := .set #[] 0 (.fresh 0 0 (!w.params.followText "set-order")) }
theorem setT_of_tuple {t : Addr} {its : Array Value} (ks : List (Addr × List Int)) {Q : Value → Shared → Prop} (calm : A.handled = none) (ht : s.heap.IsTuple t its) (same : its.toList = ks.map fun q => Value.ref q.1) (rows : ∀ q ∈ ks, IsT P w s.heap q.2 q.1) (few : ks.length < 64) (un : A.units + 3 < cLine)
    (end_ : ∀ (g : Heap) (tk : Nat) L es ep tb, SetTR P w g s.heap.objs.size L es ep tb → Got ks ks.length L → (∀ b o, s.heap.get? b = some o → g.get? b = some o) → Q (.ref s.heap.objs.size) { s with heap := g, toks := tk }) : wpAny (model P w) A (call (.type "set") [.ref t]) Q E s := by
  have nits : its.size = ks.length := by rw [← Array.length_toList, same, List.length_map]
  obtain ⟨c, tl, mro_⟩ := F.called_set.mro
  have made_ := F.called_set.made
  have sub_ := F.called_set.sub
  refine wpAny_call (codeAny_of_tree ?_)
  refine (show wpAny _ _ (callAny (.type "set") _) _ _ _ from wpAny_pure ⟨Code.quiet_builtin _ (by decide +kernel), codeAny_builtin F.entry_type_call ?_⟩)
  rw [Around.under_plain (weight_type_call_type "set" [.ref t] []) rfl]
  have nt_ := F.called_set.notType
  have cc_ := F.called_set.canCreate
  have tc_ := F.typeCall_set_1 (.ref t)
  repeat (any_goals (first | wp_step | assumption))
  refine codeAny_mono (code_set_led1 (.ref t) (E := E) (Q₁ := fun ob u => ob = .ref s.heap.objs.size ∧ u = { s with heap := s.heap.push (eset w) }) ⟨rfl, rfl⟩) fun r u hr => ?_
  match r, hr with
  | .error e, hr => exact hr
  | .ok .next, hr => exact hr.elim
  | .ok .brk, hr => exact hr.elim
  | .ok .cont, hr => exact hr.elim
  | .ok (.ret ob), hr =>
    obtain ⟨rfl, rfl⟩ := hr
    have here : (s.heap.push (eset w)).get? s.heap.objs.size = some (eset w) := Heap.get?_push_size _ rfl
    have typ : Shared.TypeIs { s with heap := s.heap.push (eset w) } (.ref s.heap.objs.size) "set" := ⟨_, here, rfl⟩
    have il_ := F.called_set.init.lookup
    have ib_ := F.called_set.init.bind (.ref s.heap.objs.size)
    repeat (any_goals (first | wp_step | assumption))
    refine codeAny_mono (codeAny_call_builtin (R := wants (fun r u => r = .none ∧ ∃ g tk L es ep tb, u = { s with heap := g, toks := tk } ∧ SetTR P w g s.heap.objs.size L es ep tb ∧ Got ks ks.length L ∧ (∀ b o, s.heap.get? b = some o → g.get? b = some o)) E) F.called_set.init.plain F.entry_set_init (check_set_init_1 typ ?_)) fun r2 u2 hr2 => ?_
    · obtain ⟨⟨kc, kd, kdat, ksl⟩, ot, oc, nt, od⟩ := ht
      simp only at oc od
      subst oc od
      have ot2 : (s.heap.push (eset w)).get? t = some { cls := .type "tuple", dict := kd, data := .seq its nt, slots := ksl } := Heap.get?_push_of_some _ ot
      have ss_ := F.sub_tuple_set
      have sf_ := F.sub_tuple_frozenset
      have nd_ : (Value.type "tuple" == Value.type "dict") = false := by decide
      have ht2 : (s.heap.push (eset w)).IsTuple t its := ⟨_, ot2, rfl, nt, rfl⟩
      unfold Builtin.«set.__init__» noKeywords Builtin.Frozenset.updateFrom
      generalize kept : pyIter = PI
      wp_walk
      subst kept
      refine wpAny_pyIter_tuple ht2 (wpAny_bind (wpAny_runValue ?_))
      have lt_ : t < s.heap.objs.size := Heap.lt_size ot
      have size_ : (s.heap.push (eset w)).objs.size = s.heap.objs.size + 1 := Heap.size_push ..
      have apart_ : t ≠ (s.heap.push (eset w)).objs.size := by rw [size_]; exact fun z => absurd (z ▸ Nat.lt_succ_of_lt lt_ : _ < _) (Nat.lt_irrefl _)
      have off_ : s.heap.objs.size ∉ [(s.heap.push (eset w)).objs.size, t] := by
        rw [size_]
        intro z
        rcases List.mem_cons.mp z with z | z
        · exact absurd z (Nat.ne_of_lt (Nat.lt_succ_self _))
        · exact absurd (List.mem_singleton.mp z) (Nat.ne_of_gt lt_)
      have void : ∀ b, s.heap.objs.size ≤ b → s.heap.get? b = none := fun b hb => by
        cases z : s.heap.get? b with
        | none => rfl
        | some o => exact absurd (Nat.lt_of_lt_of_le (Heap.lt_size z) hb) (Nat.lt_irrefl _)
      have each : ∀ (i : Nat) (v : Value), its[i]? = some v → ∃ q, ks[i]? = some q ∧ v = .ref q.1 := fun i v hv => by
        have z : (ks.map fun q => Value.ref q.1)[i]? = some v := by rw [← same, Array.getElem?_toList]; exact hv
        rw [List.getElem?_map] at z
        obtain ⟨q, h1, h2⟩ := Option.map_eq_some_iff.mp z
        exact ⟨q, h1, h2.symm⟩
      have hw : A.in1.in1.in1.handled = none := by simp [calm]
      refine set_update_tups ((Walks.tuple hw _ t apart_ its).toS) s.heap.objs.size off_ ks nits few each s.heap rows (void _ (Nat.le_refl _)) (fun b hb => void b (by rw [List.mem_singleton.mp hb, size_]; omega)) un (its.size - 0) 0 _ (by omega) (Nat.zero_le _) ⟨⟨_, Heap.get?_push_size _ rfl, rfl, rfl⟩, ht2.push _⟩ (fun b o e => Heap.get?_push_of_some _ (Heap.get?_push_of_some _ e)) ?start ?last
      case start =>
        refine ⟨[], #[], 0, _, setTR_fresh (h := (s.heap.push (eset w)).push { cls := .type "tuple_iterator", data := .fields #[.ref t, .int 0 0] }) (Heap.get?_push_of_some _ here), Got.zero ks⟩
      case last =>
        rintro ⟨g, gs, dr, tk, os⟩ L es ep tb mv R got keep
        have e1 : gs = s.gens := mv.gens
        have e2 : dr = s.drawn := mv.drawn
        have e3 : os = s.os := mv.os
        subst e1 e2 e3
        rw [nits] at got
        refine (show wpAny _ _ _ _ _ _ from wpAny_pure ?_)
        refine (show wpAny _ _ (ret Value.none) _ _ _ from wpAny_pure ⟨rfl, g, tk, L, es, ep, tb, rfl, R, got, keep⟩)
    · match r2, hr2 with
      | .error e, hr2 => exact hr2
      | .ok .next, hr2 => exact hr2.elim
      | .ok .brk, hr2 => exact hr2.elim
      | .ok .cont, hr2 => exact hr2.elim
      | .ok (.ret r), hr2 =>
        obtain ⟨rfl, g, tk, L, es, ep, tb, rfl, R, got, keep⟩ := hr2
        repeat (any_goals (first | wp_step | assumption))
        exact end_ g tk L es ep tb R got keep
end
end FwB
/-! sorted of a known dict; set of a tuple of tuples; dicts held by a name -/
namespace FwB
open PySem PySem.Spec PyProof.Rows L2 FwD FwS
mutual
theorem reads_there {h : Heap} : ∀ (d : PyData) {v : Value} {as : List Addr}, d.hasDict = false → Reads h v d as → ∀ a ∈ as, ∃ o, h.get? a = some o
  | .none, _, _, _, r, a, m => by cases r; cases m
  | .bool _, _, _, _, r, a, m => by cases r; cases m
  | .int _, _, _, _, r, a, m => by cases r; cases m
  | .str _, _, _, _, r, a, m => by cases r; cases m
  | .list ds, _, _, n, r, a, m => by
    cases r with
    | list e1 _ _ e4 =>
      rcases List.mem_cons.mp m with z | z
      · rw [z]; exact ⟨_, e1⟩
      · exact readsAll_there ds n e4 a z
  | .tuple ds, _, _, n, r, a, m => by
    cases r with
    | tuple _ _ _ e4 => exact readsAll_there ds n e4 a m
  | .dict _, _, _, n, _, _, _ => by cases n
theorem readsAll_there {h : Heap} : ∀ (ds : List PyData) {vs : List Value} {as : List Addr}, PyData.hasDictAll ds = false → ReadsAll h vs ds as → ∀ a ∈ as, ∃ o, h.get? a = some o
  | [], _, _, _, r, a, m => by cases r; cases m
  | d :: ds, _, _, n, r, a, m => by
    have n' : (d.hasDict || PyData.hasDictAll ds) = false := n
    rw [Bool.or_eq_false_iff] at n'
    cases r with
    | cons r1 r2 =>
      rcases List.mem_append.mp m with z | z
      · exact reads_there d n'.1 r1 a z
      · exact readsAll_there ds n'.2 r2 a z
end
def rSortDic (K : PySem.W.Frag) : List V → Hp → VK → Prop := fun vs H Q => ∃ (l : Addr) (o : Obj) (es : Array DictEntry) (ep : Nat) (kvs : List (PyData × PyData)) (Rk : PyData → Addr → Prop) (Rv : PyData → Value → Prop),
  vs = [.ref l] ∧ DicO Rk Rv H l o es ep kvs ∧ kvs.length ≤ 100000 ∧ (∀ d a, Rk d a → Dp K H (.ref a) d) ∧ PySem.W.AllAlike (kvs.map (·.1)) ∧ PySem.W.Sortable (kvs.map (·.1)) ∧ (∀ d ∈ kvs.map (·.1), d.depth ≤ 60) ∧
  ∀ ys p, Paired (fun x d => ∃ a, x = V.ref a ∧ Rk d a) ys (sortD (kvs.map (·.1))) → H p = none → Q (.ref p) (upd H p (.lst ys))
theorem cr_sortedDic {X : Cx} (hc : X.calm = true) (hu : X.A.units + 64 < cLine) : CallR X (.builtin "sorted") (rSortDic X.K) := fun pins s σ H vs us Q I r h => by
  obtain ⟨l, o, es, ep, kvs, Rk, Rv, rfl, D, hz, hR, al, so, dp, q⟩ := h
  rw [Vals.ref1 r]
  obtain ⟨raw, sz, at_⟩ := DicO.raw I D
  refine Calls.call_function_entry kind_sorted plain_sorted entry_sorted (args_sorted1 _) ?_
  unfold Builtin.«sorted»
  refine wpAny_bind (m := checkCount "sorted" 1 1 _) (wpAny_pure ?_)
  refine wpAny_bind (PySem.W.kdu_collect (A := X.A.in1) (PySem.KdlSrc.rawDict D.2.1) (I.ok.hd hc) raw (by rw [sz, sizeLine_eq]; omega) fun h' tk acc hk hacc => ?_)
  have I1 : Inv X pins σ H { s with heap := h', toks := tk } := I.kept hk
  have al0 : acc.toList.length = kvs.length := by rw [Array.length_toList, hacc.1, sz]
  have bo : PySem.W.EachIs (fun v (d : PyData) => ∃ a, v = Value.ref a ∧ Rk d a) acc.toList (kvs.map (·.1)) := by
    have gen : ∀ (us : List Value) (ds : List PyData), us.length = ds.length → (∀ (j : Nat) (u : Value) (d : PyData), us[j]? = some u → ds[j]? = some d → ∃ a, u = Value.ref a ∧ Rk d a) → PySem.W.EachIs (fun v (d : PyData) => ∃ a, v = Value.ref a ∧ Rk d a) us ds := fun us => by
      induction us with
      | nil =>
        intro ds hl _
        cases ds with
        | nil => exact .nil
        | cons _ _ => cases hl
      | cons u us ih =>
        intro ds hl h
        cases ds with
        | nil => cases hl
        | cons d ds => exact .cons (h 0 u d rfl rfl) (ih ds (Nat.succ.inj hl) fun j u' d' e1 e2 => h (j + 1) u' d' e1 e2)
    refine gen _ _ (by rw [al0, List.length_map]) fun j u d e1 e2 => ?_
    rw [Array.getElem?_toList] at e1
    obtain ⟨hi, rfl⟩ := hacc.2 j u e1
    rw [List.getElem?_map] at e2
    cases e3 : kvs[j]? with
    | none => rw [e3] at e2; cases e2
    | some kv =>
      rw [e3] at e2
      cases e2
      exact at_ j hi kv.1 kv.2 e3
  refine wpAny_bind (wpAny_newList ?_ (by rw [al0, sizeLine_eq]; omega))
  have hoL : (h'.push (seqObj "list" acc.toList.toArray 0)).get? h'.objs.size = some (seqObj "list" acc.toList.toArray 0) := Heap.get?_push_size _ rfl
  have hnone : H h'.objs.size = none := I1.hok.fresh (Nat.le_refl _)
  have I2 : Inv X pins σ H { s with heap := h'.push (seqObj "list" acc.toList.toArray 0), toks := tk } := I.kept fun b u e => Heap.get?_push_of_some _ (hk b u e)
  have rd : PySem.W.EachIs (fun v d => ∃ as, Reads (h'.push (seqObj "list" acc.toList.toArray 0)) v d as ∧ h'.objs.size ∉ as) acc.toList (kvs.map (·.1)) := bo.mono fun v d ⟨a, ev, ra⟩ => by
    subst ev
    obtain ⟨as, r⟩ := Dp.reads I1 d (.ref a) (.ref a) (hR d a ra) rfl
    exact ⟨as, PyProof.Rows.Reads.keeps (fun b u e => Heap.get?_push_of_some _ e) r, fun z => by
      obtain ⟨u, hu⟩ := reads_there d (Fw.dp_noDict d (hR d a ra)) r _ z
      exact absurd (Heap.lt_size hu) (Nat.lt_irrefl _)⟩
  have e0 : (kvs.map (·.1)).map (fun d : PyData => d) = kvs.map (·.1) := List.map_id' _
  refine wpAny_bind (wpAny_holding (PySem.W.list_sort_data (s := { s with heap := h'.push (seqObj "list" acc.toList.toArray 0), toks := tk }) (enc := fun d : PyData => d) hoL bo rd (by rw [e0]; exact al) (by rw [e0]; exact so) (by rw [List.length_map, sizeLine_eq]; omega) (fun d hd => ?_) fun out lo eo => ?_))
  · have := dp d hd
    show X.A.in1.units + 1 + d.depth < cLine
    simp only [Around.in1_units]
    omega
  obtain ⟨c, hat⟩ := sortedHeap_at (vs := acc.toList) (out := out.toArray) hoL
  obtain ⟨ys, ry, hy⟩ : ∃ ys, Vals ys out ∧ Paired (fun x (d : PyData) => ∃ a, x = V.ref a ∧ Rk d a) ys (sortD (kvs.map (·.1))) := by
    have gen : ∀ {us : List Value} {ds : List PyData}, PySem.W.EachIs (fun v (d : PyData) => ∃ a, v = Value.ref a ∧ Rk d a) us ds → ∃ ys, Vals ys us ∧ Paired (fun x (d : PyData) => ∃ a, x = V.ref a ∧ Rk d a) ys ds := fun z => by
      induction z with
      | nil => exact ⟨[], .nil, .nil⟩
      | cons h _ ih =>
        obtain ⟨a, e, r⟩ := h
        obtain ⟨ys, h1, h2⟩ := ih
        exact ⟨.ref a :: ys, .cons e h1, .cons ⟨a, rfl, r⟩ h2⟩
    exact gen eo
  have ll : ys.length ≤ sizeLine := by
    have e1 := ry.length
    rw [lo, List.length_map] at e1
    rw [e1, sizeLine_eq]
    omega
  refine wpAny_pure ⟨_, rfl, .ref h'.objs.size, upd H h'.objs.size (.lst ys), I1.laid (t' := tk) (fun b u e => ?_) (Nat.le_refl _) ⟨ll, out, c, ry, hat⟩, rfl, q ys _ hy hnone⟩
  have hb : b < h'.objs.size := Heap.lt_size e
  rw [sortedHeap_old (Nat.ne_of_lt hb) (by rw [size_push']; exact Nat.lt_succ_of_lt hb)]
  exact Heap.get?_push_of_some _ e
end FwB
namespace FwB
open PySem PySem.Spec PyProof.Rows L2
def rSetTT (K : PySem.W.Frag) (P : Program) (w : World) : List V → Hp → VK → Prop := fun xs H Q => ∃ (l : Addr) (ks : List (Addr × List Int)), xs = [V.ref l] ∧ SqT K H l (ks.map fun p => V.ref p.1) ∧ (∀ p ∈ ks, SqT K H p.1 (p.2.map V.int)) ∧ ks.length < 64 ∧
  ∀ a L, H a = none → (∀ p ∈ L, p ∈ ks) → (∀ p ∈ ks, p.2 ∈ L.map (·.2)) → Q (.ref a) (upd H a (SetTO P w a L))
theorem cr_setTT {X : Cx} (hc : X.calm = true) (hu : X.A.units + 64 < cLine) : CallR X (.type "set") (rSetTT X.K X.prog X.w) := fun pins s σ H xs us Q I r h => by
  obtain ⟨l, ks, rfl, hl, rows, few, q⟩ := h
  rw [Vals.ref1 r]
  obtain ⟨its, rv, pl, hz⟩ := I.tuple hl
  refine setT_of_tuple ks (I.ok.hd hc) (show s.heap.IsTuple l its.toArray from pl) (by simpa using refs_of_vals rv) (fun p hp => I.isT (rows p hp)) few (by omega) fun g tk L es ep tb R got keep => ⟨.ref s.heap.objs.size, upd H s.heap.objs.size (SetTO X.prog X.w s.heap.objs.size L), I.laid (t' := tk) keep (Nat.le_refl _) (setTO_new R.t0), rfl, q _ L I.fresh (fun p hp => ?_) fun p hp => ?_⟩
  · exact List.mem_of_mem_take (got.sub p hp)
  · exact got.all p (by rw [List.take_length]; exact hp)
end FwB
namespace Fw
open PySem PySem.Spec PyProof.Rows L2 Evl FwW FwB FwD FwS
section
variable {K K' : PySem.W.Frag} {p : Option Addr} {env : List Slot} {te ta tb : TE} {O : Outs} {Φ : PyData → Prop}
/-- sorted(set(a tuple of rows)): a new list -/
theorem f_sortSetT {P : Program} {w : World} {Ψ : List PyData → Prop} (h : WpE K p te env fun x => ∃ ms : List (List Int), x = .tuple (ms.map fun m => tupI m) ∧ ms.length < 64 ∧ (∀ m ∈ ms, m ≠ []) ∧ ∀ rs : List (List Int), rs.Pairwise (· < ·) → (∀ y, y ∈ rs ↔ y ∈ ms) → Ψ (rs.map fun m => tupI m)) (hK : K' = K := by with_unfolding_all rfl) :
    WpF K p (tCB (rSortS K' P w) (tCons (tCB (rSetTT K' P w) (tCons te tNil)) tNil)) env Ψ := fun H0 σ Hk H Q e po en k => by
  subst hK
  refine h H0 σ Hk H _ e po en fun v x Hk1 H1 g1 rx ⟨ms, ex, few, ne, f⟩ => ?_
  subst ex
  obtain ⟨l, xs, rfl, hL, r⟩ := dp_tup rx
  obtain ⟨ks, rfl, e2, e3⟩ := rows_refs r
  have kl : ks.length = ms.length := by rw [← e2, List.length_map]
  refine ⟨l, ks, rfl, ex_t g1.kr hL, fun q hq => ex_t g1.kr (e3 q hq), by omega, fun a L ha hs hm => ?_⟩
  have gA := g1.mut (o := SetTO P w a L) (fresh0 g1 ha) (pot_ne g1.po ha) (fresh_back g1.kr ha)
  refine ⟨a, L, rfl, upd_same, fun q hq => ex_t gA.kr (e3 q (hs q hq)), fun q hq => ne q.2 (by rw [← e2]; exact List.mem_map.mpr ⟨q, hs q hq, rfl⟩), fun M b pm nd ml pw hb => ?_⟩
  have mM : ∀ y, y ∈ M.map (·.2) ↔ y ∈ ms := fun y => by
    rw [← e2]
    constructor
    · intro hy
      obtain ⟨q, hq, rfl⟩ := List.mem_map.mp hy
      exact List.mem_map.mpr ⟨q, hs q (pm.mem_iff.mp hq), rfl⟩
    · intro hy
      obtain ⟨q, hq, rfl⟩ := List.mem_map.mp hy
      obtain ⟨q', hq', e⟩ := List.mem_map.mp (hm q hq)
      exact List.mem_map.mpr ⟨q', pm.mem_iff.mpr hq', e⟩
  refine k b _ ((M.map (·.2)).map fun m => tupI m) Hk1 _ (gA.mut (fresh0 gA hb) (pot_ne gA.po hb) (fresh_back gA.kr hb)) (fresh0 gA hb) (fresh_back gA.kr hb) upd_same (refs_rows fun q hq => e3 q (hs q (pm.mem_iff.mp hq))) (f _ (asc_of ints_tri nd (List.pairwise_map.mpr pw)) mM)
/-- a dict that is known and stays -/
def dctS (K : PySem.W.Frag) (kvs : List (PyData × PyData)) : Ext := ⟨fun Hk v => ∃ l, v = .ref l ∧ DicK K Hk Hk l kvs, fun _ _ _ x ⟨l, e, D⟩ => ⟨l, e, D.mono (fun d _ r => dp_mono0 x d r) (fun d _ ⟨v, rv, h⟩ => ⟨v, rv, dp_mono x d h⟩) fun o h => x l o h⟩⟩
theorem s_dic {i : Nat} (h : WpD K p te env fun kvs => O.nx (env.set i (.ext (dctS K kvs)))) : WpS K p (tAsg te (gName i)) env O := fun H0 Hk0 σ Hk H D g en k =>
  h H0 σ Hk H _ g.kr g.po en fun l kvs Hk' H' g' h0 hk Dk f => by
    obtain ⟨o, es, ep, DO⟩ := dicO_of Dk
    have hp := pot_ne g.po h0
    have gA := g'.pub h0 hp hk DO.1
    have gp : Go p Hk0 H0 (upd Hk' l (exact l o)) H' := (g.trans g').pub (fresh0 g h0) hp hk DO.1
    have D2 : DicK K (upd Hk' l (exact l o)) (upd Hk' l (exact l o)) l kvs := Dk.mono (fun d _ r => dp_mono0 (Ex.new hk) d r) (fun d _ ⟨v, rv, h⟩ => ⟨v, rv, dp_mono (Ex.new hk) d h⟩) fun u hu => by
      rw [DO.1] at hu
      rw [← Option.some.inj hu]
      exact upd_same
    exact k.nx _ _ _ H' gp ((en.go gA).set_any (ov := some (.ref l)) (sl := .ext (dctS K kvs)) ⟨.ref l, rfl, l, rfl, D2⟩ (fun _ q => Slot.noConfusion q)) f
theorem dctS_at {H0 Hk H : Hp} {σ : List (Option V)} {i : Nat} {kvs : List (PyData × PyData)} (e : Ex Hk H) (en : En K p H0 Hk H σ env) (hi : env[i]? = some (.ext (dctS K kvs))) : ∃ l, σ[i]? = some (some (.ref l)) ∧ DicAt (RkOf K Hk) (RvOf K Hk) H l kvs := by
  obtain ⟨ov, h1, v, rfl, l, rfl, D⟩ := en.slot i _ hi
  exact ⟨l, h1, D.mono (fun _ _ r => r) (fun _ _ r => r) fun o h => e l o h⟩
theorem e_lenX {i : Nat} {kvs : List (PyData × PyData)} (hi : env[i]? = some (.ext (dctS K kvs))) (h : Φ (.int kvs.length)) {r : List V → Hp → VK → Prop} (hr : r = fun xs H Q => ∃ (p : Addr) (kvs : List (PyData × PyData)) (Rk : PyData → Addr → Prop) (Rv : PyData → Value → Prop), xs = [.ref p] ∧ DicAt Rk Rv H p kvs ∧ (∀ d a, Rk d a → Dp K H (.ref a) d) ∧ Q (.int kvs.length) H := by with_unfolding_all rfl) :
    WpE K p (tCB r (tCons (tVar i) tNil)) env Φ := fun H0 σ Hk H Q e po en k => by
  subst hr
  obtain ⟨l, h1, D⟩ := dctS_at e en hi
  exact ⟨.ref l, h1, l, kvs, _, _, rfl, D, fun d a r => dp_mono0 e d r, k _ _ Hk H (Go.refl e po) (.int _) h⟩
theorem f_sortX {i : Nat} {kvs : List (PyData × PyData)} {Ψ : List PyData → Prop} (hi : env[i]? = some (.ext (dctS K kvs))) (hz : kvs.length ≤ 100000) (al : PySem.W.AllAlike (kvs.map (·.1))) (so : PySem.W.Sortable (kvs.map (·.1))) (dp : ∀ d ∈ kvs.map (·.1), d.depth ≤ 60) (h : Ψ (sortD (kvs.map (·.1)))) (hK : K' = K := by with_unfolding_all rfl) :
    WpF K p (tCB (rSortDic K') (tCons (tVar i) tNil)) env Ψ := fun H0 σ Hk H Q e po en k => by
  subst hK
  obtain ⟨l, h1, D⟩ := dctS_at e en hi
  obtain ⟨o, es, ep, DO⟩ := dicO_of D
  refine ⟨.ref l, h1, l, o, es, ep, kvs, _, _, rfl, DO, hz, fun d a r => dp_mono0 e d r, al, so, dp, fun ys q py hq => ?_⟩
  have all : ∀ {ys : List V} {ds : List PyData}, Paired (fun x d => ∃ a, x = V.ref a ∧ RkOf K' Hk d a) ys ds → DxAll K' Hk ys ds := fun z => by
    induction z with
    | nil => exact .nil
    | cons h _ ih =>
      obtain ⟨a, rfl, r⟩ := h
      exact .cons (dp_dx _ r) ih
  exact k q ys _ Hk _ ((Go.refl e po).mut hq (pot_ne po hq) (fresh_back e hq)) hq (fresh_back e hq) upd_same (all py) h
/-- two names, both for new lists -/
theorem s_parFF {i j : Nat} (h : WpF K p ta env fun xs => WpF K p tb env fun ds => O.nx ((env.set i (.own xs)).set j (.own ds))) : WpS K p (tPar i j (tCons ta (tCons tb tNil))) env O := fun H0 Hk0 σ Hk H D g en k =>
  h H0 σ Hk H _ g.kr g.po en fun l1 us xs Hk1 H1 g1 a0 ak al ar h1 => h1 H0 σ Hk1 H1 _ g1.kr g1.po (en.go g1) fun l vs ds Hk' H' g' h0 hk hl r f => by
    have gg := g.trans g1
    have p1 := pot_ne g.po a0
    have al2 : H' l1 = some (.lst us) := g'.rr l1 _ p1 al
    have ak2 : Hk' l1 = none := g'.nk l1 (by rw [al]; exact nofun) ak
    refine ⟨.ref l1, .ref l, rfl, k.nx _ _ Hk' H' (gg.trans g') ?_ f⟩
    have enA : En K p H0 Hk1 H1 (σ.set i (some (.ref l1))) (env.set i (.own xs)) := En.add_own en (en.go g1) (fresh0 g a0) a0 al ak p1 ar
    exact En.add_own enA (enA.go g') (fresh0 gg h0) h0 hl hk (pot_ne g1.po h0) r
end
end Fw
namespace FwD
open PySem PySem.Spec PyProof.Rows L2
section
variable {X : Cx}
theorem sw_dict {kx vx : Expr} {gs : List Comprehension} {scope : Scope} {pos py : Pos} {y : Str} {l : Nat} {env : Env} (hk : env.scope.kind = .function) (hy : env.scope.names.lookup y = some .local) (hl : (py.line == pos.line) = true)
    (ha : (scope.names.any fun (n, k) => n == y && (k == .local || k == .cell)) = false) : swapsWith (.DictComp kx vx gs scope pos) (some (.Name y py)) l env = pure true := by
  have e1 : env.kindOf y = some .local := hy
  have e2 : env.blockKind = .function := by
    unfold Env.blockKind
    rw [hk]
    rfl
  unfold swapsWith
  simp only [e1, e2, ha, Expr.pos, hl]
  rfl
/-- name = {k: v for ..}, the name a local -/
theorem ps_setDc {i : Nat} {y : Str} {py spos : Pos} {kx vx tg iter : Expr} {ifs : List Expr} {scope : Scope} {own : List (Str × Nat)} {pos : Pos} {wi : TI} {g : TG} {tt : TT} {tk tv : TE} (hu : X.A.units + 64 < cLine) (calm : X.calm = true) (nd : X.N.Nodup) (at_ : X.N[i]? = some y) (loc : X.env.scope.names.lookup y = some .local)
    (sw : swapsWith (.DictComp kx vx [⟨tg, iter, ifs, 0⟩] scope pos) (some (.Name y py)) spos.line X.env = pure true) (hi : PI X tg iter wi) (ok : BlkOk X.N X.env.scope scope own)
    (pg : BlkFor X scope fun Y => PG Y tg g) (pt : BlkFor X scope fun Y => PTs Y ifs tt) (pk : BlkFor X scope fun Y => PE Y kx tk) (pv : BlkFor X scope fun Y => PE Y vx tv)
    (fold : ∀ x, foldedSetIterable iter X.env x = pure x := by intro _; rfl) : PS X (.Assign [.Name y py] (.DictComp kx vx [⟨tg, iter, ifs, 0⟩] scope pos) spos) (tAsg (tDcX X.K wi g tt tk tv (own.map (·.2))) (gName i)) := by
  constructor
  intro pins s σ H D I h
  rw [exec_Assign_Name_used _ _ _ _ sw]
  refine wpAny_bind (wpAny_standAt (wpAny_bind ?_))
  have h2 : tDcX X.K wi g tt tk tv (own.map (·.2)) σ H (fun x H1 => gName i x σ H1 D.nx) := h
  refine (show wpAny _ X.A (do let _ ← comprehension (.DictComp kx vx [⟨tg, iter, ifs, 0⟩] scope pos) scope X.env (firstIterPos [⟨tg, iter, ifs, 0⟩] pos) newDict false (eval iter X.env) (some (assign (.Name y py) X.env))) _ _ s from ?_)
  refine wpAny_bind (thn (dcX_core (Qf := fun _ s' => SP X pins D .next s') hu calm nd I hi ok pg pt pk pv fold h2 fun L C s' m H' I' q ns f => ?_) fun _ s' hq => wpAny_pure (wpAny_pure hq))
  refine (show wpAny _ _ (assign (.Name y py) X.env (.ref L)) _ _ _ from ?_)
  refine wpAny_assign_Name (store_ok2 (v := V.ref L) I' nd at_ (.inl loc) rfl (fun s2 I2 ⟨a, sb, ha⟩ => ?_) (.inr loc))
  obtain ⟨f0, f1, f2, f3, f4, f5⟩ := f
  have apart : C ≠ a := by
    rcases ha with z | z
    · rw [z]
      exact f1
    · exact fun e => f4 y a z e.symm
  refine ⟨m, ns.sameBut sb apart, fun h3 sb3 => ⟨_, H', I2.turned (t' := s2.toks) (fun b o hb e => (sb3.2 b hb).trans e) f0 f1 f3 f4 f5, q⟩⟩
end
end FwD
/-! rows of ints as data: sorted, keys of dicts -/
namespace FwN
open PySem PySem.Spec PyProof.Rows L2 Fw FwS FwD FwW
theorem alike_row (a b : List Int) : PySem.W.alike (tupI a) (tupI b) = true := by
  have := alike_all a b
  simpa [PySem.W.alike] using this
theorem sort_rows (ks : List (List Int)) : ∃ rs : List (List Int), sortD (ks.map fun m => tupI m) = rs.map (fun m => tupI m) ∧ rs.Perm ks ∧ rs.Pairwise fun a b => ¬ b < a := by
  have T := PySem.W.sortLe_total (PyProof.Rows.listOrd PyProof.Rows.itemOrd) false fun d : PyData => PySem.W.keyToks d
  have hle : ∀ a b : List Int, (fun a b => PySem.W.dataLe false (fun d : PyData => d) (tupI a) (tupI b)) a b = PySem.W.dataLe false (fun d : PyData => d) (tupI a) (tupI b) := fun _ _ => rfl
  have P := List.pairwise_mergeSort (le := fun a b : List Int => PySem.W.dataLe false (fun d : PyData => d) (tupI a) (tupI b)) (fun a b c h1 h2 => T.trans _ _ _ h1 h2) (fun a b => by
    rcases T.total (tupI a) (tupI b) with h | h
    · exact Bool.or_eq_true_iff.mpr (.inl h)
    · exact Bool.or_eq_true_iff.mpr (.inr h)) ks
  have pm := List.mergeSort_perm ks (fun a b => PySem.W.dataLe false (fun d : PyData => d) (tupI a) (tupI b))
  refine ⟨_, (List.map_mergeSort (f := fun m => tupI m) (fun a _ b _ => hle a b)).symm, pm, P.imp fun {a b} h => ?_⟩
  have h3 : (!PySem.W.dataLt (tupI b) (tupI a)) = true := h
  rw [lt_rows] at h3
  simpa using h3
theorem alike_rows (ks : List (List Int)) : PySem.W.AllAlike (ks.map fun m => tupI m) := fun d hd d' hd' => by
  obtain ⟨a, _, rfl⟩ := List.mem_map.mp hd
  obtain ⟨b, _, rfl⟩ := List.mem_map.mp hd'
  exact alike_row a b
theorem sortable_rows {ks : List (List Int)} (h : ∀ k ∈ ks, k ≠ []) : PySem.W.Sortable (ks.map fun m => tupI m) := .inl fun d hd => by
  obtain ⟨a, ha, rfl⟩ := List.mem_map.mp hd
  cases e : a with
  | nil => exact absurd e (h a ha)
  | cons x r => exact ⟨.int x, r.map .int, rfl⟩
theorem deep_rows (ks : List (List Int)) : ∀ d ∈ ks.map (fun m => tupI m), d.depth ≤ 60 := fun d hd => by
  obtain ⟨a, _, rfl⟩ := List.mem_map.mp hd
  show PyData.depthAll (a.map .int) + 1 ≤ 60
  rw [deep_ints]
  decide
theorem noDict_ints : ∀ m : List Int, PyData.hasDictAll (m.map .int) = false
  | [] => rfl
  | x :: m => by
    show (PyData.hasDict (.int x) || PyData.hasDictAll (m.map .int)) = false
    rw [noDict_ints m]
    rfl
theorem noDict_rows : ∀ ks : List (List Int), PyData.hasDictAll (ks.map fun m => tupI m) = false
  | [] => rfl
  | k :: ks => by
    show (PyData.hasDictAll (k.map .int) || PyData.hasDictAll (ks.map fun m => tupI m)) = false
    rw [noDict_ints k, noDict_rows ks]
    rfl
theorem eqvAll_ints : ∀ a b : List Int, PyData.eqvAll (a.map .int) (b.map .int) = decide (a = b)
  | [], [] => rfl
  | [], _ :: _ => rfl
  | _ :: _, [] => rfl
  | x :: a, y :: b => by
    show ((x == y) && PyData.eqvAll (a.map .int) (b.map .int)) = _
    rw [eqvAll_ints a b]
    by_cases h : x = y
    · subst h
      by_cases h2 : a = b
      · subst h2; simp
      · simp [h2]
    · simp [h]
theorem eqv_row (a b : List Int) : PyData.eqv (tupI a) (tupI b) = decide (a = b) := eqvAll_ints a b
theorem keyTs_ints : ∀ m : List Int, keyTs (m.map .int) = some (m.map .num)
  | [] => rfl
  | x :: m => by
    show (keyT (.int x)).bind (fun k => (keyTs (m.map .int)).map fun ks => k :: ks) = _
    rw [keyTs_ints m]
    rfl
theorem depth_nums : ∀ m : List Int, PySem.NestedKey.depthAll (m.map .num) = 0
  | [] => rfl
  | x :: m => by
    show max (PySem.NestedKey.depth (.num x)) (PySem.NestedKey.depthAll (m.map .num)) = 0
    rw [depth_nums m]
    rfl
theorem key_ok (m : List Int) : KeyOk (tupI m) := by
  refine ⟨⟨.tup (m.map .num), ?_, ?_⟩, fun i h => nomatch h⟩
  · show (keyTs (m.map .int)).map PySem.NestedKey.tup = _
    rw [keyTs_ints]
    rfl
  · show PySem.NestedKey.depthAll (m.map .num) + 1 ≤ 8
    rw [depth_nums]
    decide
/-- the keys, when a row is put -/
theorem put_rows {acc : List (PyData × PyData)} {ks : List (List Int)} (h : acc.map (·.1) = ks.map fun m => tupI m) (m : List Int) (z : PyData) : (putD acc (tupI m) z).map (·.1) = (if m ∈ ks then ks else ks ++ [m]).map fun m => tupI m := by
  have e : hasD acc (tupI m) = decide (m ∈ ks) := by
    have e1 : hasD acc (tupI m) = (acc.map (·.1)).any fun d => PyData.eqv d (tupI m) := by
      unfold hasD
      rw [List.any_map]
      rfl
    rw [e1, h, List.any_map]
    by_cases hm : m ∈ ks
    · rw [decide_eq_true hm]
      exact List.any_eq_true.mpr ⟨m, hm, by show PyData.eqv (tupI m) (tupI m) = true; rw [eqv_row]; simp⟩
    · rw [decide_eq_false hm, Bool.eq_false_iff]
      intro z
      obtain ⟨x, hx, hz⟩ := List.any_eq_true.mp z
      have hz2 : PyData.eqv (tupI x) (tupI m) = true := hz
      rw [eqv_row] at hz2
      exact hm (by rw [← of_decide_eq_true hz2]; exact hx)
  unfold putD
  rw [e]
  by_cases hm : m ∈ ks
  · rw [decide_eq_true hm, if_pos rfl, if_pos hm, ← h, List.map_map]
    refine List.map_congr_left fun p _ => ?_
    show (if PyData.eqv p.1 (tupI m) = true then (p.1, z) else p).1 = p.1
    split <;> rfl
  · rw [decide_eq_false hm, if_neg (by simp), if_neg hm, List.map_append, List.map_append, h]
    rfl
end FwN
namespace FwN
theorem erase_map {α β : Type} (f : α → β) : ∀ (l : List α) (j : Nat), (l.map f).eraseIdx j = (l.eraseIdx j).map f
  | [], _ => rfl
  | _ :: _, 0 => rfl
  | a :: l, j + 1 => congrArg (f a :: ·) (erase_map f l j)
end FwN
namespace FwN
open PySem Fw L2 Evl
theorem at_nat {xs : List PyData} {j : Nat} (h : j < xs.length) : atI xs (j : Int) = some xs[j] := by
  unfold atI
  rw [ixN_nat (by omega) (by omega)]
  show xs[((j : Int)).toNat]? = _
  rw [Int.toNat_natCast, List.getElem?_eq_getElem h]
theorem cut_mem {xs : List PyData} {lo hi : Option Int} {z : PyData} (h : z ∈ cutD xs lo hi) : z ∈ xs := List.mem_of_mem_drop (List.mem_of_mem_take h)
theorem cut_one {xs : List PyData} {i : Int} (h : 0 ≤ i) : (cutD xs (some i) (some (i + 1))).length ≤ 1 := by
  unfold cutD
  have e1 : HT.sIx xs.length 0 (some i) = min i.toNat xs.length := if_neg (show ¬ i < 0 by omega)
  have e2 : HT.sIx xs.length xs.length (some (i + 1)) = min (i + 1).toNat xs.length := if_neg (show ¬ i + 1 < 0 by omega)
  rw [e1, e2, List.length_take]
  omega
end FwN
/-! dict comprehensions with words as keys -/
namespace FwK
open PySem PySem.Spec PyProof.Rows L2 Evl Fw FwD
scoped instance memDec (ks : List L2.Key) (k : L2.Key) : Decidable (k ∈ ks) := decidable_of_iff ((ks.any fun x => decide (x = k)) = true) (by simp [List.any_eq_true])
def keyD : L2.Key → PyData
  | .inl i => .int i
  | .inr x => .str x
def putKey (ks : List L2.Key) (k : L2.Key) : List L2.Key := if k ∈ ks then ks else ks ++ [k]
theorem putK_keys (kvs : List (L2.Key × V)) (k : L2.Key) (z : V) : (putK kvs k z).map (·.1) = putKey (kvs.map (·.1)) k := by
  unfold putK putKey
  by_cases h : k ∈ kvs.map (·.1)
  · have a : (kvs.any fun kv => decide (kv.1 = k)) = true := by
      obtain ⟨p, hp, e⟩ := List.mem_map.mp h
      exact List.any_eq_true.mpr ⟨p, hp, by simpa using e⟩
    rw [if_pos a, if_pos h, List.map_map]
    apply List.map_congr_left
    intro p hp
    by_cases q : p.1 = k
    · simp [q]
    · simp [q]
  · have a : ¬ (kvs.any fun kv => decide (kv.1 = k)) = true := fun t => by
      obtain ⟨p, hp, e⟩ := List.any_eq_true.mp t
      exact h (List.mem_map.mpr ⟨p, hp, by simpa using e⟩)
    rw [if_neg a, if_neg h]
    simp
theorem putKey_len (ks : List L2.Key) (k : L2.Key) : (putKey ks k).length ≤ ks.length + 1 := by
  unfold putKey
  split
  · omega
  · simp
/-- the unlike ones, in their sequence of first standing, are fewer than all exactly if two are alike -/
theorem putKeys_nodup (ks : List L2.Key) : (ks.foldl putKey []).length = ks.length ↔ ks.Nodup := by
  have key : ∀ (ks acc : List L2.Key), acc.Nodup → (ks.foldl putKey acc).length ≤ acc.length + ks.length ∧ ((ks.foldl putKey acc).length = acc.length + ks.length ↔ (acc ++ ks).Nodup) := by
    intro ks
    induction ks with
    | nil => intro acc h; simp [h]
    | cons k ks ih =>
      intro acc h
      rw [List.foldl_cons]
      by_cases m : k ∈ acc
      · have e : putKey acc k = acc := if_pos m
        rw [e]
        have := ih acc h
        refine ⟨by simp only [List.length_cons]; omega, ⟨fun t => absurd t (by simp only [List.length_cons]; omega), fun t => ?_⟩⟩
        have := (List.nodup_append.mp t).2.2 k m k (List.mem_cons_self ..)
        exact absurd rfl this
      · have e : putKey acc k = acc ++ [k] := if_neg m
        rw [e]
        have nd : (acc ++ [k]).Nodup := List.nodup_append.mpr ⟨h, by simp, fun a ha b hb => by rw [List.mem_singleton.mp hb]; exact fun z => m (z ▸ ha)⟩
        have := ih (acc ++ [k]) nd
        simp only [List.length_append, List.length_cons, List.length_nil, List.append_assoc, List.singleton_append, Nat.zero_add] at this ⊢
        refine ⟨by omega, ⟨fun t => this.2.mp (by omega), fun t => by have := this.2.mpr t; omega⟩⟩
  have := key ks [] .nil
  simpa using this.2
/-- te makes a new dict with words or numbers as keys that nobody knows -/
def WpK (K : PySem.W.Frag) (p : Option Addr) (te : TE) (env : List Slot) (Φ : List L2.Key → Prop) : Prop := ∀ (H0 : Hp) (σ : List (Option V)) (Hk H : Hp) (Q : VK), Ex Hk H → PotOk Hk H p → En K p H0 Hk H σ env →
  (∀ l kvs Hk' H', Go p Hk H Hk' H' → H l = none → Hk' l = none → H' l = some (.dK kvs) → Φ (kvs.map (·.1)) → Q (.ref l) H') → te σ H Q
section
variable {K K' : PySem.W.Frag} {p : Option Addr} {env : List Slot} {Φ : PyData → Prop} {te tk tv : TE} {tt : TT}
theorem k_dc {wi : TI} {g : TG} {vs js : List Nat} {Ψ : List L2.Key → Prop} (hs : ∀ j ∈ js, j ∈ vs) (h : WpI K p wi env fun xs => xs.length ≤ 100000 ∧ ∃ Wd : Nat → List L2.Key → Prop, Wd 0 [] ∧
    (∀ (i : Nat) (x : PyData) (acc : List L2.Key), xs[i]? = some x → Wd i acc → acc.length ≤ i → WpG K p js g x (wipeE env vs) fun env2 => WpT K p tt env2 fun b =>
      if b = true then WpE K p tk env2 (fun y => ∃ k, y = keyD k ∧ WpE K p tv env2 fun _ => Wd (i + 1) (putKey acc k)) else Wd (i + 1) acc) ∧
    ∀ acc, acc.length ≤ xs.length → Wd xs.length acc → Ψ acc) : WpK K p (tDc wi g tt tk tv vs) env Ψ := fun H0 σ Hk H Q e po en k => by
  refine h H0 σ Hk H _ e po en fun J xs Hk1 H1 g1 it ⟨hz, Wd, i0, step, last⟩ D hD => ?_
  have pD : p ≠ some D := pot_ne g1.po hD
  have g0 : Go p Hk1 H1 Hk1 (upd H1 D (.dK [])) := (Go.refl g1.kr g1.po).mut hD pD (fresh_back g1.kr hD)
  refine ⟨fun i m H' => m = xs.length - i ∧ i ≤ xs.length ∧ ∃ Hk' kvs, Go p Hk1 H1 Hk' H' ∧ Hk' D = none ∧ H' D = some (.dK kvs) ∧ kvs.length ≤ i ∧ Wd i (kvs.map (·.1)), ⟨xs.length, by omega, by omega, Hk1, [], g0, fresh_back g1.kr hD, upd_same, Nat.le_refl _, i0⟩, ?_⟩
  rintro i m H' ⟨rfl, hi, Hk', kvs, go, kD, dd, hlen, inv⟩
  obtain ⟨o1, o2, o3⟩ := it Hk' H' go.kk go.kr go.po
  by_cases hlt : i < xs.length
  · refine .inr ⟨o1 i hlt, fun H'' => i + 1 ≤ xs.length ∧ ∃ Hk' kvs, Go p Hk1 H1 Hk' H'' ∧ Hk' D = none ∧ H'' D = some (.dK kvs) ∧ kvs.length ≤ i + 1 ∧ Wd (i + 1) (kvs.map (·.1)), fun H'' q => ⟨xs.length - (i + 1), by omega, rfl, q⟩, fun x H'' y => ?_⟩
    obtain ⟨d, Hk2, hd, rd, g2⟩ := o3 i x H'' hlt y
    have en2 : En K p H0 Hk2 H'' (L2.wipe σ vs) (wipeE env vs) := (((en.go g1).go go).go g2).wipe vs
    have live : ∀ {H : Hp}, H D = some (.dK kvs) → H D ≠ none := fun d => by rw [d]; exact nofun
    have k2 : Hk2 D = none := g2.nk D (live dd) kD
    have d2 := g2.rr D _ pD dd
    refine step i d _ hd inv (by rw [List.length_map]; exact hlen) H0 _ Hk2 H'' x _ g2.kr g2.po en2 rd fun σ2 env2 en3 same f3 => ⟨wipe_eq (by rw [same.1, wipe_length]) same.2 hs, ?_⟩
    refine f3 H0 σ2 Hk2 H'' _ g2.kr g2.po en3 fun b Hk4 H4 g4 f4 => ?_
    have k4 : Hk4 D = none := g4.nk D (live d2) k2
    have d4 := g4.rr D _ pD d2
    cases b with
    | false => exact ⟨by omega, Hk4, kvs, (go.trans g2).trans g4, k4, d4, by omega, f4⟩
    | true =>
      refine (show WpE K p tk env2 _ from f4) H0 σ2 Hk4 H4 _ g4.kr g4.po (en3.go g4) fun y dy Hk5 H5 g5 r5 ⟨ky, hy, f5⟩ => ?_
      have k5 : Hk5 D = none := g5.nk D (live d4) k4
      have d5 := g5.rr D _ pD d4
      subst hy
      have ey : y = kV ky := by
        cases ky with
        | inl i => cases r5; rfl
        | inr x => cases r5; rfl
      refine f5 H0 σ2 Hk5 H5 _ g5.kr g5.po ((en3.go g4).go g5) fun z dz Hk6 H6 g6 r6 f6 => ?_
      have k6 : Hk6 D = none := g6.nk D (live d5) k5
      have d6 := g6.rr D _ pD d5
      refine ⟨kvs, ky, ey, d6, sz_lt (by omega), ?_⟩
      have gg := (((go.trans g2).trans g4).trans g5).trans g6
      have e2 : (putK kvs ky z).length = (putKey (kvs.map (·.1)) ky).length := by rw [← putK_keys kvs ky z, List.length_map]
      exact ⟨by omega, Hk6, _, gg.mut hD pD k6, k6, upd_same, by have := putKey_len (kvs.map (·.1)) ky; rw [List.length_map] at this; omega, by rw [putK_keys]; exact f6⟩
  · have hi2 : i = xs.length := by omega
    subst hi2
    have h0 : H D = none := by
      cases z : H D with
      | none => rfl
      | some o => exact absurd hD (g1.live (by rw [z]; exact nofun))
    exact .inl ⟨o2, k D kvs Hk' _ (g1.trans go) h0 kD dd (last _ (by rw [List.length_map]; exact hlen) inv)⟩
end
/-- either reading -/
def tOr (t1 t2 : TE) : TE := fun σ H Q => t1 σ H Q ∨ t2 σ H Q
def rOr (r1 r2 : List V → Hp → VK → Prop) : List V → Hp → VK → Prop := fun xs H Q => r1 xs H Q ∨ r2 xs H Q
theorem pe_or {X : Cx} {e : Expr} {t1 t2 : TE} (h1 : PE X e t1) (h2 : PE X e t2) : PE X e (tOr t1 t2) := ⟨fun pins s σ H Q I h => h.elim (fun q => h1.run pins s σ H Q I q) (fun q => h2.run pins s σ H Q I q)⟩
theorem cr_or {X : Cx} {f : Value} {r1 r2 : List V → Hp → VK → Prop} (h1 : CallR X f r1) (h2 : CallR X f r2) : CallR X f (rOr r1 r2) := fun pins s σ H xs us Q I r h => h.elim (fun q => h1 pins s σ H xs us Q I r q) (fun q => h2 pins s σ H xs us Q I r q)
/-- len of a dict of words, of a dict of rows -/
def rLenK : List V → Hp → VK → Prop := fun xs H Q => ∃ (a : Addr) (kvs : List (L2.Key × V)), xs = [V.ref a] ∧ H a = some (.dK kvs) ∧ Q (.int kvs.length) H
def rLenX (K : PySem.W.Frag) : List V → Hp → VK → Prop := fun xs H Q => ∃ (p : Addr) (kvs : List (PyData × PyData)) (Rk : PyData → Addr → Prop) (Rv : PyData → Value → Prop), xs = [.ref p] ∧ DicAt Rk Rv H p kvs ∧ (∀ d a, Rk d a → Dp K H (.ref a) d) ∧ Q (.int kvs.length) H
section
variable {K : PySem.W.Frag} {p : Option Addr} {env : List Slot} {Φ : PyData → Prop} {t1 t2 : TE} {r1 r2 : List V → Hp → VK → Prop}
theorem e_lenK (h : WpK K p t1 env fun ks => Φ (.int ks.length)) : WpE K p (tCB (rOr rLenK r2) (tCons (tOr t1 t2) tNil)) env Φ := fun H0 σ Hk H Q e po en k =>
  .inl (h H0 σ Hk H _ e po en fun l kvs Hk' H' g h0 hk D f => .inl ⟨l, kvs, rfl, D, k _ _ Hk' H' g (.int _) (by have f' : Φ (.int ((kvs.map (·.1)).length : Nat)) := f; rw [List.length_map] at f'; exact f')⟩)
theorem e_lenX2 (h : WpD K p t2 env fun kvs => Φ (.int kvs.length)) : WpE K p (tCB (rOr r1 (rLenX K)) (tCons (tOr t1 t2) tNil)) env Φ := fun H0 σ Hk H Q e po en k =>
  .inr (h H0 σ Hk H _ e po en fun l kvs Hk' H' g h0 hk D f => .inr ⟨l, kvs, _, _, rfl, D, fun d a r => dp_mono0 g.kr d r, k _ _ Hk' H' g (.int _) f⟩)
end
end FwK
/-! dicts with rows as keys that change -/
namespace FwD
open PySem PySem.Spec PyProof.Rows L2
section
variable {X : Cx}
/-- key in d, key not in d -/
def rInX (K : PySem.W.Frag) (neg : Bool) : R2 := fun x y H Q => ∃ (l : Addr) (kvs : List (PyData × PyData)) (Rk : PyData → Addr → Prop) (Rv : PyData → Value → Prop) (d : PyData) (k : NestedKey), y = .ref l ∧ DicAt Rk Rv H l kvs ∧ (∀ d a, Rk d a → Dp K H (.ref a) d) ∧ Dp K H x d ∧ keyT d = some k ∧ (∀ i, d ≠ .int i) ∧ k.depth ≤ 8 ∧ Q (.bl (if neg then !hasD kvs d else hasD kvs d)) H
theorem key_ref {K : PySem.W.Frag} {H : Hp} {x : V} {d : PyData} {k : NestedKey} (hx : Dp K H x d) (hk : keyT d = some k) (hn : ∀ i, d ≠ .int i) : ∃ a, x = .ref a := by
  cases d with
  | int i => exact absurd rfl (hn i)
  | tuple ds =>
    cases hx
    exact ⟨_, rfl⟩
  | _ => cases hk
theorem op_inX (hu : X.A.units + 16 < cLine) : OpR X (compareOp .In) (rInX X.K false) := by
  intro pins s σ H x y v u Q I rx ry h
  obtain ⟨l, kvs, Rk, Rv, d, k, rfl, D, rk, hx, hk, hn, dp, q⟩ := h
  obtain ⟨a, rfl⟩ := key_ref hx hk hn
  cases rx
  cases ry
  obtain ⟨o, xs, e1, e2, e8, dd, g⟩ := dic_of I rk D
  obtain ⟨as, rd⟩ := Dp.reads I _ _ (.ref a) hx rfl
  refine wpAny_in_heap (knd := nestedKind X.prog X.w) (show X.A.units + 1 + 8 < cLine by omega) ⟨key_is _ _ _ _ hk rd, dp⟩ e2 dd ⟨.bl _, H, I.tok _, rfl, ?_⟩
  rw [← ents_has e8 hk]
  exact q
theorem op_ninX (hu : X.A.units + 16 < cLine) : OpR X (compareOp .NotIn) (rInX X.K true) := by
  intro pins s σ H x y v u Q I rx ry h
  obtain ⟨l, kvs, Rk, Rv, d, k, rfl, D, rk, hx, hk, hn, dp, q⟩ := h
  obtain ⟨a, rfl⟩ := key_ref hx hk hn
  cases rx
  cases ry
  obtain ⟨o, xs, e1, e2, e8, dd, g⟩ := dic_of I rk D
  obtain ⟨as, rd⟩ := Dp.reads I _ _ (.ref a) hx rfl
  refine wpAny_notIn_heap (knd := nestedKind X.prog X.w) (show X.A.units + 1 + 8 < cLine by omega) ⟨key_is _ _ _ _ hk rd, dp⟩ e2 dd ⟨.bl _, H, I.tok _, rfl, ?_⟩
  rw [← ents_has e8 hk]
  exact q
/-- d[key] = value -/
def sPutX (K : PySem.W.Frag) : TSet := fun o i v H Q => ∃ (l : Addr) (kvs : List (PyData × PyData)) (Rk : PyData → Addr → Prop) (Rv : PyData → Value → Prop) (d z : PyData) (k : NestedKey), o = .ref l ∧ DicAt Rk Rv H l kvs ∧ (∀ d a, Rk d a → Dp K H (.ref a) d) ∧ Dp K H i d ∧ keyT d = some k ∧ (∀ i, d ≠ .int i) ∧ k.depth ≤ 8 ∧
  (∀ a, i = .ref a → Rk d a) ∧ (∀ r, RelV v r → Rv z r) ∧ kvs.length < sizeLine ∧ ∀ u, DicAt Rk Rv (upd H l u) l (putD kvs d z) → Q (upd H l u)
theorem set_putX (hu : X.A.units + 16 < cLine) : PSet X (sPutX X.K) := by
  intro pins s σ H o i v ov iv u Q I ro ri rv h
  obtain ⟨l, kvs, Rk, Rv, d, z, k, rfl, D, rk, hx, hk, hn, dp, ky, kz, hz, q⟩ := h
  obtain ⟨a, rfl⟩ := key_ref hx hk hn
  cases ro
  cases ri
  obtain ⟨o, xs, e1, e2, e8, dd, g⟩ := dic_of I rk D
  obtain ⟨as, rd⟩ := Dp.reads I _ _ (.ref a) hx rfl
  refine wpAny_setItem_heap (hsz := by rw [← paired_len e8]; omega) (knd := nestedKind X.prog X.w) (show X.A.units + 1 + 8 < cLine by omega) ⟨key_is _ _ _ _ hk rd, dp⟩ dd fun h' dd' sb => ?_
  obtain ⟨w, I', D'⟩ := dic_new (t' := s.toks + (nestedKind X.prog X.w).draws k) I e1 e2 sb dd' (by have := putD_len kvs d z; omega) (ents_put hk dp (ky a rfl) (kz u rv) e8)
  exact ⟨_, I', q w D'⟩
def tNewX : TE := fun _ H Q => ∀ D u0, H D = none → (∀ Rk Rv, DicAt Rk Rv (upd H D u0) D []) → Q (.ref D) (upd H D u0)
theorem new_inv {pins : List (Addr × Obj)} {s : Shared} {σ : L2.St} {H : Hp} (I : Inv X pins σ H s) : H s.heap.objs.size = none ∧ (s.heap.objs.size == sysModules) = false ∧
    Inv X pins σ (upd H s.heap.objs.size (exact s.heap.objs.size { cls := .type "dict", data := .dict #[] })) { s with heap := s.heap.push { cls := .type "dict", data := .dict #[] } } := by
  refine ⟨I.hok.fresh (Nat.le_refl _), beq_eq_false_iff_ne.mpr (Nat.ne_of_gt I.big), ?_⟩
  have at0 : (s.heap.push { cls := .type "dict", data := .dict #[] }).get? s.heap.objs.size = some { cls := .type "dict", data := .dict #[] } := Heap.get?_push_size _ rfl
  exact I.laid (t' := s.toks) (fun b o e => Heap.get?_push_of_some _ e) (Nat.le_refl _) ⟨at0, ⟨_, at0⟩, fun h1 h2 a k => k _ a⟩
/-- {} -/
theorem pe_newX {pos : Pos} : PE X (.Dict [] [] pos) tNewX := ⟨fun pins s σ H Q I h => by
  obtain ⟨f, nm, I1⟩ := new_inv I
  exact wpAny_Dict_empty ⟨.ref s.heap.objs.size, _, I1, rfl, h _ _ f fun _ _ => dic_empty nm⟩⟩
/-- {key: value} -/
def Put1X (K : PySem.W.Frag) (D : Addr) (y zv : V) (H : Hp) (Nx : Hp → Prop) : Prop := ∃ (Rk : PyData → Addr → Prop) (Rv : PyData → Value → Prop) (d z : PyData) (k : NestedKey), DicAt Rk Rv H D [] ∧ (∀ d a, Rk d a → Dp K H (.ref a) d) ∧ Dp K H y d ∧ keyT d = some k ∧ (∀ i, d ≠ .int i) ∧ k.depth ≤ 8 ∧
  (∀ a, y = .ref a → Rk d a) ∧ (∀ r, RelV zv r → Rv z r) ∧ ∀ v, DicAt Rk Rv (upd H D v) D (putD [] d z) → Nx (upd H D v)
def tOneX (K : PySem.W.Frag) (tk tv : TE) : TE := fun σ H Q => ∀ D u0, H D = none → (∀ Rk Rv, DicAt Rk Rv (upd H D u0) D []) → tk σ (upd H D u0) fun y H1 => tv σ H1 fun z H2 => Put1X K D y z H2 fun H3 => Q (.ref D) H3
theorem vv_one {y z : V} {vs : List (Value × Value)} (h : VV [(y, z)] vs) : ∃ u r, vs = [(u, r)] ∧ RelV y u ∧ RelV z r := match vs, h with
  | [(u, r)], .cons hh .nil => ⟨u, r, rfl, hh.1, hh.2⟩
theorem pe_oneX {pos : Pos} {k v : Expr} {tk tv : TE} (hu : X.A.units + 16 < cLine) (hk : PE X k tk) (hv : PE X v tv) : PE X (.Dict [some k] [v] pos) (tOneX X.K tk tv) := ⟨fun pins s σ H Q I h => by
  obtain ⟨f, nm, I1⟩ := new_inv I
  have run := (pps_cons (pos := pos) hk hv pps_nil).run pins _ σ _ (fun ps H2 => match ps with | [(y, z)] => Put1X X.K s.heap.objs.size y z H2 fun H3 => Q (.ref s.heap.objs.size) H3 | _ => False) I1 ?_
  · rw [arm_eval_Dict, zip_pairTrees [some k] [v] X.env pos rfl rfl, dictDisplay_pairs _ (by intro z; cases z) (by show 1 < 17; omega)]
    refine wpAny_bind (wpAny_standAt (wpAny_bind (wpAny_subDictH (knd := nestedKind X.prog X.w) (Q := fun d s' => wpAny (model X.prog X.w) X.A (pure (Value.ref d)) (EP X pins σ Q) X.xe s') (show X.A.units + 8 < cLine by omega) (show 1 ≤ 15 by omega) (thn run fun vs s1 ⟨ps, H2, I2, rel, put⟩ => ?_))))
    obtain ⟨y, z, rfl⟩ : ∃ y z, ps = [(y, z)] := by
      split at put
      · exact ⟨_, _, rfl⟩
      · exact put.elim
    obtain ⟨u1, u2, rfl, r1, r2⟩ := vv_one rel
    obtain ⟨Rk, Rv, d, dz, kk, D, rk, hy, hkk, hn, dp, ky, kz, q⟩ := put
    obtain ⟨a, rfl⟩ := key_ref hy hkk hn
    cases r1
    obtain ⟨o, xs, e1, e2, e8, dd, g⟩ := dic_of I2 rk D
    obtain ⟨as, rd⟩ := Dp.reads I2 _ _ (.ref a) hy rfl
    have e9 : xs = [] := by
      cases e8
      rfl
    subst e9
    refine ⟨[(kk, a, u2)], ⟨rfl, rfl, ⟨key_is _ _ _ _ hkk rd, dp⟩, True.intro⟩, dd, fun h' tk' dd' sb => ?_⟩
    obtain ⟨w, I', D'⟩ := dic_new (t' := tk') I2 e1 e2 sb dd' (by have := putD_len ([] : List (PyData × PyData)) d dz; have := sizeLine_eq; simp only [List.length_nil] at *; omega) (ents_put hkk dp (ky a rfl) (kz u2 r2) e8)
    exact wpAny_pure ⟨.ref _, _, I', rfl, q w D'⟩
  · exact h _ _ f (fun _ _ => dic_empty nm)⟩
end
end FwD
namespace Fw
open PySem PySem.Spec PyProof.Rows L2 Evl FwD
/-- a dict of the def's own -/
def dicM (K : PySem.W.Frag) (kvs : List (PyData × PyData)) : Mov := ⟨fun Hk l o => DicK K Hk (upd (fun _ => none) l o) l kvs, fun Hk Hk' l o x D => D.mono (fun d _ r => dp_mono0 x d r) (fun d _ ⟨v, rv, h⟩ => ⟨v, rv, dp_mono x d h⟩) fun _ h => h,
  fun Hk l o D vs e => by
    obtain ⟨u, _, _, _, h, _⟩ := D
    rw [upd_same, e] at h
    cases (Option.some.inj h)⟩
section
variable {K K' : PySem.W.Frag} {p : Option Addr} {env : List Slot} {Φ : PyData → Prop} {te tk tv : TE} {O : Outs}
theorem dicM_at {H0 Hk H : Hp} {σ : List (Option V)} {i : Nat} {kvs : List (PyData × PyData)} (en : En K p H0 Hk H σ env) (hi : env[i]? = some (.mov (dicM K kvs))) : ∃ l, σ[i]? = some (some (.ref l)) ∧ H0 l = none ∧ Hk l = none ∧ p ≠ some l ∧ DicK K Hk H l kvs := by
  obtain ⟨ov, h1, l, o, rfl, h0, hk, hp, hl, D⟩ := en.slot i _ hi
  refine ⟨l, h1, h0, hk, hp, D.mono (fun _ _ r => r) (fun _ _ r => r) fun u hu => ?_⟩
  rw [upd_same] at hu
  rw [← Option.some.inj hu]
  exact hl
theorem dicM_of {Hk H : Hp} {l : Addr} {o : HO} {kvs : List (PyData × PyData)} (h : H l = some o) (D : DicK K Hk H l kvs) : (dicM K kvs).S Hk l o := D.mono (fun _ _ r => r) (fun _ _ r => r) fun u hu => by
  rw [h] at hu
  rw [← Option.some.inj hu]
  exact upd_same
/-- name = a new dict -/
theorem s_movDic {i : Nat} (h : WpD K p te env fun kvs => O.nx (env.set i (.mov (dicM K kvs)))) : WpS K p (tAsg te (gName i)) env O := fun H0 Hk0 σ Hk H D g en k =>
  h H0 σ Hk H _ g.kr g.po en fun l kvs Hk' H' g' h0 hk Dk f => by
    obtain ⟨o, ho⟩ := Dk.there
    exact k.nx _ _ Hk' H' (g.trans g') (En.set_mov en (en.go g') (fresh0 g h0) ho hk (pot_ne g.po h0) (dicM_of ho Dk)) f
theorem e_lenM {i : Nat} {kvs : List (PyData × PyData)} (hi : env[i]? = some (.mov (dicM K kvs))) (h : Φ (.int kvs.length)) {r : List V → Hp → VK → Prop} (hr : r = fun xs H Q => ∃ (p : Addr) (kvs : List (PyData × PyData)) (Rk : PyData → Addr → Prop) (Rv : PyData → Value → Prop), xs = [.ref p] ∧ DicAt Rk Rv H p kvs ∧ (∀ d a, Rk d a → Dp K H (.ref a) d) ∧ Q (.int kvs.length) H := by with_unfolding_all rfl) :
    WpE K p (tCB r (tCons (tVar i) tNil)) env Φ := fun H0 σ Hk H Q e po en k => by
  subst hr
  obtain ⟨l, h1, _, _, _, D⟩ := dicM_at en hi
  exact ⟨.ref l, h1, l, kvs, _, _, rfl, D, fun d a r => dp_mono0 e d r, k _ _ Hk H (Go.refl e po) (.int _) h⟩
/-- a new dict without anything in it -/
theorem d_new {Ψ : List (PyData × PyData) → Prop} (h : Ψ []) : WpD K p tNewX env Ψ := fun H0 σ Hk H Q e po en k D u0 hD emp =>
  k D [] Hk _ ((Go.refl e po).mut hD (pot_ne po hD) (fresh_back e hD)) hD (fresh_back e hD) (emp _ _) h
/-- a new dict with one key -/
theorem d_one {Ψ : List (PyData × PyData) → Prop} (h : WpE K p tk env fun y => KeyOk y ∧ WpE K p tv env fun z => Ψ (putD [] y z)) : WpD K p (tOneX K tk tv) env Ψ := fun H0 σ Hk H Q e po en k D u0 hD emp => by
  have g0 : Go p Hk H Hk (upd H D u0) := (Go.refl e po).mut hD (pot_ne po hD) (fresh_back e hD)
  have kD : Hk D = none := fresh_back e hD
  have live : ∀ {H : Hp} {kvs : List (PyData × PyData)} {Rk : PyData → Addr → Prop} {Rv : PyData → Value → Prop}, DicAt Rk Rv H D kvs → H D ≠ none := fun d => by
    obtain ⟨o, e⟩ := d.there
    rw [e]
    exact nofun
  refine h H0 σ Hk _ _ g0.kr g0.po (en.go g0) fun y dy Hk1 H1 g1 ry ⟨⟨⟨ks, hks, hdp⟩, hni⟩, h1⟩ => ?_
  refine h1 H0 σ Hk1 H1 _ g1.kr g1.po ((en.go g0).go g1) fun z dz Hk2 H2 g2 rz f => ?_
  have d0 : DicK K Hk (upd H D u0) D [] := emp _ _
  have k1 : Hk1 D = none := g1.nk D (live d0) kD
  have d1 := d0.go g1 (pot_ne po hD)
  have k2 : Hk2 D = none := g2.nk D (live d1) k1
  have d2 := d1.go g2 (pot_ne po hD)
  have ry2 := dp_mono g2.kk dy ry
  refine ⟨RkOf K Hk2, RvOf K Hk2, dy, dz, ks, d2, fun d a r => dp_mono0 g2.kr d r, dx_dp dy (key_noDict dy ks hks) (dp_mono g2.kr dy ry2), hks, hni, hdp, fun a e => by show Dp K Hk2 (.ref a) dy; rw [← e]; exact dx_dp dy (key_noDict dy ks hks) ry2, fun r rr => ⟨z, rr, rz⟩, fun u D3 => ?_⟩
  exact k D _ Hk2 _ (((g0.trans g1).trans g2).mut hD (pot_ne po hD) k2) hD k2 D3 f
/-- key in name -/
theorem e_inM {i : Nat} {neg : Bool} {kvs : List (PyData × PyData)} (hi : env[i]? = some (.mov (dicM K kvs))) (h : WpE K p tk env fun y => KeyOk y ∧ Φ (.bool (if neg then !hasD kvs y else hasD kvs y))) : WpE K p (tOp (rInX K neg) tk (tVar i)) env Φ := fun H0 σ Hk H Q e po en k =>
  h H0 σ Hk H _ e po en fun y dy Hk1 H1 g1 ry ⟨⟨⟨ks, hks, hdp⟩, hni⟩, f⟩ => by
    obtain ⟨l, h1, _, _, _, D⟩ := dicM_at (en.go g1) hi
    exact ⟨.ref l, h1, l, kvs, _, _, dy, ks, rfl, D, fun d a r => dp_mono0 g1.kr d r, dx_dp dy (key_noDict dy ks hks) (dp_mono g1.kr dy ry), hks, hni, hdp, k _ _ Hk1 H1 g1 (.bl _) f⟩
/-- name[key] = value -/
theorem s_dput {i : Nat} {kvs : List (PyData × PyData)} (hi : env[i]? = some (.mov (dicM K kvs))) (one : OneMov env i) (h : WpE K p tv env fun z => WpE K p tk env fun y => KeyOk y ∧ kvs.length < 100000 ∧ O.nx (env.set i (.mov (dicM K (putD kvs y z))))) :
    WpS K p (tAsg tv (gSub (tVar i) tk (sPutX K))) env O := fun H0 Hk0 σ Hk H D g en k =>
  h H0 σ Hk H _ g.kr g.po en fun z dz Hk1 H1 g1 rz h1 => by
    obtain ⟨l, hs, l0, lk, lp, Dk⟩ := dicM_at (en.go g1) hi
    refine ⟨.ref l, hs, h1 H0 σ Hk1 H1 _ g1.kr g1.po (en.go g1) fun y dy Hk2 H2 g2 ry ⟨⟨⟨ks, hks, hdp⟩, hni⟩, hz, f⟩ => ?_⟩
    obtain ⟨l', hs', _, lk2, _, D2⟩ := dicM_at ((en.go g1).go g2) hi
    have el : l' = l := by
      rw [hs] at hs'
      injection (Option.some.inj (Option.some.inj hs')) with q
      exact q.symm
    subst el
    have dyr := dx_dp dy (key_noDict dy ks hks) (dp_mono g2.kr dy ry)
    have gg := (g.trans g1).trans g2
    refine ⟨l', kvs, RkOf K Hk2, RvOf K Hk2, dy, dz, ks, rfl, D2, fun d a r => dp_mono0 g2.kr d r, dyr, hks, hni, hdp, fun a e => by show Dp K Hk2 (.ref a) dy; rw [← e]; exact dx_dp dy (key_noDict dy ks hks) ry, fun r rr => ⟨z, rr, dp_mono g2.kk dz rz⟩, sz_lt (by omega), fun u D3 => ?_⟩
    exact k.nx _ _ Hk2 _ (gg.mut l0 lp lk2) (En.put_mov ((en.go g1).go g2) one hi hs' (dicM_of upd_same D3)) f
end
end Fw
/-! reading dicts with rows as keys -/
namespace FwD
open PySem PySem.Spec PyProof.Rows L2
def atD (kvs : List (PyData × PyData)) (d : PyData) : Option PyData := (kvs.find? fun p => PyData.eqv p.1 d).map (·.2)
section
variable {Rk : PyData → Addr → Prop} {Rv : PyData → Value → Prop}
theorem ents_at : ∀ {kvs : List (PyData × PyData)} {xs : List (NestedKey × Addr × Value)}, Paired (Ent Rk Rv) kvs xs → ∀ {d : PyData} {k : NestedKey}, keyT d = some k → (∀ z, atD kvs d = some z → ∃ q, atKey xs k = some q ∧ Rv z q.2) ∧ (atD kvs d = none → atKey xs k = none)
  | _, _, .nil, _, _, _ => ⟨fun _ h => (nomatch h), fun _ => rfl⟩
  | _, _, .cons (a := p) (b := q) (l₁ := ps) (l₂ := qs) h t, d, k, hk => by
    have ih := ents_at t hk
    obtain ⟨p1, p2⟩ := p
    obtain ⟨q1, q2, q3⟩ := q
    have e := key_eqv _ _ _ _ h.1 hk
    simp only at e
    by_cases z : q1 = k
    · have e1 : PyData.eqv p1 d = true := by rw [e, decide_eq_true z]
      have e2 : atD ((p1, p2) :: ps) d = some p2 := by simp [atD, e1]
      have e3 : atKey ((q1, q2, q3) :: qs) k = some (q2, q3) := by simp [atKey, z]
      rw [e2, e3]
      exact ⟨fun z h2 => ⟨_, rfl, (Option.some.inj h2) ▸ h.2.2.2⟩, fun h2 => nomatch h2⟩
    · have e1 : PyData.eqv p1 d = false := by rw [e, decide_eq_false z]
      have e2 : atD ((p1, p2) :: ps) d = atD ps d := by simp [atD, e1]
      have e3 : atKey ((q1, q2, q3) :: qs) k = atKey qs k := by simp [atKey, z]
      rw [e2, e3]
      exact ih
end
section
variable {X : Cx}
/-- d[key], the key in it -/
def rGetX (K : PySem.W.Frag) : R2 := fun x y H Q => ∃ (l : Addr) (kvs : List (PyData × PyData)) (Rk : PyData → Addr → Prop) (Rv : PyData → Value → Prop) (d z : PyData) (k : NestedKey), x = .ref l ∧ DicAt Rk Rv H l kvs ∧ (∀ d a, Rk d a → Dp K H (.ref a) d) ∧ Dp K H y d ∧ keyT d = some k ∧ (∀ i, d ≠ .int i) ∧ k.depth ≤ 8 ∧ atD kvs d = some z ∧ ∀ r, Rv z r → ∃ v, RelV v r ∧ Q v H
theorem ix_getX (hu : X.A.units + 16 < cLine) : IxR X (rGetX X.K) := by
  intro value slice pins s σ H x y v u Q I rx ry h hs
  obtain ⟨l, kvs, Rk, Rv, d, z, k, rfl, D, rk, hy, hk, hn, dp, hz, q⟩ := h
  obtain ⟨a, rfl⟩ := key_ref hy hk hn
  cases rx
  cases ry
  obtain ⟨o, xs, e1, e2, e8, dd, g⟩ := dic_of I rk D
  obtain ⟨as, rd⟩ := Dp.reads I _ _ (.ref a) hy rfl
  obtain ⟨p, hp, rv⟩ := (ents_at e8 hk).1 z hz
  obtain ⟨v, rr, qq⟩ := q _ rv
  exact tail_any dd.typeIs F.slot_dict_getitem.lookup (wpAny_getItem_heap (knd := nestedKind X.prog X.w) (show X.A.units + 1 + 8 < cLine by omega) ⟨key_is _ _ _ _ hk rd, dp⟩ dd hp ⟨v, H, I.tok _, rr, qq⟩) hs
end
end FwD
namespace Fw
open PySem PySem.Spec PyProof.Rows L2 Evl FwD
section
variable {K : PySem.W.Frag} {p : Option Addr} {env : List Slot} {Φ : PyData → Prop} {tk : TE}
/-- name[key] -/
theorem e_getM {i : Nat} {kvs : List (PyData × PyData)} (hi : env[i]? = some (.mov (dicM K kvs))) (h : WpE K p tk env fun y => KeyOk y ∧ ∃ z, atD kvs y = some z ∧ Φ z) : WpE K p (tOp (rGetX K) (tVar i) tk) env Φ := fun H0 σ Hk H Q e po en k => by
  obtain ⟨l, h1, _, _, lp, D⟩ := dicM_at en hi
  refine ⟨.ref l, h1, h H0 σ Hk H _ e po en fun y dy Hk1 H1 g1 ry ⟨⟨⟨ks, hks, hdp⟩, hni⟩, z, hz, f⟩ => ?_⟩
  have D1 := D.go g1 lp
  exact ⟨l, kvs, _, _, dy, z, ks, rfl, D1, fun d a r => dp_mono0 g1.kr d r, dx_dp dy (key_noDict dy ks hks) (dp_mono g1.kr dy ry), hks, hni, hdp, hz, fun r ⟨v, rv, dv⟩ => ⟨v, rv, k _ _ Hk1 H1 g1 dv f⟩⟩
/-- what is put in is there, what was there stays -/
theorem atD_put {kvs : List (PyData × PyData)} {d z : PyData} (h : PyData.eqv d d = true) : atD (putD kvs d z) d = some z := by
  unfold putD
  split
  · rename_i t
    unfold hasD at t
    induction kvs with
    | nil => cases t
    | cons p ps ih =>
      rw [List.map_cons]
      by_cases e : PyData.eqv p.1 d = true
      · simp [atD, e]
      · have e' : PyData.eqv p.1 d = false := by simpa using e
        rw [List.any_cons, e', Bool.false_or] at t
        have := ih t
        simp only [atD, e', Bool.false_eq_true, if_false, List.find?_cons] at this ⊢
        exact this
  · rename_i t
    have t' : hasD kvs d = false := by simpa using t
    unfold hasD at t'
    have : kvs.find? (fun p => PyData.eqv p.1 d) = none := List.find?_eq_none.mpr fun p hp e => by
      have := List.any_eq_false.mp t' p hp
      exact this e
    simp [atD, List.find?_append, this, h]
end
end Fw
namespace FwD
open PySem PySem.Spec PyProof.Rows L2
section
variable {X : Cx}
/-- d.get(key), d.get(key, other): the value or what stands for it -/
def rGetM (K : PySem.W.Frag) : V → List V → Hp → VK → Prop := fun x xs H Q => ∃ (l : Addr) (kvs : List (PyData × PyData)) (Rk : PyData → Addr → Prop) (Rv : PyData → Value → Prop) (y : V) (d : PyData) (k : NestedKey), x = .ref l ∧ DicAt Rk Rv H l kvs ∧ (∀ d a, Rk d a → Dp K H (.ref a) d) ∧ Dp K H y d ∧ keyT d = some k ∧ (∀ i, d ≠ .int i) ∧ k.depth ≤ 8 ∧
  ∃ w : V, ((xs = [y] ∧ w = .non) ∨ xs = [y, w]) ∧ (atD kvs d = none → Q w H) ∧ ∀ z, atD kvs d = some z → ∀ r, Rv z r → ∃ v, RelV v r ∧ Q v H
theorem mt_getM (hu : X.A.units + 16 < cLine) : MtR X "dict.get" (rGetM X.K) := by
  intro pins s σ H x xs v us Q I rx rxs h
  obtain ⟨l, kvs, Rk, Rv, y, d, k, rfl, D, rk, hy, hk, hn, dp, w, hx, q0, q1⟩ := h
  obtain ⟨a, rfl⟩ := key_ref hy hk hn
  cases rx
  obtain ⟨o, es, e1, e2, e8, dd, g⟩ := dic_of I rk D
  obtain ⟨as, rd⟩ := Dp.reads I _ _ (.ref a) hy rfl
  have E := ents_at e8 hk
  have fin : ∀ (u : Value), RelV w u → EP X pins σ Q (((atKey es k).map (·.2)).getD u) { s with toks := s.toks + (nestedKind X.prog X.w).draws k } := fun u ru => by
    cases hz : atD kvs d with
    | none =>
      rw [E.2 hz]
      exact ⟨w, H, I.tok _, ru, q0 hz⟩
    | some z =>
      obtain ⟨p, hp, rv⟩ := E.1 z hz
      obtain ⟨v, rr, qq⟩ := q1 z hz _ rv
      rw [hp]
      exact ⟨v, H, I.tok _, rr, qq⟩
  have room : (nestedKind X.prog X.w).room X.A.in1 := show X.A.units + 1 + 8 < cLine by omega
  rcases hx with ⟨rfl, rfl⟩ | rfl
  · obtain ⟨u, rfl, ru⟩ := vals1 rxs
    cases ru
    exact call_meetsIn F.slot_dict_get dd.typeIs F.entry_dict_get (F.args_dict_get_2 _ _) (meetsH_dict_get (nestedKind X.prog X.w) l a e2) ⟨room, k, es, ⟨key_is _ _ _ _ hk rd, dp⟩, dd, fin .none rfl⟩
  · cases rxs with
    | cons r1 rt =>
      cases r1
      obtain ⟨u, rfl, ru⟩ := vals1 rt
      exact call_meetsIn F.slot_dict_get dd.typeIs F.entry_dict_get (F.args_dict_get_3 _ _ _) (meetsH_dict_get_default (nestedKind X.prog X.w) l a e2 u) ⟨room, k, es, ⟨key_is _ _ _ _ hk rd, dp⟩, dd, fin u ru⟩
end
end FwD
namespace FwD
open PySem PySem.Spec PyProof.Rows L2
section
variable {X : Cx}
/-- the call of a method of such a dict -/
def tMX (r : V → List V → Hp → VK → Prop) (to : TE) (t : TA) : TE := fun σ H Q => to σ H fun x H1 => (∃ (l : Addr) (kvs : List (PyData × PyData)) (Rk : PyData → Addr → Prop) (Rv : PyData → Value → Prop), x = .ref l ∧ DicAt Rk Rv H1 l kvs) ∧ t σ H1 fun xs H2 => r x xs H2 Q
theorem pe_mX {o e : Expr} {es : List Expr} {to : TE} {t : TA} {name : Str} {apos cpos : Pos} {id : String} {r : V → List V → Hp → VK → Prop} (slot : Slot "dict" name id) (hty : typeOf (.builtin id) = pure (.type "method_descriptor")) (hm : MtR X id r) (ho : PE X o to) (ha : PA X (e :: es) t)
    (hbase : attributeBase o name X.env (eval o X.env) = eval o X.env := by rfl)
    (hfew : ((backTo cpos (starEach (e :: es) X.env)).all (fun x => !x.1) && (backToKw cpos (keywordEach [] X.env)).all (fun x => x.1.isSome)
      && decide ((e :: es).length + ([] : List Keyword).length + (if ([] : List Keyword).isEmpty then 0 else 1) < 30)) = true := by rfl)
    (hline : (apos.endLine == cpos.line) = true := by rfl) (hs : starEach (e :: es) X.env = (false, eval e X.env) :: starEach es X.env := by rfl) (hplain : (backTo cpos (starEach es X.env)).any (·.1) = false := by rfl) :
    PE X (.Call (.Attribute o name apos) (e :: es) [] cpos) (tMX r to t) := by
  refine ⟨fun pins s σ H Q I h => ?_⟩
  refine wpAny_Call_method_late hbase hfew hline rfl (thn (ho.run pins s σ H _ I h) fun v s1 ⟨x, H1, I1, r1, ⟨l, kvs, Rk, Rv, ex, D⟩, q1⟩ => ?_)
  subst ex
  have r2 := r1
  cases r2
  obtain ⟨ob, es', ep, xs, e1, e2, e3, e4, e5⟩ := D
  have g : s1.heap.get? l = some ob := (show ObjOk X.prog X.w H1 s1.heap l (exact l ob) from I1.hok l _ e1).1
  refine ⟨"dict", id, PySem.F.plainAttrs_dict, slot, hty, ⟨ob, g, e3.1⟩, fun a e => ?_, ?_⟩
  · cases e
    exact ⟨ob, g, e3.2.1⟩
  have hA := ha.run cpos pins s1 σ H1 _ I1 q1
  rw [hs] at hA ⊢
  refine Calls.callWith_builtin (by show (false || (backTo cpos (starEach es X.env)).any (·.1)) = false; rw [hplain] <;> rfl) (Calls.evalArgs_plain ?_)
  exact thn hA fun us s2 ⟨vs, H2, I2, r2, q2⟩ => hm pins s2 σ H2 _ vs _ us Q I2 r1 r2 q2
/-- the two that are wanted -/
theorem pe_getX {o e : Expr} {es : List Expr} {to : TE} {t : TA} {apos cpos : Pos} (hu : X.A.units + 16 < cLine) (ho : PE X o to) (ha : PA X (e :: es) t)
    (hbase : attributeBase o "get" X.env (eval o X.env) = eval o X.env := by rfl)
    (hfew : ((backTo cpos (starEach (e :: es) X.env)).all (fun x => !x.1) && (backToKw cpos (keywordEach [] X.env)).all (fun x => x.1.isSome)
      && decide ((e :: es).length + ([] : List Keyword).length + (if ([] : List Keyword).isEmpty then 0 else 1) < 30)) = true := by rfl)
    (hline : (apos.endLine == cpos.line) = true := by rfl) (hs : starEach (e :: es) X.env = (false, eval e X.env) :: starEach es X.env := by rfl) (hplain : (backTo cpos (starEach es X.env)).any (·.1) = false := by rfl) :
    PE X (.Call (.Attribute o "get" apos) (e :: es) [] cpos) (tMX (rGetM X.K) to t) :=
  pe_mX PySem.F.slot_dict_get PySem.F.type_dict_get (mt_getM hu) ho ha hbase hfew hline hs hplain
end
end FwD
namespace Fw
open PySem PySem.Spec PyProof.Rows L2 Evl FwD
section
variable {K : PySem.W.Frag} {p : Option Addr} {env : List Slot} {Φ : PyData → Prop} {tk tw : TE}
/-- name.get(key) -/
theorem e_mget1 {i : Nat} {kvs : List (PyData × PyData)} (hi : env[i]? = some (.mov (dicM K kvs))) (h : WpE K p tk env fun y => KeyOk y ∧ Φ ((atD kvs y).getD .none)) : WpE K p (tMX (rGetM K) (tVar i) (tCons tk tNil)) env Φ := fun H0 σ Hk H Q e po en k => by
  obtain ⟨l, h1, _, _, lp, D⟩ := dicM_at en hi
  refine ⟨.ref l, h1, ⟨l, kvs, _, _, rfl, D⟩, h H0 σ Hk H _ e po en fun y dy Hk1 H1 g1 ry ⟨⟨⟨ks, hks, hdp⟩, hni⟩, f⟩ => ?_⟩
  have D1 := D.go g1 lp
  refine ⟨l, kvs, _, _, y, dy, ks, rfl, D1, fun d a r => dp_mono0 g1.kr d r, dx_dp dy (key_noDict dy ks hks) (dp_mono g1.kr dy ry), hks, hni, hdp, .non, .inl ⟨rfl, rfl⟩, fun hz => ?_, fun z hz r ⟨v, rv, dv⟩ => ⟨v, rv, ?_⟩⟩
  · rw [hz] at f
    exact k _ _ Hk1 H1 g1 .non f
  · rw [hz] at f
    exact k _ _ Hk1 H1 g1 dv f
/-- name.get(key, other) -/
theorem e_mget2 {i : Nat} {kvs : List (PyData × PyData)} (hi : env[i]? = some (.mov (dicM K kvs))) (h : WpE K p tk env fun y => WpE K p tw env fun w => KeyOk y ∧ Φ ((atD kvs y).getD w)) : WpE K p (tMX (rGetM K) (tVar i) (tCons tk (tCons tw tNil))) env Φ := fun H0 σ Hk H Q e po en k => by
  obtain ⟨l, h1, _, _, lp, D⟩ := dicM_at en hi
  refine ⟨.ref l, h1, ⟨l, kvs, _, _, rfl, D⟩, h H0 σ Hk H _ e po en fun y dy Hk1 H1 g1 ry h2 => h2 H0 σ Hk1 H1 _ g1.kr g1.po (en.go g1) fun w dw Hk2 H2 g2 rw_ ⟨⟨⟨ks, hks, hdp⟩, hni⟩, f⟩ => ?_⟩
  have D2 := (D.go g1 lp).go g2 lp
  refine ⟨l, kvs, _, _, y, dy, ks, rfl, D2, fun d a r => dp_mono0 g2.kr d r, dx_dp dy (key_noDict dy ks hks) (dp_mono g2.kr dy (dp_mono g2.kk dy ry)), hks, hni, hdp, w, .inr rfl, fun hz => ?_, fun z hz r ⟨v, rv, dv⟩ => ⟨v, rv, ?_⟩⟩
  · rw [hz] at f
    exact k _ _ Hk2 H2 (g1.trans g2) rw_ f
  · rw [hz] at f
    exact k _ _ Hk2 H2 (g1.trans g2) dv f
end
end Fw
/-! words, tests by in, truths, comprehensions of two fors, known tuples of words -/
namespace FwWd
open PySem PySem.Spec PyProof.Rows L2 Evl Fw FwD
/-! ### x in data -/
def inD (d : PyData) (xs : List PyData) : Bool := xs.any fun y => PyData.eqv y d
def rInD (K : PySem.W.Frag) (neg : Bool) : R2 := fun x y H Q => ∃ d xs, Dp K H x d ∧ ((Dp K H y (.list xs) ∧ SeqAt.shaped (.list xs) = true) ∨ (Dp K H y (.tuple xs) ∧ SeqAt.shaped (.tuple xs) = true)) ∧ SeqAt.shaped d = true ∧ Q (.bl (if neg then !inD d xs else inD d xs)) H
section
variable {X : Cx}
theorem op_inD (hu : X.A.units + 65 < cLine) : OpR X (compareOp .In) (rInD X.K false) := by
  intro pins s σ H x y v u Q I rx ry h
  obtain ⟨d, xs, hd, hx, sd, q⟩ := h
  obtain ⟨as, r1⟩ := Dp.reads I d x v hd rx
  rcases hx with ⟨he, se⟩ | ⟨he, se⟩
  · obtain ⟨bs, r2⟩ := Dp.reads I _ y u he ry
    exact PySem.SeqAt.in_list_reads r2 r1 (SeqAt.canLay_of_shaped se) (SeqAt.canLay_of_shaped sd) (PyProof.Rows.room_in_shaped sd hu) ⟨.bl _, H, I, rfl, q⟩
  · obtain ⟨bs, r2⟩ := Dp.reads I _ y u he ry
    exact PySem.SeqAt.in_tuple_reads r2 r1 (SeqAt.canLay_of_shaped se) (SeqAt.canLay_of_shaped sd) (PyProof.Rows.room_in_shaped sd hu) ⟨.bl _, H, I, rfl, q⟩
theorem op_notInD (hu : X.A.units + 65 < cLine) : OpR X (compareOp .NotIn) (rInD X.K true) := by
  intro pins s σ H x y v u Q I rx ry h
  obtain ⟨d, xs, hd, hx, sd, q⟩ := h
  obtain ⟨as, r1⟩ := Dp.reads I d x v hd rx
  rcases hx with ⟨he, se⟩ | ⟨he, se⟩
  · obtain ⟨bs, r2⟩ := Dp.reads I _ y u he ry
    exact PySem.SeqAt.notIn_list_reads r2 r1 (SeqAt.canLay_of_shaped se) (SeqAt.canLay_of_shaped sd) (PyProof.Rows.room_in_shaped sd hu) ⟨.bl _, H, I, rfl, q⟩
  · obtain ⟨bs, r2⟩ := Dp.reads I _ y u he ry
    exact PySem.SeqAt.notIn_tuple_reads r2 r1 (SeqAt.canLay_of_shaped se) (SeqAt.canLay_of_shaped sd) (PyProof.Rows.room_in_shaped sd hu) ⟨.bl _, H, I, rfl, q⟩
end
/-! ### known tuples of words -/
def strsB : List Str → List Value → Bool
  | [], [] => true
  | w :: ws, .str z _ :: us => decide (z = w) && strsB ws us
  | _, _ => false
theorem strs_vals : ∀ {ws : List Str} {us : List Value}, strsB ws us = true → Vals (ws.map V.str) us
  | [], [], _ => .nil
  | w :: ws, .str z t :: us, h => by
    have h2 : (decide (z = w) && strsB ws us) = true := h
    obtain ⟨a, b⟩ := Bool.and_eq_true_iff.mp h2
    have e := of_decide_eq_true a
    subst e
    exact .cons ⟨t, rfl⟩ (strs_vals b)
  | [], _ :: _, h => by cases h
  | _ :: _, [], h => by cases h
  | _ :: _, .none :: _, h => by cases h
  | _ :: _, .bool _ :: _, h => by cases h
  | _ :: _, .int _ _ :: _, h => by cases h
  | _ :: _, .float _ _ :: _, h => by cases h
  | _ :: _, .bytes _ _ :: _, h => by cases h
  | _ :: _, .ref _ :: _, h => by cases h
  | _ :: _, .type _ :: _, h => by cases h
  | _ :: _, .builtin _ :: _, h => by cases h
end FwWd
namespace FwWd
open PySem PySem.Spec PyProof.Rows L2 Evl Fw FwD
def tupB (x : Str) (ws : List Str) (K : PySem.W.Frag) : Bool := match PySem.W.nsIn K mainGlobals x with
  | some (some (.ref a)) => (match K.lookup a with
    | some o => decide (o.cls = .type "tuple") && (match o.data with
      | .seq its _ => decide (its.size ≤ 1000) && strsB ws its.toList
      | _ => false)
    | none => false)
  | _ => false
theorem tupB_ok {K : PySem.W.Frag} {h : Heap} {mg : Str → Option Value} {x : Str} {ws : List Str} (X : K.In h) (G : h.Ns mainGlobals mg) (c : tupB x ws K = true) : ∃ a, mg x = some (.ref a) ∧ ∀ H, SqT K H a (ws.map V.str) := by
  unfold tupB at c
  cases e : PySem.W.nsIn K mainGlobals x with
  | none => rw [e] at c; cases c
  | some v =>
    rw [e] at c
    cases v with
    | none => cases c
    | some v =>
      cases v with
      | ref a =>
        refine ⟨a, PySem.W.mg_of X G e, fun H => ?_⟩
        cases q : K.lookup a with
        | none => simp only [q] at c; cases c
        | some o =>
          simp only [q] at c
          obtain ⟨c1, c2⟩ := Bool.and_eq_true_iff.mp c
          cases w : o.data with
          | seq its n =>
            simp only [w] at c2
            obtain ⟨c3, c4⟩ := Bool.and_eq_true_iff.mp c2
            exact .inr ⟨o, its, n, q, of_decide_eq_true c1, w, sz_of (by have := of_decide_eq_true c3; omega), strs_vals c4⟩
          | _ => simp only [w] at c2; cases c2
      | _ => cases c
theorem dx_strs {K : PySem.W.Frag} {H : Hp} {a : Addr} {ws : List Str} (h : SqT K H a (ws.map V.str)) : Dx K H (.ref a) (.tuple (ws.map .str)) := by
  refine .tup h ?_
  have all : ∀ ws : List Str, DxAll K H (ws.map V.str) (ws.map .str) := fun ws => by
    induction ws with
    | nil => exact .nil
    | cons w ws ih => exact .cons (.str w) ih
  exact all ws
section
variable {K K' : PySem.W.Frag} {p : Option Addr} {env : List Slot} {te ta tb tl : TE} {O : Outs} {Φ : PyData → Prop}
theorem od_inL {d : PyData} {xs : List PyData} {neg : Bool} (sd : SeqAt.shaped d = true) (sx : SeqAt.shaped (.list xs) = true) (h : Φ (.bool (if neg then !inD d xs else inD d xs))) (hK : K' = K := by with_unfolding_all rfl) : OpD K p (rInD K' neg) d (.list xs) Φ := fun vx vy Hk H Q e po rx ry k => by
  subst hK
  exact ⟨d, xs, dx_dp d (noDict_shaped sd) (dp_mono e d rx), .inl ⟨dx_dp _ (noDict_shaped sx) (dp_mono e _ ry), sx⟩, sd, k _ _ _ _ (Go.refl e po) (.bl _) h⟩
theorem od_inT {d : PyData} {xs : List PyData} {neg : Bool} (sd : SeqAt.shaped d = true) (sx : SeqAt.shaped (.tuple xs) = true) (h : Φ (.bool (if neg then !inD d xs else inD d xs))) (hK : K' = K := by with_unfolding_all rfl) : OpD K p (rInD K' neg) d (.tuple xs) Φ := fun vx vy Hk H Q e po rx ry k => by
  subst hK
  exact ⟨d, xs, dx_dp d (noDict_shaped sd) (dp_mono e d rx), .inr ⟨dx_dp _ (noDict_shaped sx) (dp_mono e _ ry), sx⟩, sd, k _ _ _ _ (Go.refl e po) (.bl _) h⟩
/-- the signs of a text -/
def signs (x : Str) : List PyData := x.cps.toList.map fun c => .str ⟨#[c]⟩
theorem i_str {Ψ : List PyData → Prop} (h : WpE K p tl env fun d => ∃ x, d = .str x ∧ Ψ (signs x)) : WpI K p (iStr tl) env Ψ := fun H0 σ Hk H R e po en k =>
  h H0 σ Hk H _ e po en fun v d Hk1 H1 g1 rd ⟨x, hd, f⟩ => by
    subst hd
    refine ⟨x, dp_str rd, k _ _ Hk1 H1 g1 (fun Hk2 H2 e1 e2 po2 => ⟨fun i hi => ?_, ?_, fun i y H' hi ⟨hH, c, hc, hy⟩ => ?_⟩) f⟩
    · show i < x.cps.size
      unfold signs at hi
      rw [List.length_map] at hi
      simpa using hi
    · show x.cps.size ≤ (signs x).length
      unfold signs
      rw [List.length_map]
      simp
    · subst hH hy
      refine ⟨.str ⟨#[c]⟩, Hk2, ?_, .str _, Go.refl e2 po2⟩
      unfold signs
      rw [List.getElem?_map, Array.getElem?_toList, hc]
      rfl
theorem od_leS {i j : Str} {r : R2} (h : Φ (.bool (!decide (j.cps.toList < i.cps.toList)))) (hr : r = fun x y H Q => ∃ i j, x = .str i ∧ y = .str j ∧ Q (.bl (!decide (j.cps.toList < i.cps.toList))) H := by with_unfolding_all rfl) : OpD K p r (.str i) (.str j) Φ := fun vx vy Hk H Q e po rx ry k => by
  subst hr
  exact ⟨i, j, dp_str rx, dp_str ry, k _ _ _ _ (Go.refl e po) (.bl _) h⟩
theorem od_ixS {z : Str} {i : Int} {c : Nat} (hz : z.length ≤ 100000) (ha : atI z.cps.toList i = some c) (h : Φ (.str ⟨#[c]⟩)) : OpD K p rIxS (.str z) (.int i) Φ := fun vx vy Hk H Q e po rx ry k =>
  ⟨z, i, c, dp_str rx, dp_int ry, sz_of hz, ha, k _ _ _ _ (Go.refl e po) (.str _) h⟩
theorem od_addS {i j : Str} {r : R2} (hz : i.length + j.length ≤ 100000) (h : Φ (.str (i ++ j))) (hr : r = fun x y H Q => ∃ i j, x = .str i ∧ y = .str j ∧ i.length + j.length ≤ sizeLine ∧ Q (.str (i ++ j)) H := by with_unfolding_all rfl) : OpD K p r (.str i) (.str j) Φ := fun vx vy Hk H Q e po rx ry k => by
  subst hr
  exact ⟨i, j, dp_str rx, dp_str ry, sz_of hz, k _ _ _ _ (Go.refl e po) (.str _) h⟩
theorem cb_strI {i : Int} {r : List V → Hp → VK → Prop} (hi : i.natAbs.log2 < 1920) (h : Φ (.str (toString i))) (hr : r = fun xs H Q => ∃ i, xs = [V.int i] ∧ i.natAbs.log2 < 1920 ∧ Q (.str (toString i)) H := by with_unfolding_all rfl) : CbD K p r [.int i] Φ := fun vs Hk H Q e po rx k => by
  subst hr
  cases rx with
  | cons rx rr =>
    cases rr
    rw [dp_int rx]
    exact ⟨i, rfl, hi, k _ _ _ _ (Go.refl e po) (.str _) h⟩
theorem cb_lenS {x : Str} {r : List V → Hp → VK → Prop} (hz : x.length ≤ 100000) (h : Φ (.int x.length)) (hr : r = fun xs H Q => ∃ z, xs = [V.str z] ∧ z.length ≤ sizeLine ∧ Q (.int z.length) H := by with_unfolding_all rfl) : CbD K p r [.str x] Φ := fun vs Hk H Q e po rx k => by
  subst hr
  cases rx with
  | cons rx rr =>
    cases rr
    rw [dp_str rx]
    exact ⟨x, rfl, sz_of hz, k _ _ _ _ (Go.refl e po) (.int _) h⟩
theorem od_neB {i j : Bool} (h : Φ (.bool (!decide (i = j)))) : OpD K p rNe (.bool i) (.bool j) Φ := fun vx vy Hk H Q e po rx ry k => by
  rw [dp_bl rx, dp_bl ry]
  have := k _ _ _ _ (Go.refl e po) (.bl _) h
  have e : decide (V.bl i = V.bl j) = decide (i = j) := by cases i <;> cases j <;> rfl
  exact ⟨by cases i <;> cases j <;> rfl, by rw [e]; exact this⟩
/-! ### truths -/
def truD : PyData → Option Bool
  | .none => some false
  | .bool b => some b
  | .int i => some (i != 0)
  | .list xs => some !xs.isEmpty
  | .tuple xs => some !xs.isEmpty
  | _ => none
theorem t_tru {Ψ : Bool → Prop} {tt : TT} (h : WpE K p ta env fun d => ∃ k, truD d = some k ∧ Ψ k) (ht : tt = fun σ H Q => ta σ H fun x H' => ∃ k, TruV K x H' k ∧ Q k H' := by with_unfolding_all rfl) : WpT K p tt env Ψ := by
  subst ht
  refine fun H0 σ Hk H Q e po en k => h H0 σ Hk H _ e po en fun v d Hk1 H1 g1 rd ⟨b, hb, f⟩ => ⟨b, ?_, k b Hk1 H1 g1 f⟩
  have r := dp_mono g1.kr d rd
  cases d with
  | none => cases hb; cases r; rfl
  | bool c => cases hb; cases r; rfl
  | int i => cases hb; cases r; rfl
  | list xs =>
    cases hb
    cases r with
    | lst hq ra => exact .inl ⟨_, hq, by cases ra <;> rfl⟩
  | tuple xs =>
    cases hb
    cases r with
    | tup hq ra => exact .inr (.inl ⟨_, hq, by cases ra <;> rfl⟩)
  | str _ => cases hb
  | dict _ => cases hb
end
end FwWd
namespace FwWd
open PySem PySem.Spec PyProof.Rows L2 Evl Fw FwD
section
variable {K K' : PySem.W.Frag} {p : Option Addr} {env : List Slot} {te ta tb tl : TE} {O : Outs}
theorem en_calm {p : Option Addr} {H0 Hk H Hk1 H1 : Hp} {σ : List (Option V)} {env : List Slot} (h : En K p H0 Hk H σ env) (no : ∀ (m : Nat) (ds : List PyData), env[m]? ≠ some (.own ds)) (nm : ∀ (m : Nat) (S : Mov), env[m]? ≠ some (.mov S)) (x : Ex Hk Hk1) : En K p H0 Hk1 H1 σ env := by
  refine ⟨h.len, fun i sl e => ?_, fun i j l ds es e => absurd e (no i ds)⟩
  obtain ⟨ov, e1, r⟩ := h.slot i sl e
  refine ⟨ov, e1, ?_⟩
  cases sl with
  | no => exact True.intro
  | pot => exact r
  | dat d => obtain ⟨v, e2, r⟩ := r; exact ⟨v, e2, dp_mono x d r⟩
  | own ds => exact absurd e (no i ds)
  | ext S => obtain ⟨v, e2, r⟩ := r; exact ⟨v, e2, S.mono _ _ v x r⟩
  | mov S => exact absurd e (nm i S)
def Calm (env : List Slot) : Prop := (∀ (m : Nat) (ds : List PyData), env[m]? ≠ some (.own ds)) ∧ ∀ (m : Nat) (S : Mov), env[m]? ≠ some (.mov S)
/-- a comprehension of two fors: a new list -/
theorem f_lc2 {wi wi1 : TI} {g g1 : TG} {tt tt1 : TT} {vs vs1 js js1 : List Nat} {Φ : List PyData → Prop} (hs : ∀ j ∈ js, j ∈ vs) (hs1 : ∀ j ∈ js1, j ∈ vs1) (h : WpI K p wi env fun xs => xs.length ≤ 100 ∧ ∃ Wd : Nat → List PyData → Prop, Wd 0 [] ∧
    (∀ (i : Nat) (x : PyData) (acc : List PyData), xs[i]? = some x → Wd i acc → acc.length ≤ 100 * i → WpG K p js g x (wipeE env vs) fun env2 => Calm env2 ∧ WpT K p tt env2 fun b => if b = true then
      WpI K p wi1 env2 fun ys => ys.length ≤ 100 ∧ ∃ We : Nat → List PyData → Prop, We 0 acc ∧
        (∀ (j : Nat) (y : PyData) (acc : List PyData), ys[j]? = some y → We j acc → WpG K p js1 g1 y (wipeE env2 vs1) fun env3 => WpT K p tt1 env3 fun b => if b = true then WpE K p te env3 (fun z => We (j + 1) (acc ++ [z])) else We (j + 1) acc) ∧
        ∀ acc, We ys.length acc → Wd (i + 1) acc
      else Wd (i + 1) acc) ∧
    ∀ acc, Wd xs.length acc → Φ acc) : WpF K p (tLc2 wi g tt wi1 g1 tt1 te vs vs1) env Φ := fun H0 σ Hk H Q e po en k => by
  refine h H0 σ Hk H _ e po en fun J xs Hk1 H1 g1' it ⟨hz, Wd, i0, step, last⟩ D hD => ?_
  have pD : p ≠ some D := pot_ne g1'.po hD
  refine ⟨fun i m H' => m = xs.length - i ∧ i ≤ xs.length ∧ ∃ Hk' ws acc, Go p Hk1 H1 Hk' H' ∧ Hk' D = none ∧ H' D = some (.lst ws) ∧ DxAll K Hk' ws acc ∧ acc.length ≤ 100 * i ∧ Wd i acc, ⟨xs.length, by omega, by omega, Hk1, [], [], (Go.refl g1'.kr g1'.po).mut hD pD (fresh_back g1'.kr hD), fresh_back g1'.kr hD, upd_same, .nil, Nat.zero_le _, i0⟩, ?_⟩
  rintro i m H' ⟨rfl, hi, Hk', ws, acc, go, kD, hw, r, hlen, inv⟩
  obtain ⟨o1, o2, o3⟩ := it Hk' H' go.kk go.kr go.po
  by_cases hlt : i < xs.length
  · refine .inr ⟨o1 i hlt, fun H'' => i + 1 ≤ xs.length ∧ ∃ Hk' ws acc, Go p Hk1 H1 Hk' H'' ∧ Hk' D = none ∧ H'' D = some (.lst ws) ∧ DxAll K Hk' ws acc ∧ acc.length ≤ 100 * (i + 1) ∧ Wd (i + 1) acc, fun H'' q => ⟨xs.length - (i + 1), by omega, rfl, q⟩, fun x H'' y => ?_⟩
    obtain ⟨d, Hk2, hd, rd, g2⟩ := o3 i x H'' hlt y
    have en2 : En K p H0 Hk2 H'' (L2.wipe σ vs) (wipeE env vs) := (((en.go g1').go go).go g2).wipe vs
    refine step i d acc hd inv hlen H0 _ Hk2 H'' x _ g2.kr g2.po en2 rd fun σ2 env2 en3 same ⟨calm, f3⟩ => ⟨wipe_eq (by rw [same.1, wipe_length]) same.2 hs, ?_⟩
    refine f3 H0 σ2 Hk2 H'' _ g2.kr g2.po en3 fun b Hk4 H4 g4 f4 => ?_
    have gg := (go.trans g2).trans g4
    have k4 : Hk4 D = none := g4.nk D (g2.live (by rw [hw]; exact nofun)) (g2.nk D (by rw [hw]; exact nofun) kD)
    have h4 : H4 D = some (.lst ws) := g4.rr D _ pD (g2.rr D _ pD hw)
    have r4 := dpAll_mono g4.kk acc (dpAll_mono g2.kk acc r)
    cases b with
    | false => exact ⟨by omega, Hk4, ws, acc, gg, k4, h4, r4, by omega, f4⟩
    | true =>
      have en4 := en3.go g4
      refine (show WpI K p wi1 env2 _ from f4) H0 σ2 Hk4 H4 _ g4.kr g4.po en4 fun J1 ys Hk5 H5 g5 it1 ⟨hz1, We, j0, step1, last1⟩ => ?_
      have k5 : Hk5 D = none := g5.nk D (by rw [h4]; exact nofun) k4
      have h5 : H5 D = some (.lst ws) := g5.rr D _ pD h4
      have r5 := dpAll_mono g5.kk acc r4
      have en5 := en4.go g5
      have gg5 := gg.trans g5
      refine ⟨fun j m H' => m = ys.length - j ∧ j ≤ ys.length ∧ ∃ Hk' ws acc, Go p Hk1 H1 Hk' H' ∧ Ex Hk5 Hk' ∧ Hk' D = none ∧ H' D = some (.lst ws) ∧ DxAll K Hk' ws acc ∧ acc.length ≤ 100 * i + j ∧ We j acc, ⟨ys.length, by omega, by omega, Hk5, ws, acc, gg5, Ex.refl _, k5, h5, r5, by omega, j0⟩, ?_⟩
      rintro j m H6 ⟨rfl, hj, Hk6, ws6, acc6, go6, x6, kD6, hw6, r6, hlen6, inv6⟩
      obtain ⟨p1, p2, p3⟩ := it1 Hk6 H6 x6 go6.kr go6.po
      by_cases hlt1 : j < ys.length
      · refine .inr ⟨p1 j hlt1, fun H'' => j + 1 ≤ ys.length ∧ ∃ Hk' ws acc, Go p Hk1 H1 Hk' H'' ∧ Ex Hk5 Hk' ∧ Hk' D = none ∧ H'' D = some (.lst ws) ∧ DxAll K Hk' ws acc ∧ acc.length ≤ 100 * i + (j + 1) ∧ We (j + 1) acc, fun H'' q => ⟨ys.length - (j + 1), by omega, rfl, q⟩, fun x7 H7 y7 => ?_⟩
        obtain ⟨d7, Hk7, hd7, rd7, g7⟩ := p3 j x7 H7 hlt1 y7
        have en7 : En K p H0 Hk7 H7 (L2.wipe σ2 vs1) (wipeE env2 vs1) := ((en_calm (H1 := H6) en5 calm.1 calm.2 x6).go g7).wipe vs1
        refine step1 j d7 acc6 hd7 inv6 H0 _ Hk7 H7 x7 _ g7.kr g7.po en7 rd7 fun σ3 env3 en8 same8 f8 => ⟨wipe_eq (by rw [same8.1, wipe_length]) same8.2 hs1, ?_⟩
        refine f8 H0 σ3 Hk7 H7 _ g7.kr g7.po en8 fun b Hk9 H9 g9 f9 => ?_
        have gg9 := (go6.trans g7).trans g9
        have k9 : Hk9 D = none := g9.nk D (g7.live (by rw [hw6]; exact nofun)) (g7.nk D (by rw [hw6]; exact nofun) kD6)
        have h9 : H9 D = some (.lst ws6) := g9.rr D _ pD (g7.rr D _ pD hw6)
        have r9 := dpAll_mono g9.kk acc6 (dpAll_mono g7.kk acc6 r6)
        cases b with
        | false => exact ⟨by omega, Hk9, ws6, acc6, gg9, (x6.trans g7.kk).trans g9.kk, k9, h9, r9, by omega, f9⟩
        | true =>
          refine (show WpE K p te env3 _ from f9) H0 σ3 Hk9 H9 _ g9.kr g9.po (en8.go g9) fun v d2 Hk10 H10 g10 r10 f10 => ?_
          have k10 : Hk10 D = none := g10.nk D (by rw [h9]; exact nofun) k9
          refine ⟨ws6, g10.rr D _ pD h9, sz_lt (by rw [dpAll_len r6]; omega), by omega, Hk10, ws6 ++ [v], acc6 ++ [d2], (gg9.trans g10).mut hD pD k10, ((x6.trans g7.kk).trans g9.kk).trans g10.kk, k10, upd_same, dpAll_app (dpAll_mono g10.kk acc6 r9) (.cons r10 .nil), by rw [List.length_append]; simp; omega, f10⟩
      · have hj2 : j = ys.length := by omega
        subst hj2
        exact .inl ⟨p2, by omega, Hk6, ws6, acc6, go6, kD6, hw6, r6, by omega, last1 acc6 inv6⟩
  · have hi2 : i = xs.length := by omega
    subst hi2
    have h0 : H D = none := by
      cases z : H D with
      | none => rfl
      | some o => exact absurd hD (g1'.live (by rw [z]; exact nofun))
    exact .inl ⟨o2, k D ws acc Hk' _ (g1'.trans go) h0 kD hw r (last acc inv)⟩
end
end FwWd
/-! sorted of a list of tuples, the first of which is empty -/
namespace FwSE
open PySem PySem.Spec PyProof.Rows PySem.W PySem.SeqAt PySem.Calls
/-- the call of tuple's own __lt__, as sorting makes it -/
theorem call_tuple_lt {A : Around} {s : Shared} {prog : Program} {w : World} {E : Value → Shared → Prop} {Q : Value → Shared → Prop} {l b : Addr} {items items2 : Array Value} {e r : Nat → Bool} (hl : s.heap.IsTuple l items) (hb : s.heap.IsTuple b items2)
    (he : ∀ j (h1 : j < items.size) (h2 : j < items2.size), EqAt A.in1 s items[j] items2[j] (e j)) (hr : ∀ j (h1 : j < items.size) (h2 : j < items2.size), e j = false → RcLt A.in1 s items[j] items2[j] (r j))
    (h : Q (.bool (firstLt e r (decide (items.size < items2.size)) (List.range (min items.size items2.size)))) s) : wpAny (model prog w) A (call (.builtin "tuple.__lt__") [.ref l, .ref b]) Q E s := by
  obtain ⟨⟨cls, dd, data, sl⟩, ho, hc, n, hd⟩ := id hl
  obtain ⟨⟨cls2, dd2, data2, sl2⟩, ho2, hc2, n2, hd2⟩ := id hb
  simp only at hc hd hc2 hd2
  subst hc hd hc2 hd2
  exact call_meets F.slot_tuple_lt ⟨_, ho, rfl⟩ F.entry_tuple_lt (F.args_tuple_lt_2 _ _) (tuple_ltAt l b items items2 n n2 dd dd2 sl sl2 e r) ⟨ho, ho2, he, hr, h⟩
theorem oneLt_tuple {prog : Program} {w : World} {A : Around} {E : Value → Shared → Prop} {s : Shared} {xs ys : List PyData} {a b : Value} {as bs : List Addr} {Q : Bool → Shared → Prop} (ra : Reads s.heap a (.tuple xs) as) (rb : Reads s.heap b (.tuple ys) bs) (h : alike (.tuple xs) (.tuple ys) = true)
    (hu : A.units + min (PyData.tuple xs).depth (PyData.tuple ys).depth < cLine) (hq : Q (dataLt (.tuple xs) (.tuple ys)) s) : wpAny (model prog w) A (oneLt' true a b) Q E s := by
  have hal : alikeAll xs ys = true := by simpa [alike] using h
  cases ra with
  | @tuple l o vs n _ as₁ h1 h2 h3 h4 =>
    cases rb with
    | @tuple l' o' vs' n' _ bs₁ k1 k2 k3 k4 =>
      have n1 : vs.size = xs.length := by simpa using ReadsAll.length _ _ _ h4
      have n2 : vs'.size = ys.length := by simpa using ReadsAll.length _ _ _ k4
      rw [dataLt_tuple, ← firstLt_toks xs ys hal, ← n1, ← n2] at hq
      rw [oneLt'_eq]
      simp only [if_true]
      refine wpAny_bind (wpAny_cRoomFor (room_here hu) ?_)
      refine wpAny_bind (wpAny_callSpecialIfBound?_slot (T := "tuple") ⟨_, h1, h2⟩ F.slot_tuple_lt (call_tuple_lt (e := pairEq xs ys) (r := fun j => dataLt (xs.getD j .none) (ys.getD j .none)) ⟨_, h1, h2, _, h3⟩ ⟨_, k1, k2, _, k3⟩ (fun j j1 j2 => ?_) (fun j j1 j2 hj => ?_) ?_))
      · have := eqAt_alikeAll xs ys A.in1 s vs.toList vs'.toList _ _ h4 k4 hal (room_in hu) j (by simpa using j1) (by simpa using j2)
        simpa using this
      · have := rcLt_alikeAll xs ys A.in1 s vs.toList vs'.toList _ _ h4 k4 hal (room_in hu) j (by simpa using j1) (by simpa using j2) hj
        simpa using this
      · exact wpAny_truthy_bool hq
/-- a tuple's first item, if there is one -/
theorem first_reads {M : Model} {A : Around} {E : Value → Shared → Prop} {s : Shared} {v : Value} {xs : List PyData} {as : List Addr} (r : Reads s.heap v (.tuple xs) as) {Q : Option Value → Shared → Prop} (h1 : xs = [] → Q none s) (h2 : xs ≠ [] → ∀ f, Q (some f) s) :
    wpAny M A (firstOfTuple' v) Q E s := by
  cases r with
  | @tuple l o vs n _ as₁ k1 k2 k3 k4 =>
    have n1 : vs.size = xs.length := by simpa using ReadsAll.length _ _ _ k4
    rw [kas_first_eq]
    refine wpAny_bind (((show Looks M s.heap (typeOf (Value.ref l)) (Value.type "tuple") from k2 ▸ (Looks.ld k1).andThen .now)).here ?_)
    rw [if_neg (by decide)]
    unfold Builtin.List.listItems
    refine wpAny_bind (wpAny_bind (wpAny_seqItems k1 k3 (wpAny_pure (wpAny_pure ?_))))
    cases q : vs[0]? with
    | none =>
      refine h1 ?_
      have := Array.getElem?_eq_none_iff.mp q
      rw [n1] at this
      exact List.length_eq_zero_iff.mp (by omega)
    | some f =>
      refine h2 (fun e => ?_) f
      have := (Array.getElem?_eq_some_iff.mp q).1
      rw [n1, e] at this
      exact absurd this (by simp)
/-- what stands at the first place of the list is empty -/
theorem kind_empty {M : Model} {A : Around} {E : Value → Shared → Prop} {s : Shared} {v0 : Value} {vs : List Value} {ds : List PyData} {as0 : List Addr} {Q : SortKind → Shared → Prop} (h0 : Reads s.heap v0 (.tuple []) as0) (e : EachIs (fun v d => (∃ as, Reads s.heap v d as) ∧ ∃ xs, d = .tuple xs) vs ds) (h : Q oneType' s) :
    wpAny M A (keyKind' (v0 :: vs).toArray) Q E s := by
  rw [keyKind'_eq, List.mapM_toArray, map_eq_pure_bind]
  refine wpAny_bind (wpAny_bind ?_)
  rw [List.mapM_cons]
  refine wpAny_bind (first_reads h0 (fun _ => ?_) fun z => absurd rfl z)
  have all : ∀ {vs : List Value} {ds : List PyData}, EachIs (fun v d => (∃ as, Reads s.heap v d as) ∧ ∃ xs, d = .tuple xs) vs ds → ∀ {Q : List (Option Value) → Shared → Prop}, (∀ fs, Q fs s) → wpAny M A (vs.mapM firstOfTuple') Q E s := fun {vs ds} e => by
    induction e with
    | nil => intro Q hq; rw [List.mapM_nil]; exact wpAny_pure (hq [])
    | cons hd t ih =>
      intro Q hq
      obtain ⟨⟨as, r⟩, xs, rfl⟩ := hd
      rw [List.mapM_cons]
      exact wpAny_bind (first_reads r (fun _ => wpAny_bind (ih fun fs => wpAny_pure (hq _))) fun _ f => wpAny_bind (ih fun fs => wpAny_pure (hq _)))
  refine wpAny_bind (all e fun fs => wpAny_pure (wpAny_pure ?_))
  rw [if_neg (by simp), if_neg (by simp)]
  rw [oneTypeOnly'_eq, List.mapM_toArray, map_eq_pure_bind]
  have ty : ∀ v ∈ v0 :: vs, Looks M s.heap (typeOf v) (.type "tuple") := fun v hv => by
    rcases List.mem_cons.mp hv with rfl | hv
    · exact looks_reads h0
    · obtain ⟨d, _, ⟨as, r⟩, xs, rfl⟩ := e.left v hv
      exact looks_reads r
  refine wpAny_bind (wpAny_bind (wpAny_bind (kas_mapM (r := Value.type "tuple") _ (fun v hv Q' hq => (ty v hv).here hq) (wpAny_pure ?_))))
  have hall : ((List.map (fun _ => Value.type "tuple") (v0 :: vs)).toArray.all fun x => x == Value.type "tuple") = true := by
    simp only [List.all_toArray, List.all_map, List.all_eq_true]
    intro _ _
    rfl
  have h0' : (List.map (fun _ => Value.type "tuple") (v0 :: vs)).toArray[0]? = some (Value.type "tuple") := by simp
  rw [h0']
  simp only [hall, if_true]
  exact wpAny_pure (wpAny_pure h)
theorem sortsE {prog : Program} {w : World} {A : Around} {s : Shared} {vs : List Value} {ds : List PyData} (e : EachIs (fun v d => ∃ as, Reads s.heap v d as) vs (.tuple [] :: ds)) (hal : AllAlike (.tuple [] :: ds)) (ht : ∀ d ∈ ds, ∃ xs, d = .tuple xs) (hu : ∀ d, d ∈ PyData.tuple [] :: ds → A.units + d.depth < cLine) : SortsAt prog w A s (dataKind s.heap (.tuple [] :: ds)) vs := by
  have room : ∀ {d d' : PyData}, d ∈ PyData.tuple [] :: ds → A.units + min d.depth d'.depth < cLine := fun {d d'} hd => Nat.lt_of_le_of_lt (Nat.add_le_add_left (Nat.min_le_left _ _) _) (hu d hd)
  have tup : ∀ d ∈ PyData.tuple [] :: ds, ∃ xs, d = .tuple xs := fun d hd => by
    rcases List.mem_cons.mp hd with z | z
    · exact ⟨[], z⟩
    · exact ht d z
  refine ⟨fun v hv => ?_, ?_⟩
  · obtain ⟨d, hd, as, r⟩ := e.left v hv
    exact ⟨_, dataKind_some hal hd r⟩
  · refine ⟨oneType', ?_, fun h2 E Q hq => ?_⟩
    · intro E x y a b Q ha hb hq
      obtain ⟨d, as, hd, ra, rfl⟩ := dataKind_inv ha
      obtain ⟨d', as', hd', rb, rfl⟩ := dataKind_inv hb
      obtain ⟨xs, rfl⟩ := tup d hd
      obtain ⟨ys, rfl⟩ := tup d' hd'
      rw [keyLt'_oneType]
      exact oneLt_tuple ra rb (hal _ hd _ hd') (room hd) hq
    · cases e with
      | cons h t =>
        obtain ⟨as, r⟩ := h
        refine kind_empty r (((each_mem t).mono fun v d ⟨a, b⟩ => ⟨a, ht d b⟩)) hq
/-- sorted(xs), the first item an empty tuple, the others tuples -/
theorem sorted_dataE {prog : Program} {w : World} {A : Around} {E : Value → Shared → Prop} {s : Shared} {vs : List Value} {ds : List PyData} {R : Value → PyData → Prop} {l : Addr} {Q : Value → Shared → Prop} (hl : s.heap.IsList l vs.toArray) (e : EachIs R vs (.tuple [] :: ds)) (er : EachIs (fun v b => ∃ as, Reads s.heap v b as) vs (.tuple [] :: ds)) (hal : AllAlike (.tuple [] :: ds)) (ht : ∀ d ∈ ds, ∃ xs, d = .tuple xs) (hL : (PyData.tuple [] :: ds).length ≤ sizeLine)
    (hu : ∀ b, b ∈ PyData.tuple [] :: ds → A.units + 2 + b.depth < cLine) (h : ∀ out, out.length = (PyData.tuple [] :: ds).length → EachIs R out ((PyData.tuple [] :: ds).mergeSort (dataLe false fun d => d)) → Q (.ref (s.heap.objs.size + 1)) { s with heap := sortedAll s.heap vs (List.toArray out) }) :
    wpAny (model prog w) A (call (.builtin "sorted") [.ref l]) Q E s := by
  have er' : EachIs (fun v b => ∃ as, Reads (sortingHeap (copyHeap s.heap vs) (s.heap.objs.size + 1) vs) v b as) vs (.tuple [] :: ds) := er.mono fun _ _ ⟨as, r⟩ => ⟨as, PyProof.Rows.Reads.keeps (fun _ _ => sorting_copy_old) r⟩
  have e0 : (PyData.tuple [] :: ds).map (fun d : PyData => d) = .tuple [] :: ds := List.map_id' _
  have sd := sortVals_data (enc := fun d : PyData => d) false e er' (by rw [e0]; exact hal)
  rw [e0] at sd
  exact sorted_vals hl (sortsE (s := { s with heap := sortingHeap (copyHeap s.heap vs) (s.heap.objs.size + 1) vs }) er' hal ht hu) (by rw [e.length]; exact hL)
    (h _ (by rw [sortVals_length false rfl]; exact e.length) sd)
end FwSE

namespace FwSE
open PySem PySem.Spec PyProof.Rows L2 FwS
def rSortE (K : PySem.W.Frag) : List V → Hp → VK → Prop := fun vs H Q => ∃ (a : Addr) (xs : List V) (ds : List PyData) (R : V → PyData → Prop), vs = [.ref a] ∧ SqL K H a xs ∧ Paired R xs (.tuple [] :: ds) ∧ (∀ x d, R x d → Dp K H x d) ∧ PySem.W.AllAlike (.tuple [] :: ds) ∧ (∀ d ∈ ds, ∃ ys, d = .tuple ys) ∧ (∀ d ∈ PyData.tuple [] :: ds, d.depth ≤ 60) ∧
  ∀ ys p, Paired R ys (sortD (.tuple [] :: ds)) → H p = none → Q (.ref p) (upd H p (.lst ys))
theorem cr_sortedE {X : Cx} (hu : X.A.units + 64 < cLine) : CallR X (.builtin "sorted") (rSortE X.K) := fun pins s σ H vs us Q I r h => by
  obtain ⟨a, xs, ds, R, rfl, hs, hd, hR, al, so, dp, q⟩ := h
  obtain ⟨u, rfl, ru⟩ := vals1 r
  cases ru
  obtain ⟨its, rv, hl, hz⟩ := I.list hs
  have lenD : xs.length = (PyData.tuple [] :: ds).length := lenP hd
  have bo := both_of rv hd
  have rd : PySem.W.EachIs (fun v d => ∃ as, Reads s.heap v d as) its (.tuple [] :: ds) := bo.mono fun v d ⟨x, rx, hx⟩ => Dp.reads I d x v (hR x d hx) rx
  refine sorted_dataE hl.isList bo rd al so (by rw [← lenD]; exact hz) (fun d m => ?_) fun out ho hb => ?_
  · have := dp d m
    show X.A.units + 2 + d.depth < cLine
    omega
  · obtain ⟨ys, ry, hy⟩ := of_both hb
    obtain ⟨n, hn⟩ := sortedAll_at s.heap its out.toArray
    have hd0 : H (s.heap.objs.size + 1) = none := I.hok.fresh (Nat.le_succ _)
    refine ⟨.ref (s.heap.objs.size + 1), upd H (s.heap.objs.size + 1) (.lst ys), I.laid (t' := s.toks) (fun b o e => sortedAll_old e) (Nat.le_succ _) ⟨?_, out, n, ry, hn⟩, rfl, q ys _ hy hd0⟩
    rw [ry.length, ho, ← lenD]
    exact hz
end FwSE
/-! len(set(a tuple of ints)), min of a list of rows, list(range), sorted from an empty tuple on -/
namespace FwSI
open PySem PySem.Spec PyProof.Rows L2
section
variable {P : Program} {w : World} {A : Around} {E : Value → Shared → Prop} {s : Shared}
theorem setI_of_tuple {t : Addr} {its : Array Value} {ns : List Int} {Q : Value → Shared → Prop} (calm : A.handled = none) (ht : s.heap.IsTuple t its) (all : IntsAre its.toList ns) (few : its.size + 1 < scanBound)
    (end_ : ∀ (g : Heap) (tk : Nat), g.SetOf (intKind P w) s.heap.objs.size (fun z => (firstMet (fun i => ns.getD i 0) its.size).any (· == z)) (firstMet (fun i => ns.getD i 0) its.size).length → (∀ b o, s.heap.get? b = some o → g.get? b = some o) → Q (.ref s.heap.objs.size) { s with heap := g, toks := tk }) : wpAny (model P w) A (call (.type "set") [.ref t]) Q E s := by
  obtain ⟨c, tl, mro_⟩ := F.called_set.mro
  have made_ := F.called_set.made
  have sub_ := F.called_set.sub
  refine wpAny_call (codeAny_of_tree ?_)
  refine (show wpAny _ _ (callAny (.type "set") _) _ _ _ from wpAny_pure ⟨Code.quiet_builtin _ (by decide +kernel), codeAny_builtin F.entry_type_call ?_⟩)
  rw [Around.under_plain (weight_type_call_type "set" [.ref t] []) rfl]
  have nt_ := F.called_set.notType
  have cc_ := F.called_set.canCreate
  have tc_ := F.typeCall_set_1 (.ref t)
  repeat (any_goals (first | wp_step | assumption))
  refine codeAny_mono (code_set_led1 (.ref t) (E := E) (Q₁ := fun ob u => ob = .ref s.heap.objs.size ∧ u = { s with heap := s.heap.push (FwB.eset w) }) ⟨rfl, rfl⟩) fun r u hr => ?_
  match r, hr with
  | .error e, hr => exact hr
  | .ok .next, hr => exact hr.elim
  | .ok .brk, hr => exact hr.elim
  | .ok .cont, hr => exact hr.elim
  | .ok (.ret ob), hr =>
    obtain ⟨rfl, rfl⟩ := hr
    have here : (s.heap.push (FwB.eset w)).get? s.heap.objs.size = some (FwB.eset w) := Heap.get?_push_size _ rfl
    have typ : Shared.TypeIs { s with heap := s.heap.push (FwB.eset w) } (.ref s.heap.objs.size) "set" := ⟨_, here, rfl⟩
    have il_ := F.called_set.init.lookup
    have ib_ := F.called_set.init.bind (.ref s.heap.objs.size)
    repeat (any_goals (first | wp_step | assumption))
    refine codeAny_mono (codeAny_call_builtin (R := wants (fun r u => r = .none ∧ ∃ g tk, u = { s with heap := g, toks := tk } ∧ g.SetOf (intKind P w) s.heap.objs.size (fun z => (firstMet (fun i => ns.getD i 0) its.size).any (· == z)) (firstMet (fun i => ns.getD i 0) its.size).length ∧ (∀ b o, s.heap.get? b = some o → g.get? b = some o)) E) F.called_set.init.plain F.entry_set_init (check_set_init_1 typ ?_)) fun r2 u2 hr2 => ?_
    · obtain ⟨⟨kc, kd, kdat, ksl⟩, ot, oc, nt, od⟩ := ht
      simp only at oc od
      subst oc od
      have ot2 : (s.heap.push (FwB.eset w)).get? t = some { cls := .type "tuple", dict := kd, data := .seq its nt, slots := ksl } := Heap.get?_push_of_some _ ot
      have ss_ := F.sub_tuple_set
      have sf_ := F.sub_tuple_frozenset
      have nd_ : (Value.type "tuple" == Value.type "dict") = false := by decide
      have ht2 : (s.heap.push (FwB.eset w)).IsTuple t its := ⟨_, ot2, rfl, nt, rfl⟩
      unfold Builtin.«set.__init__» noKeywords Builtin.Frozenset.updateFrom
      generalize kept : pyIter = PI
      wp_walk
      subst kept
      refine wpAny_pyIter_tuple ht2 (wpAny_bind (wpAny_runValue ?_))
      have lt_ : t < s.heap.objs.size := Heap.lt_size ot
      have size_ : (s.heap.push (FwB.eset w)).objs.size = s.heap.objs.size + 1 := Heap.size_push ..
      have apart_ : t ≠ (s.heap.push (FwB.eset w)).objs.size := by rw [size_]; exact fun z => absurd (z ▸ Nat.lt_succ_of_lt lt_ : _ < _) (Nat.lt_irrefl _)
      have off_ : s.heap.objs.size ∉ [(s.heap.push (FwB.eset w)).objs.size, t] := by
        rw [size_]
        intro z
        rcases List.mem_cons.mp z with z | z
        · exact absurd z (Nat.ne_of_lt (Nat.lt_succ_self _))
        · exact absurd (List.mem_singleton.mp z) (Nat.ne_of_gt lt_)
      have each : ∀ (i : Nat) (v : Value), its[i]? = some v → ∃ tk, v = .int ((fun i => ns.getD i 0) i) tk := fun i v hv => IntsAre.int_at all i v (by rw [Array.getElem?_toList]; exact hv)
      have hw : A.in1.in1.in1.handled = none := by simp [calm]
      refine codeAny_set_update_loopS ((Walks.tuple hw _ t apart_ its).toS) s.heap.objs.size off_ (fun i => ns.getD i 0) each few (its.size - 0) 0 _ (by omega) (Nat.zero_le _) ⟨⟨_, Heap.get?_push_size _ rfl, rfl, rfl⟩, ht2.push _⟩ ?start ?last
      case start =>
        have got : ((s.heap.push (FwB.eset w)).push { cls := .type "tuple_iterator", data := .fields #[.ref t, .int 0 0] }).get? s.heap.objs.size = some (FwB.eset w) := Heap.get?_push_of_some _ here
        exact SetOf_congr ((setObjOf_fresh (knd := intKind P w) _).setOf got (by unfold scanBound; omega)) (fun _ => rfl) rfl
      case last =>
        rintro ⟨g, gs, dr, tk, os⟩ mv so
        have e1 : gs = s.gens := mv.gens
        have e2 : dr = s.drawn := mv.drawn
        have e3 : os = s.os := mv.os
        subst e1 e2 e3
        refine (show wpAny _ _ _ _ _ _ from wpAny_pure ?_)
        refine (show wpAny _ _ (ret Value.none) _ _ _ from wpAny_pure ⟨rfl, g, tk, rfl, so, fun b o e => ?_⟩)
        have lb := Heap.lt_size e
        refine mv.heap b o (fun z => ?_) (Heap.get?_push_of_some _ (Heap.get?_push_of_some _ e))
        rw [size_] at z
        simp only [List.mem_cons, List.mem_singleton, List.not_mem_nil, or_false] at z
        rcases z with z | z
        · exact Nat.ne_of_lt lb z
        · exact Nat.ne_of_lt (Nat.lt_succ_of_lt lb) z
    · match r2, hr2 with
      | .error e, hr2 => exact hr2
      | .ok .next, hr2 => exact hr2.elim
      | .ok .brk, hr2 => exact hr2.elim
      | .ok .cont, hr2 => exact hr2.elim
      | .ok (.ret r), hr2 =>
        obtain ⟨rfl, g, tk, rfl, so, keep⟩ := hr2
        repeat (any_goals (first | wp_step | assumption))
        exact end_ g tk so keep
end
/-- len(set(t)), t a tuple of unlike ints -/
def tLenSetT (K : PySem.W.Frag) (ta : TE) : TE := fun σ H Q => ta σ H fun x H1 => ∃ (l : Addr) (ns : List Int), x = .ref l ∧ SqT K H1 l (ns.map V.int) ∧ ns.Nodup ∧ ns.length ≤ 4000 ∧ Q (.int (ns.length : Nat)) H1
theorem pe_lenSetT {X : Cx} {a : Expr} {ta : TE} {p p2 q pos : Pos} (hc : X.calm = true) (hg : Gl X "len") (hm : X.mg "len" = none) (hg2 : Gl X "set") (hm2 : X.mg "set" = none) (ha : PE X a ta)
    (na : starEach [a] X.env = (false, eval a X.env) :: starEach [] X.env := by rfl) : PE X (.Call (.Name "len" p) [.Call (.Name "set" p2) [a] [] q] [] pos) (tLenSetT X.K ta) := by
  refine ⟨fun pins s σ H Q I h => ?_⟩
  refine Call_ (ld_blt I hg hm boot_len (callWith_builtin1 (args_cons ?_ rfl) rfl rfl))
  refine Call_ (ld_blt I hg2 hm2 boot_set (callWith_type1 (args_cons (thn (ha.run pins s σ H _ I h) fun v s1 ⟨x, H1, I1, r1, q1⟩ => args_nil ?_) na) na rfl))
  obtain ⟨l, ns, rfl, hq, hnd, hl, q1⟩ := q1
  cases r1
  obtain ⟨its, r, pl, hz⟩ := I1.tuple hq
  have many : its.toArray.size = ns.length := by rw [List.size_toArray, ← r.length, List.length_map]
  refine setI_of_tuple (I1.ok.hd hc) (show s1.heap.IsTuple l its.toArray from pl) (ns := ns) (by simpa using RZ.intsAre_vals r) (by rw [many]; unfold scanBound; omega) fun g tk so hk => args_nil ?_
  rw [many, RZ.firstMet_nodup hnd ns.length (Nat.le_refl _), List.take_length] at so
  obtain ⟨o, es, ep, t, ho, hex, hd, _, _, _, hf, hn⟩ := so
  have I2 : Inv X pins σ H1 { s1 with heap := g, toks := tk } := I1.kept fun b o e => hk b o e
  exact call_len_set ho hex hd hf (by rw [hn]; omega) ⟨.int ns.length, H1, I2.tok _, ⟨_, by rw [hn]⟩, q1⟩
end FwSI
namespace FwSJ
open PySem PySem.Spec PyProof.Rows L2 FwSI
/-- min of a list of alike data -/
def rMinD (K : PySem.W.Frag) : List V → Hp → VK → Prop := fun vs H Q => ∃ (a : Addr) (xs : List V) (d : PyData) (ds : List PyData) (R : V → PyData → Prop), vs = [.ref a] ∧ SqL K H a xs ∧ Paired R xs (d :: ds) ∧ (∀ x e, R x e → Dp K H x e) ∧ PySem.W.AlikeAll (d :: ds) ∧ PyData.depthAll (d :: ds) ≤ 60 ∧ ∀ v, R v (PySem.W.minD d ds) → Q v H
theorem paired_at {R : V → PyData → Prop} : ∀ {xs : List V} {ds : List PyData} {i : Nat} {x : V}, Paired R xs ds → xs[i]? = some x → ∃ d, ds[i]? = some d ∧ R x d
  | _, _, _, _, .nil, h => by simp at h
  | _, _, 0, _, .cons h _, e => by
    have e' := Option.some.inj e
    subst e'
    exact ⟨_, rfl, h⟩
  | _, _, i + 1, _, .cons _ t, e => paired_at (i := i) t e
theorem dpAll_of {K : PySem.W.Frag} {H : Hp} {R : V → PyData → Prop} (f : ∀ x e, R x e → Dp K H x e) : ∀ {xs : List V} {ds : List PyData}, Paired R xs ds → DpAll K H xs ds
  | _, _, .nil => .nil
  | _, _, .cons h t => .cons (f _ _ h) (dpAll_of f t)
theorem min_in : ∀ (d : PyData) (ds : List PyData), PySem.W.minD d ds ∈ d :: ds
  | d, [] => List.mem_cons_self
  | d, e :: ds => by
    show PySem.W.minD (if PySem.W.dataLt e d then e else d) ds ∈ d :: e :: ds
    have ih := min_in (if PySem.W.dataLt e d then e else d) ds
    rcases List.mem_cons.mp ih with z | z
    · rw [z]
      split
      · exact List.mem_cons_of_mem _ List.mem_cons_self
      · exact List.mem_cons_self
    · exact List.mem_cons_of_mem _ (List.mem_cons_of_mem _ z)
theorem cr_minD {X : Cx} (hu : X.A.units + 64 < cLine) (hc : X.calm = true) : CallR X (.builtin "min") (rMinD X.K) := fun pins s σ H vs us Q I r h => by
  obtain ⟨a, xs, d, ds, R, rfl, hs, hd, hR, al, dp, q⟩ := h
  obtain ⟨u, rfl, ru⟩ := vals1 r
  cases ru
  obtain ⟨its, rv, hl, hz⟩ := I.list hs
  obtain ⟨as, rd⟩ := Dp.readsAll I (d :: ds) xs its (dpAll_of hR hd) rv
  refine PySem.W.min_list_data (I.ok.hd hc) hl.isList (by rw [List.toList_toArray]; exact rd) al (by omega) fun i v h' tk bs hv hr hk => ?_
  have I2 : Inv X pins σ H { s with heap := h', toks := tk } := I.kept hk
  have hv2 : its[i]? = some v := by simpa using hv
  have hi : i < xs.length := by
    have := (List.getElem?_eq_some_iff.mp hv2).1
    rw [rv.length]
    exact this
  obtain ⟨u', hu', ru'⟩ := Vals.get rv (List.getElem?_eq_getElem hi)
  rw [hv2] at hu'
  cases hu'
  obtain ⟨e, he, de⟩ := paired_at hd (List.getElem?_eq_getElem hi)
  obtain ⟨cs, r2⟩ := Dp.reads I2 e _ v (hR _ _ de) ru'
  have same : e = PySem.W.minD d ds := PySem.W.alike_unique _ _ _ _ _ (al.1 _ (List.mem_of_getElem? he) _ (min_in d ds)) r2 hr
  exact ⟨_, H, I2, ru', q _ (same ▸ de)⟩
end FwSJ
namespace Fw
open PySem PySem.Spec PyProof.Rows L2 Evl FwS FwSE FwSI FwSJ
section
variable {K K' : PySem.W.Frag} {p : Option Addr} {env : List Slot} {te tb : TE} {ta : TA} {O : Outs} {Φ : PyData → Prop}
theorem f_sortedE {Ψ : List PyData → Prop} (h : WpA K p ta env fun xs => ∃ ds, xs = [.list (.tuple [] :: ds)] ∧ PySem.W.AllAlike (.tuple [] :: ds) ∧ (∀ d ∈ ds, ∃ ys, d = .tuple ys) ∧ (∀ d ∈ PyData.tuple [] :: ds, d.depth ≤ 60) ∧ PyData.hasDictAll ds = false ∧ Ψ (sortD (.tuple [] :: ds))) (hK : K' = K := by with_unfolding_all rfl) : WpF K p (tCB (rSortE K') ta) env Ψ := fun H0 σ Hk H Q e po en k => by
  subst hK
  refine h H0 σ Hk H _ e po en fun vs xs Hk1 H1 g1 r ⟨ds, ex, al, so, dp, nd, f⟩ => ?_
  subst ex
  cases r with
  | cons r rr =>
    cases rr
    obtain ⟨a, ws, rfl, hL, r⟩ := dp_lst r
    have nd2 : PyData.hasDictAll (.tuple [] :: ds) = false := by
      show ((PyData.tuple []).hasDict || PyData.hasDictAll ds) = false
      rw [nd]
      rfl
    refine ⟨a, ws, ds, Dp K' Hk1, rfl, ex_l g1.kr hL, paired_dp0 (dxAll_dp _ nd2 r), fun x d h => dp_mono0 g1.kr d h, al, so, dp, fun ys q hy hq => ?_⟩
    have hp := pot_ne g1.po hq
    exact k q ys _ Hk1 _ ((Go.trans g1 (Go.refl g1.kr g1.po)).mut (fresh0 g1 hq) hp (fresh_back g1.kr hq)) (fresh0 g1 hq) (fresh_back g1.kr hq) upd_same (dpAll_dx _ (dp_paired0 hy)) f
theorem cb_minD {d : PyData} {ds : List PyData} (al : PySem.W.AlikeAll (d :: ds)) (dp : PyData.depthAll (d :: ds) ≤ 60) (nd : PyData.hasDictAll (d :: ds) = false) (h : Φ (PySem.W.minD d ds)) (hK : K' = K := by with_unfolding_all rfl) : CbD K p (rMinD K') [.list (d :: ds)] Φ := fun vs Hk H Q e po rx k => by
  subst hK
  cases rx with
  | cons rx rr =>
    cases rr
    obtain ⟨a, ws, rfl, hL, r⟩ := dp_lst rx
    refine ⟨a, ws, d, ds, Dp K' Hk, rfl, ex_l e hL, paired_dp0 (dxAll_dp _ nd r), fun x d h => dp_mono0 e d h, al, dp, fun v hv => ?_⟩
    exact k v _ _ _ (Go.refl e po) (dp_dx _ hv) h
/-- list(range(n)): a new list -/
theorem f_listRg {tn : TE} {Ψ : List PyData → Prop} (h : WpE K p tn env fun x => ∃ n : Nat, x = .int n ∧ n ≤ 10000 ∧ Ψ ((List.range n).map fun i => .int (i : Nat))) : WpF K p (tLstRg (tRg1 tn)) env Ψ := fun H0 σ Hk H Q e po en k =>
  h H0 σ Hk H _ e po en fun v x Hk1 H1 g1 rx ⟨n, ex, hn, f⟩ => by
    subst ex
    refine ⟨n, dp_int rx, RgOk.of_le (Int.le_refl _) (by omega) (by omega) (by omega), fun q hq => ?_⟩
    have e1 : rgV 0 n = ((List.range n).map fun i => V.int (i : Nat)) := by
      unfold rgV
      rw [show ((n : Int) - 0).toNat = n by omega]
      exact List.map_congr_left fun i _ => by rw [Int.zero_add]
    have hp := pot_ne g1.po hq
    have all : ∀ l : List Nat, DxAll K Hk1 (l.map fun i => V.int (i : Nat)) (l.map fun i => .int (i : Nat)) := fun l => by
      induction l with
      | nil => exact .nil
      | cons i l ih => exact .cons (.int _) ih
    exact k q _ _ Hk1 _ ((Go.trans g1 (Go.refl g1.kr g1.po)).mut (fresh0 g1 hq) hp (fresh_back g1.kr hq)) (fresh0 g1 hq) (fresh_back g1.kr hq) (by rw [upd_same, e1]) (all _) f
theorem e_lenSetT (h : WpE K p te env fun x => ∃ ns : List Int, x = tupI ns ∧ ns.Nodup ∧ ns.length ≤ 4000 ∧ Φ (.int ns.length)) (hK : K' = K := by with_unfolding_all rfl) : WpE K p (tLenSetT K' te) env Φ := fun H0 σ Hk H Q e po en k => by
  subst hK
  refine h H0 σ Hk H _ e po en fun v x Hk1 H1 g1 rx ⟨ns, ex, nd, hl, f⟩ => ?_
  subst ex
  obtain ⟨a, xs, rfl, hT, r⟩ := dp_tup rx
  have e2 := dpAll_ints r
  subst e2
  exact ⟨a, ns, rfl, ex_t g1.kr hT, nd, hl, k _ _ Hk1 H1 g1 (.int _) f⟩
end
end Fw

namespace FwSJ
open PySem PySem.Spec PyProof.Rows L2
def iOr (w1 w2 : TI) : TI := fun σ H R => w1 σ H R ∨ w2 σ H R
theorem pi_or {X : Cx} {tg e : Expr} {w1 w2 : TI} (h1 : PI X tg e w1) (h2 : PI X tg e w2) : PI X tg e (iOr w1 w2) := ⟨fun pins s σ H R I h => h.elim (fun q => h1.run pins s σ H R I q) (fun q => h2.run pins s σ H R I q)⟩
end FwSJ
namespace Fw
open PySem PySem.Spec PyProof.Rows L2 Evl FwSJ
theorem i_or1 {K : PySem.W.Frag} {p : Option Addr} {env : List Slot} {w1 w2 : TI} {Ψ : List PyData → Prop} (h : WpI K p w1 env Ψ) : WpI K p (iOr w1 w2) env Ψ := fun H0 σ Hk H R e po en k => .inl (h H0 σ Hk H R e po en k)
theorem i_or2 {K : PySem.W.Frag} {p : Option Addr} {env : List Slot} {w1 w2 : TI} {Ψ : List PyData → Prop} (h : WpI K p w2 env Ψ) : WpI K p (iOr w1 w2) env Ψ := fun H0 σ Hk H R e po en k => .inr (h H0 σ Hk H R e po en k)
theorem e_or1 {K : PySem.W.Frag} {p : Option Addr} {env : List Slot} {t1 t2 : TE} {Φ : PyData → Prop} (h : WpE K p t1 env Φ) : WpE K p (FwK.tOr t1 t2) env Φ := fun H0 σ Hk H Q e po en k => .inl (h H0 σ Hk H Q e po en k)
theorem e_or2 {K : PySem.W.Frag} {p : Option Addr} {env : List Slot} {t1 t2 : TE} {Φ : PyData → Prop} (h : WpE K p t2 env Φ) : WpE K p (FwK.tOr t1 t2) env Φ := fun H0 σ Hk H Q e po en k => .inr (h H0 σ Hk H Q e po en k)
/-- two data and an own list between -/
theorem s_par3M {K : PySem.W.Frag} {p : Option Addr} {env : List Slot} {O : Outs} {ta tb tc : TE} {i j l : Nat} (h : WpE K p ta env fun x => WpF K p tb env fun ds => WpE K p tc env fun z => O.nx (((env.set i (.dat x)).set j (.own ds)).set l (.dat z))) : WpS K p (tPar3 i j l (tCons ta (tCons tb (tCons tc tNil)))) env O := fun H0 Hk0 σ Hk H D g en k =>
  h H0 σ Hk H _ g.kr g.po en fun v x Hk1 H1 g1 rx f => f H0 σ Hk1 H1 _ g1.kr g1.po (en.go g1) fun m ws ds Hk2 H2 g2 h0 hk hl r f2 => f2 H0 σ Hk2 H2 _ g2.kr g2.po ((en.go g1).go g2) fun w z Hk3 H3 g3 rz f3 => by
    have pm : p ≠ some m := pot_ne g1.po h0
    have en1 := En.add_own (i := j) ((en.go g1).set (i := i) rx) (((en.go g1).go g2).set (i := i) (dp_mono g2.kk x rx)) (fresh0 (g.trans g1) h0) h0 hl hk pm r
    exact ⟨v, .ref m, w, rfl, k.nx _ _ Hk3 H3 (((g.trans g1).trans g2).trans g3) ((en1.go g3).set rz) f3⟩
end Fw
namespace Fw
open PySem PySem.Spec PyProof.Rows L2 Evl
theorem f_callS1 {K : PySem.W.Frag} {p : Option Addr} {env : List Slot} {Ψ : List PyData → Prop} {pre : List PyData → (List PyData → Prop) → Prop} {E : XK} {tk : TA} (h : WpA K p tk env fun ds => pre ds Ψ) : WpF K p (tCallK (SpN K pre) (onlyK same1) E tNil tk) env Ψ := fun H0 σ Hk H Q e po en k =>
  h H0 σ Hk H _ e po en fun vs ds Hk1 H1 g1 r f => ⟨Hk1, ds, Ψ, g1.kr, r, f, fun l ws es Hk' H' g h0 hk hl rr f' => k l ws es Hk' H' (g1.trans (g.lift g1.po)) (fresh0 g1 h0) hk hl rr f'⟩
end Fw
namespace Fw
open PySem PySem.Spec PyProof.Rows L2 Evl FwWd
variable {K K' : PySem.W.Frag} {p : Option Addr} {env : List Slot}
theorem wt_mono {tt : TT} {A B : Bool → Prop} (h : WpT K p tt env A) (f : ∀ b, A b → B b) : WpT K p tt env B := fun H0 σ Hk H R e po en k => h H0 σ Hk H R e po en fun b Hk' H' g q => k b Hk' H' g (f b q)
theorem wi_mono {wi : TI} {A B : List PyData → Prop} (h : WpI K p wi env A) (f : ∀ b, A b → B b) : WpI K p wi env B := fun H0 σ Hk H R e po en k => h H0 σ Hk H R e po en fun J xs Hk' H' g it q => k J xs Hk' H' g it (f xs q)
theorem wg_mono {g : TG} {js : List Nat} {x : PyData} {A B : List Slot → Prop} (h : WpG K p js g x env A) (f : ∀ b, A b → B b) : WpG K p js g x env B := fun H0 σ Hk H v Q e po en r k => h H0 σ Hk H v Q e po en r fun σ' env' en' same q => k σ' env' en' same (f env' q)
theorem f_flt0 {α : Type} {wi : TI} {g : TG} {tt : TT} {te : TE} {vs js : List Nat} {Φ : List PyData → Prop} (D : α → PyData) (T : α → Bool) (E : α → PyData) (hs : ∀ j ∈ js, j ∈ vs) (h : WpI K p wi env fun xs => ∃ as : List α, xs = as.map D ∧ as.length ≤ 100000 ∧ (∀ a ∈ as, WpG K p js g (D a) (wipeE env vs) fun env2 => WpT K p tt env2 fun b => b = T a ∧ (T a = true → WpE K p te env2 (fun y => y = E a))) ∧ Φ ((as.filter T).map E)) : WpF K p (tLc wi g tt te vs) env Φ :=
  f_lc hs (wi_mono h fun xs ⟨as, e, hz, st, q⟩ => ⟨by rw [e, List.length_map]; exact hz, fun i acc => acc = ((as.take i).filter T).map E, rfl, fun i x acc hx inv _ => by
    rw [e, List.getElem?_map] at hx
    obtain ⟨a, ha, rfl⟩ := Option.map_eq_some_iff.mp hx
    refine wg_mono (st a (List.mem_of_getElem? ha)) fun env2 f => wt_mono f fun b ⟨hb, f⟩ => ?_
    rw [hb]
    have key : (((as.take (i + 1)).filter T).map E) = acc ++ (if T a = true then [E a] else []) := by
      rw [List.take_add_one, ha, inv, List.filter_append, List.map_append]
      congr 1
      show List.map E (List.filter T [a]) = _
      rw [List.filter_cons, List.filter_nil]
      split <;> rfl
    split
    · rename_i ht
      refine (f ht).mono fun y hy => ?_
      show acc ++ [y] = _
      rw [key, if_pos ht, hy]
    · rename_i ht
      show acc = _
      rw [key, if_neg ht, List.append_nil], fun acc _ inv => by
    rw [e, List.length_map, List.take_length] at inv
    rw [inv]
    exact q⟩)
theorem f_flt20 {α β : Type} {wi wi1 : TI} {g g1 : TG} {tt tt1 : TT} {te : TE} {vs vs1 js js1 : List Nat} {Φ : List PyData → Prop} (D1 : α → PyData) (bs : α → List β) (D2 : β → PyData) (T2 : α → β → Bool) (E : α → β → PyData) (hs : ∀ j ∈ js, j ∈ vs) (hs1 : ∀ j ∈ js1, j ∈ vs1)
    (h : WpI K p wi env fun xs => ∃ as : List α, xs = as.map D1 ∧ as.length ≤ 100 ∧ (∀ a ∈ as, WpG K p js g (D1 a) (wipeE env vs) fun env2 => Calm env2 ∧ WpT K p tt env2 fun b => b = true ∧ WpI K p wi1 env2 fun ys => ys = (bs a).map D2 ∧ (bs a).length ≤ 100 ∧ ∀ b ∈ bs a, WpG K p js1 g1 (D2 b) (wipeE env2 vs1) fun env3 => WpT K p tt1 env3 fun c => c = T2 a b ∧ (T2 a b = true → WpE K p te env3 (fun z => z = E a b))) ∧ Φ (as.flatMap fun a => ((bs a).filter (T2 a)).map (E a))) : WpF K p (tLc2 wi g tt wi1 g1 tt1 te vs vs1) env Φ :=
  f_lc2 hs hs1 (wi_mono h fun xs ⟨as, e, hz, st, q⟩ => ⟨by rw [e, List.length_map]; exact hz, fun i acc => acc = (as.take i).flatMap fun a => ((bs a).filter (T2 a)).map (E a), rfl, fun i x acc hx inv _ => by
    rw [e, List.getElem?_map] at hx
    obtain ⟨a, ha, rfl⟩ := Option.map_eq_some_iff.mp hx
    refine wg_mono (st a (List.mem_of_getElem? ha)) fun env2 ⟨calm, f⟩ => ⟨calm, wt_mono f fun b ⟨hb, f⟩ => ?_⟩
    rw [if_pos hb]
    refine wi_mono f fun ys ⟨ey, hy, f⟩ => ⟨by rw [ey, List.length_map]; exact hy, fun j acc2 => acc2 = acc ++ (((bs a).take j).filter (T2 a)).map (E a), by simp, fun j y acc2 hy2 inv2 => ?_, fun acc2 inv2 => ?_⟩
    · rw [ey, List.getElem?_map] at hy2
      obtain ⟨b, hb2, rfl⟩ := Option.map_eq_some_iff.mp hy2
      refine wg_mono (f b (List.mem_of_getElem? hb2)) fun env3 f => wt_mono f fun c ⟨hc, f⟩ => ?_
      rw [hc]
      have key : acc ++ ((((bs a).take (j + 1)).filter (T2 a)).map (E a)) = acc2 ++ (if T2 a b = true then [E a b] else []) := by
        rw [List.take_add_one, hb2, inv2, List.filter_append, List.map_append, List.append_assoc]
        congr 2
        show List.map (E a) (List.filter (T2 a) [b]) = _
        rw [List.filter_cons, List.filter_nil]
        split <;> rfl
      split
      · rename_i ht
        refine (f ht).mono fun y hy => ?_
        show acc2 ++ [y] = _
        rw [key, if_pos ht, hy]
      · rename_i ht
        show acc2 = _
        rw [key, if_neg ht, List.append_nil]
    · rw [ey, List.length_map, List.take_length] at inv2
      rw [inv2, inv, List.take_add_one, ha, List.flatMap_append]
      simp, fun acc inv => by
    rw [e, List.length_map, List.take_length] at inv
    rw [inv]
    exact q⟩)
abbrev FltI {α : Type} (K : PySem.W.Frag) (p : Option Addr) (g : TG) (tt : TT) (te : TE) (vs js : List Nat) (env : List Slot) (D : α → PyData) (T : α → Bool) (E : α → PyData) (Φ : List PyData → Prop) (xs : List PyData) : Prop := ∃ as : List α, xs = as.map D ∧ as.length ≤ 100000 ∧ (∀ a ∈ as, WpG K p js g (D a) (wipeE env vs) fun env2 => WpT K p tt env2 fun b => b = T a ∧ (T a = true → WpE K p te env2 (fun y => y = E a))) ∧ Φ ((as.filter T).map E)
theorem f_flt {α : Type} {wi : TI} {g : TG} {tt : TT} {te : TE} {vs js : List Nat} {Φ : List PyData → Prop} (D : α → PyData) (T : α → Bool) (E : α → PyData) (h : WpI K p wi env (FltI K p g tt te vs js env D T E Φ)) (hs : ∀ j ∈ js, j ∈ vs := by decide) : WpF K p (tLc wi g tt te vs) env Φ := f_flt0 D T E hs h
theorem e_flt {α : Type} {wi : TI} {g : TG} {tt : TT} {te : TE} {vs js : List Nat} {Φ : PyData → Prop} (D : α → PyData) (T : α → Bool) (E : α → PyData) (h : WpI K p wi env (FltI K p g tt te vs js env D T E fun z => Φ (.list z))) (hs : ∀ j ∈ js, j ∈ vs := by decide) : WpE K p (tLc wi g tt te vs) env Φ := e_new (f_flt0 D T E hs h)
abbrev MapI {α : Type} (K : PySem.W.Frag) (p : Option Addr) (g : TG) (te : TE) (vs js : List Nat) (env : List Slot) (D : α → PyData) (E : α → PyData) (Φ : List PyData → Prop) (xs : List PyData) : Prop := ∃ as : List α, xs = as.map D ∧ as.length ≤ 100000 ∧ (∀ a ∈ as, WpG K p js g (D a) (wipeE env vs) fun env2 => WpE K p te env2 (fun y => y = E a)) ∧ Φ (as.map E)
theorem f_mapA {α : Type} {wi : TI} {g : TG} {te : TE} {vs js : List Nat} {Φ : List PyData → Prop} (D : α → PyData) (E : α → PyData) (h : WpI K p wi env (MapI K p g te vs js env D E Φ)) (hs : ∀ j ∈ js, j ∈ vs := by decide) : WpF K p (tLc wi g tYes te vs) env Φ :=
  f_flt0 D (fun _ => true) E hs (wi_mono h fun xs ⟨as, e, l, st, q⟩ => ⟨as, e, l, fun a ha => wg_mono (st a ha) fun env2 f => t_yes ⟨rfl, fun _ => f⟩, by rw [List.filter_eq_self.mpr (fun _ _ => rfl)]; exact q⟩)
theorem e_mapA {α : Type} {wi : TI} {g : TG} {te : TE} {vs js : List Nat} {Φ : PyData → Prop} (D : α → PyData) (E : α → PyData) (h : WpI K p wi env (MapI K p g te vs js env D E fun z => Φ (.list z))) (hs : ∀ j ∈ js, j ∈ vs := by decide) : WpE K p (tLc wi g tYes te vs) env Φ := e_new (f_mapA D E h hs)
abbrev Flt2 {α β : Type} (K : PySem.W.Frag) (p : Option Addr) (g : TG) (tt : TT) (wi1 : TI) (g1 : TG) (tt1 : TT) (te : TE) (vs vs1 js js1 : List Nat) (env : List Slot) (D1 : α → PyData) (bs : α → List β) (D2 : β → PyData) (T2 : α → β → Bool) (E : α → β → PyData) (Φ : List PyData → Prop) (xs : List PyData) : Prop := ∃ as : List α, xs = as.map D1 ∧ as.length ≤ 100 ∧ (∀ a ∈ as, WpG K p js g (D1 a) (wipeE env vs) fun env2 => Calm env2 ∧ WpT K p tt env2 fun b => b = true ∧ WpI K p wi1 env2 fun ys => ys = (bs a).map D2 ∧ (bs a).length ≤ 100 ∧ ∀ b ∈ bs a, WpG K p js1 g1 (D2 b) (wipeE env2 vs1) fun env3 => WpT K p tt1 env3 fun c => c = T2 a b ∧ (T2 a b = true → WpE K p te env3 (fun z => z = E a b))) ∧ Φ (as.flatMap fun a => ((bs a).filter (T2 a)).map (E a))
theorem f_flt2 {α β : Type} {wi wi1 : TI} {g g1 : TG} {tt tt1 : TT} {te : TE} {vs vs1 js js1 : List Nat} {Φ : List PyData → Prop} (D1 : α → PyData) (bs : α → List β) (D2 : β → PyData) (T2 : α → β → Bool) (E : α → β → PyData) (h : WpI K p wi env (Flt2 K p g tt wi1 g1 tt1 te vs vs1 js js1 env D1 bs D2 T2 E Φ)) (hs : ∀ j ∈ js, j ∈ vs := by decide) (hs1 : ∀ j ∈ js1, j ∈ vs1 := by decide) : WpF K p (tLc2 wi g tt wi1 g1 tt1 te vs vs1) env Φ := f_flt20 D1 bs D2 T2 E hs hs1 h
theorem e_flt2 {α β : Type} {wi wi1 : TI} {g g1 : TG} {tt tt1 : TT} {te : TE} {vs vs1 js js1 : List Nat} {Φ : PyData → Prop} (D1 : α → PyData) (bs : α → List β) (D2 : β → PyData) (T2 : α → β → Bool) (E : α → β → PyData) (h : WpI K p wi env (Flt2 K p g tt wi1 g1 tt1 te vs vs1 js js1 env D1 bs D2 T2 E fun z => Φ (.list z))) (hs : ∀ j ∈ js, j ∈ vs := by decide) (hs1 : ∀ j ∈ js1, j ∈ vs1 := by decide) : WpE K p (tLc2 wi g tt wi1 g1 tt1 te vs vs1) env Φ := e_new (f_flt20 D1 bs D2 T2 E hs hs1 h)
theorem any_bool {α : Type} (as : List α) (f : α → Bool) : (as.map f).any id = as.any f := by rw [List.any_map]; rfl
theorem all_bool {α : Type} (as : List α) (f : α → Bool) : (as.map f).all id = as.all f := by rw [List.all_map]; rfl
theorem cb_anyF {α : Type} {as : List α} {f : α → Bool} {Φ : PyData → Prop} (h : Φ (.bool (as.any f))) (hK : K' = K := by with_unfolding_all rfl) : CbD K p (rAny K') [.list (as.map fun a => .bool (f a))] Φ := cb_any_ (as.map f) (by rw [List.map_map]; rfl) (by rw [any_bool]; exact h) hK
theorem cb_allF {α : Type} {as : List α} {f : α → Bool} {Φ : PyData → Prop} (h : Φ (.bool (as.all f))) (hK : K' = K := by with_unfolding_all rfl) : CbD K p (rAll K') [.list (as.map fun a => .bool (f a))] Φ := cb_all_ (as.map f) (by rw [List.map_map]; rfl) (by rw [all_bool]; exact h) hK
theorem calm_of (h : env.all (fun s => match s with | .own _ => false | .mov _ => false | _ => true) = true) : Calm env := by
  rw [List.all_eq_true] at h
  constructor
  · intro m ds z
    exact absurd (h _ (List.mem_of_getElem? z)) (by simp)
  · intro m S z
    exact absurd (h _ (List.mem_of_getElem? z)) (by simp)
end Fw
namespace Fw
open PySem PySem.Spec PyProof.Rows L2 Evl FwWd
abbrev tTruK (K : PySem.W.Frag) (ta : TE) : TT := fun σ H Q => ta σ H fun x H' => ∃ k, TruV K x H' k ∧ Q k H'
theorem pt_truK {X : Cx} {K : PySem.W.Frag} {a : Expr} {ta : TE} (h : PE X a ta) (w : ∀ (whole : Sem Value), PySem.isTrue a X.env whole = do
          let v ← whole
          standAt a.pos
          holding [v] (truthy v)) (hK : X.K = K) : PT X a (tTruK K ta) := by
  subst hK
  exact pt_truth h w
end Fw
namespace Fw
open PySem PySem.Spec PyProof.Rows L2 Evl FwWd
theorem s_tup3M {K K' : PySem.W.Frag} {p : Option Addr} {env : List Slot} {O : Outs} {ta tb tc : TE} {i j l : Nat} (h : WpE K p ta env fun x => WpF K p tb env fun ds => WpE K p tc env fun z => O.nx (((env.set i (.dat x)).set j (.own ds)).set l (.dat z))) (hK : K' = K := by with_unfolding_all rfl) : WpS K p (tAsg (tTup (tCons ta (tCons tb (tCons tc tNil)))) (gTup K' 3 (gCons (gName i) (gCons (gName j) (gCons (gName l) gNil))))) env O := fun H0 Hk0 σ Hk H D g en k =>
  h H0 σ Hk H _ g.kr g.po en fun v x Hk1 H1 g1 rx f => f H0 σ Hk1 H1 _ g1.kr g1.po (en.go g1) fun m ws ds Hk2 H2 g2 h0 hk hl r f2 => f2 H0 σ Hk2 H2 _ g2.kr g2.po ((en.go g1).go g2) fun w z Hk3 H3 g3 rz f3 => by
    subst hK
    have pm : p ≠ some m := pot_ne g1.po h0
    have en1 := En.add_own (i := j) ((en.go g1).set (i := i) rx) (((en.go g1).go g2).set (i := i) (dp_mono g2.kk x rx)) (fresh0 (g.trans g1) h0) h0 hl hk pm r
    refine ⟨sz_of (show 3 ≤ 100000 by decide), fun q hq => ⟨q, [v, .ref m, w], rfl, SqT.of upd_same, rfl, ⟨v, _, rfl, ⟨_, _, rfl, ⟨_, _, rfl, ⟨rfl, ?_⟩⟩⟩⟩⟩⟩
    have gN := Go.new (o := .tup [v, .ref m, w]) g3.kr g3.po hq
    exact k.nx _ _ _ _ ((((g.trans g1).trans g2).trans g3).trans gN) (((en1.go g3).set rz).go gN) f3
end Fw
namespace Fw
open PySem PySem.Spec PyProof.Rows L2 Evl FwWd
theorem s_parM2 {K : PySem.W.Frag} {p : Option Addr} {env : List Slot} {O : Outs} {tb tc : TE} {j l : Nat} (h : WpF K p tb env fun ds => WpE K p tc env fun z => O.nx ((env.set j (.own ds)).set l (.dat z))) : WpS K p (tPar j l (tCons tb (tCons tc tNil))) env O := fun H0 Hk0 σ Hk H D g en k =>
  h H0 σ Hk H _ g.kr g.po en fun m ws ds Hk2 H2 g2 h0 hk hl r f2 => f2 H0 σ Hk2 H2 _ g2.kr g2.po (en.go g2) fun w z Hk3 H3 g3 rz f3 => by
    have pm : p ≠ some m := pot_ne g.po h0
    have en1 := En.add_own (i := j) en (en.go g2) (fresh0 g h0) h0 hl hk pm r
    exact ⟨.ref m, w, rfl, k.nx _ _ Hk3 H3 ((g.trans g2).trans g3) ((en1.go g3).set rz) f3⟩
end Fw
namespace Fw
open PySem PySem.Spec PyProof.Rows L2 Evl FwWd
abbrev rTupOf (K : PySem.W.Frag) : List V → Hp → VK → Prop := fun xs H Q => ∃ p ys, xs = [V.ref p] ∧ ((SqL K H p ys ∧ ∀ (l : Addr), H l = none → Q (V.ref l) (upd H l (HO.tup ys))) ∨ SqT K H p ys ∧ Q (V.ref p) H)
end Fw
namespace K66
open PySem PySem.Spec PyProof.Rows L2 Evl
abbrev top (i : Nat) : Stmt := PySem.Challenge.pw_sumroads_k66_whole_ties_sequences_holes.main.body.getD i (.Pass ⟨0, 0, 0, 0⟩)
abbrev s_is_integer : Stmt := top 1
abbrev s_is_count : Stmt := top 2
abbrev s_is_count_to : Stmt := top 3
abbrev s_are_counts : Stmt := top 4
abbrev s_is_listed : Stmt := top 5
abbrev s_is_rising : Stmt := top 6
abbrev s_is_small_letter : Stmt := top 13
abbrev s_is_digit : Stmt := top 14
abbrev s_is_of_word : Stmt := top 15
abbrev s_is_value_word : Stmt := top 24
abbrev s_is_name_word : Stmt := top 25
abbrev s_are_unlike : Stmt := top 26
abbrev s_is_name : Stmt := top 27
abbrev s_are_names : Stmt := top 28
abbrev s_how_many_places : Stmt := top 29
abbrev s_is_place : Stmt := top 30
abbrev s_are_voids : Stmt := top 31
abbrev s_is_told_sum : Stmt := top 32
abbrev s_are_told : Stmt := top 33
abbrev s_is_model : Stmt := top 34
abbrev s_check_model : Stmt := top 35
abbrev s_names_of : Stmt := top 37
abbrev s_are_tied : Stmt := top 38
abbrev s_friends_of : Stmt := top 39
abbrev s_is_close_lot : Stmt := top 40
abbrev s_web_of : Stmt := top 41
abbrev s_friends : Stmt := top 42
abbrev s_is_close : Stmt := top 43
abbrev s_greatest_lots : Stmt := top 44
abbrev s_is_greatest : Stmt := top 45
abbrev s_greatest : Stmt := top 46
abbrev s_is_fitted : Stmt := top 47
abbrev s_sequence_of : Stmt := top 50
abbrev s_friends_among : Stmt := top 51
abbrev s_sequence : Stmt := top 52
abbrev s_arrangements : Stmt := top 53
abbrev s_is_ring : Stmt := top 54
abbrev s_hole : Stmt := top 55
abbrev s_are_names_of : Stmt := top 56
abbrev s_is_sequence : Stmt := top 57
abbrev s_is_hole : Stmt := top 58
abbrev s__law_pot : Stmt := top 60
abbrev s__law_draw : Stmt := top 61
abbrev s__law_pick : Stmt := top 62
abbrev s__law_sizes : Stmt := top 63
abbrev s__law_subsets : Stmt := top 64
abbrev s__law_kept : Stmt := top 65
abbrev s__law_told : Stmt := top 66
abbrev s__law_model : Stmt := top 67
abbrev s__law_many : Stmt := top 68
abbrev s__law_are_tied : Stmt := top 69
abbrev s__law_is_close : Stmt := top 70
abbrev s__law_greatest : Stmt := top 71
abbrev s__law_is_fitted : Stmt := top 72
abbrev s__law_orders : Stmt := top 73
abbrev s__law_is_sequence : Stmt := top 74
abbrev s__law_sequence : Stmt := top 75
abbrev s__law_is_hole : Stmt := top 76
abbrev s__law_web_right : Stmt := top 77
abbrev s__law_right : Stmt := top 78
abbrev s_law : Stmt := top 79
abbrev N_is_integer : List Str := ["value"]
theorem sc_is_integer : FnScope N_is_integer ["value"] (defScope s_is_integer) := ⟨rfl, rfl, rfl, by decide +kernel, rfl, by decide +kernel, by decide +kernel⟩
abbrev N_is_count : List Str := ["value"]
theorem sc_is_count : FnScope N_is_count ["value"] (defScope s_is_count) := ⟨rfl, rfl, rfl, by decide +kernel, rfl, by decide +kernel, by decide +kernel⟩
abbrev N_is_count_to : List Str := ["value", "most"]
theorem sc_is_count_to : FnScope N_is_count_to ["value", "most"] (defScope s_is_count_to) := ⟨rfl, rfl, rfl, by decide +kernel, rfl, by decide +kernel, by decide +kernel⟩
abbrev N_are_counts : List Str := ["value", "many", "most", "count"]
theorem sc_are_counts : FnScope N_are_counts ["value", "many", "most"] (defScope s_are_counts) := ⟨rfl, rfl, rfl, by decide +kernel, rfl, by decide +kernel, by decide +kernel⟩
abbrev N_is_listed : List Str := ["value"]
theorem sc_is_listed : FnScope N_is_listed ["value"] (defScope s_is_listed) := ⟨rfl, rfl, rfl, by decide +kernel, rfl, by decide +kernel, by decide +kernel⟩
abbrev N_is_rising : List Str := ["values", "at"]
theorem sc_is_rising : FnScope N_is_rising ["values"] (defScope s_is_rising) := ⟨rfl, rfl, rfl, by decide +kernel, rfl, by decide +kernel, by decide +kernel⟩
abbrev N_is_small_letter : List Str := ["sign"]
theorem sc_is_small_letter : FnScope N_is_small_letter ["sign"] (defScope s_is_small_letter) := ⟨rfl, rfl, rfl, by decide +kernel, rfl, by decide +kernel, by decide +kernel⟩
abbrev N_is_digit : List Str := ["sign"]
theorem sc_is_digit : FnScope N_is_digit ["sign"] (defScope s_is_digit) := ⟨rfl, rfl, rfl, by decide +kernel, rfl, by decide +kernel, by decide +kernel⟩
abbrev N_is_of_word : List Str := ["sign"]
theorem sc_is_of_word : FnScope N_is_of_word ["sign"] (defScope s_is_of_word) := ⟨rfl, rfl, rfl, by decide +kernel, rfl, by decide +kernel, by decide +kernel⟩
abbrev N_is_value_word : List Str := ["value", "sign"]
theorem sc_is_value_word : FnScope N_is_value_word ["value"] (defScope s_is_value_word) := ⟨rfl, rfl, rfl, by decide +kernel, rfl, by decide +kernel, by decide +kernel⟩
abbrev N_is_name_word : List Str := ["value"]
theorem sc_is_name_word : FnScope N_is_name_word ["value"] (defScope s_is_name_word) := ⟨rfl, rfl, rfl, by decide +kernel, rfl, by decide +kernel, by decide +kernel⟩
abbrev N_are_unlike : List Str := ["words", "word"]
theorem sc_are_unlike : FnScope N_are_unlike ["words"] (defScope s_are_unlike) := ⟨rfl, rfl, rfl, by decide +kernel, rfl, by decide +kernel, by decide +kernel⟩
abbrev N_is_name : List Str := ["value", "name", "values", "word"]
theorem sc_is_name : FnScope N_is_name ["value"] (defScope s_is_name) := ⟨rfl, rfl, rfl, by decide +kernel, rfl, by decide +kernel, by decide +kernel⟩
abbrev N_are_names : List Str := ["value", "name", "_"]
theorem sc_are_names : FnScope N_are_names ["value"] (defScope s_are_names) := ⟨rfl, rfl, rfl, by decide +kernel, rfl, by decide +kernel, by decide +kernel⟩
abbrev N_how_many_places : List Str := ["names", "many", "_", "values"]
theorem sc_how_many_places : FnScope N_how_many_places ["names"] (defScope s_how_many_places) := ⟨rfl, rfl, rfl, by decide +kernel, rfl, by decide +kernel, by decide +kernel⟩
abbrev N_is_place : List Str := ["names", "value", "at", "_", "values"]
theorem sc_is_place : FnScope N_is_place ["names", "value"] (defScope s_is_place) := ⟨rfl, rfl, rfl, by decide +kernel, rfl, by decide +kernel, by decide +kernel⟩
abbrev N_are_voids : List Str := ["names", "value", "place"]
theorem sc_are_voids : FnScope N_are_voids ["names", "value"] (defScope s_are_voids) := ⟨rfl, rfl, rfl, by decide +kernel, rfl, by decide +kernel, by decide +kernel⟩
abbrev N_is_told_sum : List Str := ["names", "value", "at"]
theorem sc_is_told_sum : FnScope N_is_told_sum ["names", "value"] (defScope s_is_told_sum) := ⟨rfl, rfl, rfl, by decide +kernel, rfl, by decide +kernel, by decide +kernel⟩
abbrev N_are_told : List Str := ["names", "value", "told"]
theorem sc_are_told : FnScope N_are_told ["names", "value"] (defScope s_are_told) := ⟨rfl, rfl, rfl, by decide +kernel, rfl, by decide +kernel, by decide +kernel⟩
abbrev N_is_model : List Str := ["value", "word", "names", "voids", "told"]
theorem sc_is_model : FnScope N_is_model ["value"] (defScope s_is_model) := ⟨rfl, rfl, rfl, by decide +kernel, rfl, by decide +kernel, by decide +kernel⟩
abbrev N_check_model : List Str := ["value"]
theorem sc_check_model : FnScope N_check_model ["value"] (defScope s_check_model) := ⟨rfl, rfl, rfl, by decide +kernel, rfl, by decide +kernel, by decide +kernel⟩
abbrev N_names_of : List Str := ["model"]
theorem sc_names_of : FnScope N_names_of ["model"] (defScope s_names_of) := ⟨rfl, rfl, rfl, by decide +kernel, rfl, by decide +kernel, by decide +kernel⟩
abbrev N_are_tied : List Str := ["model", "one", "other", "told"]
theorem sc_are_tied : FnScope N_are_tied ["model", "one", "other"] (defScope s_are_tied) := ⟨rfl, rfl, rfl, by decide +kernel, rfl, by decide +kernel, by decide +kernel⟩
abbrev N_friends_of : List Str := ["model", "position", "other"]
theorem sc_friends_of : FnScope N_friends_of ["model", "position"] (defScope s_friends_of) := ⟨rfl, rfl, rfl, by decide +kernel, rfl, by decide +kernel, by decide +kernel⟩
abbrev N_is_close_lot : List Str := ["model", "names", "one", "other"]
theorem sc_is_close_lot : FnScope N_is_close_lot ["model", "names"] (defScope s_is_close_lot) := ⟨rfl, rfl, rfl, by decide +kernel, rfl, by decide +kernel, by decide +kernel⟩
abbrev N_web_of : List Str := ["model", "one", "other"]
theorem sc_web_of : FnScope N_web_of ["model"] (defScope s_web_of) := ⟨rfl, rfl, rfl, by decide +kernel, rfl, by decide +kernel, by decide +kernel⟩
abbrev N_friends : List Str := ["model", "position"]
theorem sc_friends : FnScope N_friends ["model", "position"] (defScope s_friends) := ⟨rfl, rfl, rfl, by decide +kernel, rfl, by decide +kernel, by decide +kernel⟩
abbrev N_is_close : List Str := ["model", "names", "name"]
theorem sc_is_close : FnScope N_is_close ["model", "names"] (defScope s_is_close) := ⟨rfl, rfl, rfl, by decide +kernel, rfl, by decide +kernel, by decide +kernel⟩
abbrev N_greatest_lots : List Str := ["model", "lots", "name", "names"]
theorem sc_greatest_lots : FnScope N_greatest_lots ["model"] (defScope s_greatest_lots) := ⟨rfl, rfl, rfl, by decide +kernel, rfl, by decide +kernel, by decide +kernel⟩
abbrev N_is_greatest : List Str := ["model", "names", "other"]
theorem sc_is_greatest : FnScope N_is_greatest ["model", "names"] (defScope s_is_greatest) := ⟨rfl, rfl, rfl, by decide +kernel, rfl, by decide +kernel, by decide +kernel⟩
abbrev N_greatest : List Str := ["model"]
theorem sc_greatest : FnScope N_greatest ["model"] (defScope s_greatest) := ⟨rfl, rfl, rfl, by decide +kernel, rfl, by decide +kernel, by decide +kernel⟩
abbrev N_is_fitted : List Str := ["model", "names"]
theorem sc_is_fitted : FnScope N_is_fitted ["model"] (defScope s_is_fitted) := ⟨rfl, rfl, rfl, by decide +kernel, rfl, by decide +kernel, by decide +kernel⟩
abbrev N_sequence_of : List Str := ["model", "left", "found", "firsts", "name"]
theorem sc_sequence_of : FnScope N_sequence_of ["model"] (defScope s_sequence_of) := ⟨rfl, rfl, rfl, by decide +kernel, rfl, by decide +kernel, by decide +kernel⟩
abbrev N_friends_among : List Str := ["model", "name", "names", "friend"]
theorem sc_friends_among : FnScope N_friends_among ["model", "name", "names"] (defScope s_friends_among) := ⟨rfl, rfl, rfl, by decide +kernel, rfl, by decide +kernel, by decide +kernel⟩
abbrev N_sequence : List Str := ["model"]
theorem sc_sequence : FnScope N_sequence ["model"] (defScope s_sequence) := ⟨rfl, rfl, rfl, by decide +kernel, rfl, by decide +kernel, by decide +kernel⟩
abbrev N_arrangements : List Str := ["names", "found", "at", "ahead", "name"]
theorem sc_arrangements : FnScope N_arrangements ["names"] (defScope s_arrangements) := ⟨rfl, rfl, rfl, by decide +kernel, rfl, by decide +kernel, by decide +kernel⟩
abbrev N_is_ring : List Str := ["model", "names", "many", "one", "other", "beside"]
theorem sc_is_ring : FnScope N_is_ring ["model", "names"] (defScope s_is_ring) := ⟨rfl, rfl, rfl, by decide +kernel, rfl, by decide +kernel, by decide +kernel⟩
abbrev N_hole : List Str := ["model", "names"]
theorem sc_hole : FnScope N_hole ["model"] (defScope s_hole) := ⟨rfl, rfl, rfl, by decide +kernel, rfl, by decide +kernel, by decide +kernel⟩
abbrev N_are_names_of : List Str := ["model", "value"]
theorem sc_are_names_of : FnScope N_are_names_of ["model", "value"] (defScope s_are_names_of) := ⟨rfl, rfl, rfl, by decide +kernel, rfl, by decide +kernel, by decide +kernel⟩
abbrev N_is_sequence : List Str := ["model", "value", "at", "name"]
theorem sc_is_sequence : FnScope N_is_sequence ["model", "value"] (defScope s_is_sequence) := ⟨rfl, rfl, rfl, by decide +kernel, rfl, by decide +kernel, by decide +kernel⟩
abbrev N_is_hole : List Str := ["model", "value"]
theorem sc_is_hole : FnScope N_is_hole ["model", "value"] (defScope s_is_hole) := ⟨rfl, rfl, rfl, by decide +kernel, rfl, by decide +kernel, by decide +kernel⟩
abbrev N__law_pot : List Str := ["_law_script", "_law_k", "_law_cell"]
theorem sc__law_pot : FnScope N__law_pot ["_law_script", "_law_k"] (defScope s__law_pot) := ⟨rfl, rfl, rfl, by decide +kernel, rfl, by decide +kernel, by decide +kernel⟩
abbrev N__law_draw : List Str := ["_law_pot_here", "_law_room", "_law_digit"]
theorem sc__law_draw : FnScope N__law_draw ["_law_pot_here", "_law_room"] (defScope s__law_draw) := ⟨rfl, rfl, rfl, by decide +kernel, rfl, by decide +kernel, by decide +kernel⟩
abbrev N__law_pick : List Str := ["_law_pot_here", "_law_some"]
theorem sc__law_pick : FnScope N__law_pick ["_law_pot_here", "_law_some"] (defScope s__law_pick) := ⟨rfl, rfl, rfl, by decide +kernel, rfl, by decide +kernel, by decide +kernel⟩
abbrev N__law_sizes : List Str := ["_law_pot_here", "_law_some"]
theorem sc__law_sizes : FnScope N__law_sizes ["_law_pot_here"] (defScope s__law_sizes) := ⟨rfl, rfl, rfl, by decide +kernel, rfl, by decide +kernel, by decide +kernel⟩
abbrev N__law_subsets : List Str := ["_law_many_here", "_law_found", "_law_at", "_law_one"]
theorem sc__law_subsets : FnScope N__law_subsets ["_law_many_here"] (defScope s__law_subsets) := ⟨rfl, rfl, rfl, by decide +kernel, rfl, by decide +kernel, by decide +kernel⟩
abbrev N__law_kept : List Str := ["_law_sizes_here", "_law_some", "_law_found", "_law_total", "_law_one", "_law_rows", "_law_at"]
theorem sc__law_kept : FnScope N__law_kept ["_law_sizes_here", "_law_some"] (defScope s__law_kept) := ⟨rfl, rfl, rfl, by decide +kernel, rfl, by decide +kernel, by decide +kernel⟩
abbrev N__law_told : List Str := ["_law_pot_here", "_law_sizes_here", "_law_way", "_law_some", "_law_many_here", "_law_told_here", "_law_one", "_law_at"]
theorem sc__law_told : FnScope N__law_told ["_law_pot_here", "_law_sizes_here"] (defScope s__law_told) := ⟨rfl, rfl, rfl, by decide +kernel, rfl, by decide +kernel, by decide +kernel⟩
abbrev N__law_model : List Str := ["_law_pot_here", "_law_sizes_here", "_law_names", "_law_at", "_law_size", "_law_one"]
theorem sc__law_model : FnScope N__law_model ["_law_pot_here"] (defScope s__law_model) := ⟨rfl, rfl, rfl, by decide +kernel, rfl, by decide +kernel, by decide +kernel⟩
abbrev N__law_many : List Str := ["_law_model_here"]
theorem sc__law_many : FnScope N__law_many ["_law_model_here"] (defScope s__law_many) := ⟨rfl, rfl, rfl, by decide +kernel, rfl, by decide +kernel, by decide +kernel⟩
abbrev N__law_are_tied : List Str := ["_law_model_here", "_law_one", "_law_other", "_law_told_here"]
theorem sc__law_are_tied : FnScope N__law_are_tied ["_law_model_here", "_law_one", "_law_other"] (defScope s__law_are_tied) := ⟨rfl, rfl, rfl, by decide +kernel, rfl, by decide +kernel, by decide +kernel⟩
abbrev N__law_is_close : List Str := ["_law_model_here", "_law_some", "_law_at", "_law_one", "_law_other"]
theorem sc__law_is_close : FnScope N__law_is_close ["_law_model_here", "_law_some"] (defScope s__law_is_close) := ⟨rfl, rfl, rfl, by decide +kernel, rfl, by decide +kernel, by decide +kernel⟩
abbrev N__law_greatest : List Str := ["_law_model_here", "_law_some", "_law_one", "_law_other", "_law_at"]
theorem sc__law_greatest : FnScope N__law_greatest ["_law_model_here"] (defScope s__law_greatest) := ⟨rfl, rfl, rfl, by decide +kernel, rfl, by decide +kernel, by decide +kernel⟩
abbrev N__law_is_fitted : List Str := ["_law_model_here", "_law_one"]
theorem sc__law_is_fitted : FnScope N__law_is_fitted ["_law_model_here"] (defScope s__law_is_fitted) := ⟨rfl, rfl, rfl, by decide +kernel, rfl, by decide +kernel, by decide +kernel⟩
abbrev N__law_orders : List Str := ["_law_many_here", "_law_found", "_law_turn", "_law_longer", "_law_row", "_law_at"]
theorem sc__law_orders : FnScope N__law_orders ["_law_many_here"] (defScope s__law_orders) := ⟨rfl, rfl, rfl, by decide +kernel, rfl, by decide +kernel, by decide +kernel⟩
abbrev N__law_is_sequence : List Str := ["_law_model_here", "_law_row", "_law_place", "_law_one", "_law_other"]
theorem sc__law_is_sequence : FnScope N__law_is_sequence ["_law_model_here", "_law_row"] (defScope s__law_is_sequence) := ⟨rfl, rfl, rfl, by decide +kernel, rfl, by decide +kernel, by decide +kernel⟩
abbrev N__law_sequence : List Str := ["_law_model_here", "_law_some", "_law_row"]
theorem sc__law_sequence : FnScope N__law_sequence ["_law_model_here"] (defScope s__law_sequence) := ⟨rfl, rfl, rfl, by decide +kernel, rfl, by decide +kernel, by decide +kernel⟩
abbrev N__law_is_hole : List Str := ["_law_model_here", "_law_row", "_law_many_here", "_law_at", "_law_spot", "_law_is_next"]
theorem sc__law_is_hole : FnScope N__law_is_hole ["_law_model_here", "_law_row"] (defScope s__law_is_hole) := ⟨rfl, rfl, rfl, by decide +kernel, rfl, by decide +kernel, by decide +kernel⟩
abbrev N__law_web_right : List Str := ["_law_pot_here", "_law_model_here", "_law_many_here", "_law_due", "_law_one", "_law_told_here", "_law_near", "_law_some", "_law_late", "_law_other"]
theorem sc__law_web_right : FnScope N__law_web_right ["_law_pot_here", "_law_model_here"] (defScope s__law_web_right) := ⟨rfl, rfl, rfl, by decide +kernel, rfl, by decide +kernel, by decide +kernel⟩
abbrev N__law_right : List Str := ["_law_pot_here", "_law_turn", "_law_model_here", "_law_due", "_law_row", "_law_ring"]
theorem sc__law_right : FnScope N__law_right ["_law_pot_here"] (defScope s__law_right) := ⟨rfl, rfl, rfl, by decide +kernel, rfl, by decide +kernel, by decide +kernel⟩
abbrev N_law : List Str := ["_law_script"]
theorem sc_law : FnScope N_law ["_law_script"] (defScope s_law) := ⟨rfl, rfl, rfl, by decide +kernel, rfl, by decide +kernel, by decide +kernel⟩
def rowWords : List Str := ["name", "void", "sum", "total"]
structure Tx (K : PySem.W.Frag) (mg : Str → Option Value) : Prop where
  isinstance : mg "isinstance" = none
  int : mg "int" = none
  bool : mg "bool" = none
  tuple : mg "tuple" = none
  len : mg "len" = none
  all : mg "all" = none
  any : mg "any" = none
  zip : mg "zip" = none
  abs : mg "abs" = none
  list : mg "list" = none
  repr : mg "repr" = none
  range : mg "range" = none
  max : mg "max" = none
  min : mg "min" = none
  divmod : mg "divmod" = none
  str : mg "str" = none
  sorted : mg "sorted" = none
  enumerate : mg "enumerate" = none
  set : mg "set" = none
  MOST_NAMES : ∃ t, mg "MOST_NAMES" = some (.int 4 t)
  MOST_VALUES : ∃ t, mg "MOST_VALUES" = some (.int 6 t)
  MOST_LETTERS : ∃ t, mg "MOST_LETTERS" = some (.int 8 t)
  MOST_PLACES : ∃ t, mg "MOST_PLACES" = some (.int 64 t)
  MOST_MODEL_CELLS : ∃ t, mg "MOST_MODEL_CELLS" = some (.int 16 t)
  MOST_TOLD : ∃ t, mg "MOST_TOLD" = some (.int 16 t)
  ROW_WORDS : ∃ a, mg "ROW_WORDS" = some (.ref a) ∧ ∀ H, SqT K H a (rowWords.map V.str)
  LEAST_HOLE : ∃ t, mg "LEAST_HOLE" = some (.int 4 t)
theorem hu61 {X : Cx} {k : Nat} (hr : Room k X.A) : X.A.units + 61 < cLine := by have := hr.un; omega
theorem hu64 {X : Cx} {k : Nat} (hr : Room k X.A) : X.A.units + 64 < cLine := by have := hr.un; omega
theorem hu65 {X : Cx} {k : Nat} (hr : Room k X.A) : X.A.units + 65 < cLine := by have := hr.un; omega
end K66
section
set_option maxHeartbeats 0
namespace K66
open PySem PySem.Spec PyProof.Rows L2
def d_is_integer : He.DefD := ⟨("is_integer", none), "is_integer", "is_integer", defArgs s_is_integer, defBody s_is_integer, defScope s_is_integer, [], []⟩
def d_is_count : He.DefD := ⟨("is_count", none), "is_count", "is_count", defArgs s_is_count, defBody s_is_count, defScope s_is_count, [], []⟩
def d_is_count_to : He.DefD := ⟨("is_count_to", none), "is_count_to", "is_count_to", defArgs s_is_count_to, defBody s_is_count_to, defScope s_is_count_to, [], []⟩
def d_are_counts : He.DefD := ⟨("are_counts", none), "are_counts", "are_counts", defArgs s_are_counts, defBody s_are_counts, defScope s_are_counts, [], []⟩
def d_is_listed : He.DefD := ⟨("is_listed", none), "is_listed", "is_listed", defArgs s_is_listed, defBody s_is_listed, defScope s_is_listed, [], []⟩
def d_is_rising : He.DefD := ⟨("is_rising", none), "is_rising", "is_rising", defArgs s_is_rising, defBody s_is_rising, defScope s_is_rising, [], []⟩
def d_is_small_letter : He.DefD := ⟨("is_small_letter", none), "is_small_letter", "is_small_letter", defArgs s_is_small_letter, defBody s_is_small_letter, defScope s_is_small_letter, [], []⟩
def d_is_digit : He.DefD := ⟨("is_digit", none), "is_digit", "is_digit", defArgs s_is_digit, defBody s_is_digit, defScope s_is_digit, [], []⟩
def d_is_of_word : He.DefD := ⟨("is_of_word", none), "is_of_word", "is_of_word", defArgs s_is_of_word, defBody s_is_of_word, defScope s_is_of_word, [], []⟩
def d_is_value_word : He.DefD := ⟨("is_value_word", none), "is_value_word", "is_value_word", defArgs s_is_value_word, defBody s_is_value_word, defScope s_is_value_word, [], []⟩
def d_is_name_word : He.DefD := ⟨("is_name_word", none), "is_name_word", "is_name_word", defArgs s_is_name_word, defBody s_is_name_word, defScope s_is_name_word, [], []⟩
def d_are_unlike : He.DefD := ⟨("are_unlike", none), "are_unlike", "are_unlike", defArgs s_are_unlike, defBody s_are_unlike, defScope s_are_unlike, [], []⟩
def d_is_name : He.DefD := ⟨("is_name", none), "is_name", "is_name", defArgs s_is_name, defBody s_is_name, defScope s_is_name, [], []⟩
def d_are_names : He.DefD := ⟨("are_names", none), "are_names", "are_names", defArgs s_are_names, defBody s_are_names, defScope s_are_names, [], []⟩
def d_how_many_places : He.DefD := ⟨("how_many_places", none), "how_many_places", "how_many_places", defArgs s_how_many_places, defBody s_how_many_places, defScope s_how_many_places, [], []⟩
def d_is_place : He.DefD := ⟨("is_place", none), "is_place", "is_place", defArgs s_is_place, defBody s_is_place, defScope s_is_place, [], []⟩
def d_are_voids : He.DefD := ⟨("are_voids", none), "are_voids", "are_voids", defArgs s_are_voids, defBody s_are_voids, defScope s_are_voids, [], []⟩
def d_is_told_sum : He.DefD := ⟨("is_told_sum", none), "is_told_sum", "is_told_sum", defArgs s_is_told_sum, defBody s_is_told_sum, defScope s_is_told_sum, [], []⟩
def d_are_told : He.DefD := ⟨("are_told", none), "are_told", "are_told", defArgs s_are_told, defBody s_are_told, defScope s_are_told, [], []⟩
def d_is_model : He.DefD := ⟨("is_model", none), "is_model", "is_model", defArgs s_is_model, defBody s_is_model, defScope s_is_model, [], []⟩
def d_check_model : He.DefD := ⟨("check_model", none), "check_model", "check_model", defArgs s_check_model, defBody s_check_model, defScope s_check_model, [], []⟩
def d_names_of : He.DefD := ⟨("names_of", none), "names_of", "names_of", defArgs s_names_of, defBody s_names_of, defScope s_names_of, [], []⟩
def d_are_tied : He.DefD := ⟨("are_tied", none), "are_tied", "are_tied", defArgs s_are_tied, defBody s_are_tied, defScope s_are_tied, [], []⟩
def d_friends_of : He.DefD := ⟨("friends_of", none), "friends_of", "friends_of", defArgs s_friends_of, defBody s_friends_of, defScope s_friends_of, [], []⟩
def d_is_close_lot : He.DefD := ⟨("is_close_lot", none), "is_close_lot", "is_close_lot", defArgs s_is_close_lot, defBody s_is_close_lot, defScope s_is_close_lot, [], []⟩
def d_web_of : He.DefD := ⟨("web_of", none), "web_of", "web_of", defArgs s_web_of, defBody s_web_of, defScope s_web_of, [], []⟩
def d_friends : He.DefD := ⟨("friends", none), "friends", "friends", defArgs s_friends, defBody s_friends, defScope s_friends, [], []⟩
def d_is_close : He.DefD := ⟨("is_close", none), "is_close", "is_close", defArgs s_is_close, defBody s_is_close, defScope s_is_close, [], []⟩
def d_greatest_lots : He.DefD := ⟨("greatest_lots", none), "greatest_lots", "greatest_lots", defArgs s_greatest_lots, defBody s_greatest_lots, defScope s_greatest_lots, [], []⟩
def d_is_greatest : He.DefD := ⟨("is_greatest", none), "is_greatest", "is_greatest", defArgs s_is_greatest, defBody s_is_greatest, defScope s_is_greatest, [], []⟩
def d_greatest : He.DefD := ⟨("greatest", none), "greatest", "greatest", defArgs s_greatest, defBody s_greatest, defScope s_greatest, [], []⟩
def d_is_fitted : He.DefD := ⟨("is_fitted", none), "is_fitted", "is_fitted", defArgs s_is_fitted, defBody s_is_fitted, defScope s_is_fitted, [], []⟩
def d_sequence_of : He.DefD := ⟨("sequence_of", none), "sequence_of", "sequence_of", defArgs s_sequence_of, defBody s_sequence_of, defScope s_sequence_of, [], []⟩
def d_friends_among : He.DefD := ⟨("friends_among", none), "friends_among", "friends_among", defArgs s_friends_among, defBody s_friends_among, defScope s_friends_among, [], []⟩
def d_sequence : He.DefD := ⟨("sequence", none), "sequence", "sequence", defArgs s_sequence, defBody s_sequence, defScope s_sequence, [], []⟩
def d_arrangements : He.DefD := ⟨("arrangements", none), "arrangements", "arrangements", defArgs s_arrangements, defBody s_arrangements, defScope s_arrangements, [], []⟩
def d_is_ring : He.DefD := ⟨("is_ring", none), "is_ring", "is_ring", defArgs s_is_ring, defBody s_is_ring, defScope s_is_ring, [], []⟩
def d_hole : He.DefD := ⟨("hole", none), "hole", "hole", defArgs s_hole, defBody s_hole, defScope s_hole, [], []⟩
def d_are_names_of : He.DefD := ⟨("are_names_of", none), "are_names_of", "are_names_of", defArgs s_are_names_of, defBody s_are_names_of, defScope s_are_names_of, [], []⟩
def d_is_sequence : He.DefD := ⟨("is_sequence", none), "is_sequence", "is_sequence", defArgs s_is_sequence, defBody s_is_sequence, defScope s_is_sequence, [], []⟩
def d_is_hole : He.DefD := ⟨("is_hole", none), "is_hole", "is_hole", defArgs s_is_hole, defBody s_is_hole, defScope s_is_hole, [], []⟩
def d__law_pot : He.DefD := ⟨("_law_pot", none), "_law_pot", "_law_pot", defArgs s__law_pot, defBody s__law_pot, defScope s__law_pot, [], []⟩
def d__law_draw : He.DefD := ⟨("_law_draw", none), "_law_draw", "_law_draw", defArgs s__law_draw, defBody s__law_draw, defScope s__law_draw, [], []⟩
def d__law_pick : He.DefD := ⟨("_law_pick", none), "_law_pick", "_law_pick", defArgs s__law_pick, defBody s__law_pick, defScope s__law_pick, [], []⟩
def d__law_sizes : He.DefD := ⟨("_law_sizes", none), "_law_sizes", "_law_sizes", defArgs s__law_sizes, defBody s__law_sizes, defScope s__law_sizes, [], []⟩
def d__law_subsets : He.DefD := ⟨("_law_subsets", none), "_law_subsets", "_law_subsets", defArgs s__law_subsets, defBody s__law_subsets, defScope s__law_subsets, [], []⟩
def d__law_kept : He.DefD := ⟨("_law_kept", none), "_law_kept", "_law_kept", defArgs s__law_kept, defBody s__law_kept, defScope s__law_kept, [], []⟩
def d__law_told : He.DefD := ⟨("_law_told", none), "_law_told", "_law_told", defArgs s__law_told, defBody s__law_told, defScope s__law_told, [], []⟩
def d__law_model : He.DefD := ⟨("_law_model", none), "_law_model", "_law_model", defArgs s__law_model, defBody s__law_model, defScope s__law_model, [], []⟩
def d__law_many : He.DefD := ⟨("_law_many", none), "_law_many", "_law_many", defArgs s__law_many, defBody s__law_many, defScope s__law_many, [], []⟩
def d__law_are_tied : He.DefD := ⟨("_law_are_tied", none), "_law_are_tied", "_law_are_tied", defArgs s__law_are_tied, defBody s__law_are_tied, defScope s__law_are_tied, [], []⟩
def d__law_is_close : He.DefD := ⟨("_law_is_close", none), "_law_is_close", "_law_is_close", defArgs s__law_is_close, defBody s__law_is_close, defScope s__law_is_close, [], []⟩
def d__law_greatest : He.DefD := ⟨("_law_greatest", none), "_law_greatest", "_law_greatest", defArgs s__law_greatest, defBody s__law_greatest, defScope s__law_greatest, [], []⟩
def d__law_is_fitted : He.DefD := ⟨("_law_is_fitted", none), "_law_is_fitted", "_law_is_fitted", defArgs s__law_is_fitted, defBody s__law_is_fitted, defScope s__law_is_fitted, [], []⟩
def d__law_orders : He.DefD := ⟨("_law_orders", none), "_law_orders", "_law_orders", defArgs s__law_orders, defBody s__law_orders, defScope s__law_orders, [], []⟩
def d__law_is_sequence : He.DefD := ⟨("_law_is_sequence", none), "_law_is_sequence", "_law_is_sequence", defArgs s__law_is_sequence, defBody s__law_is_sequence, defScope s__law_is_sequence, [], []⟩
def d__law_sequence : He.DefD := ⟨("_law_sequence", none), "_law_sequence", "_law_sequence", defArgs s__law_sequence, defBody s__law_sequence, defScope s__law_sequence, [], []⟩
def d__law_is_hole : He.DefD := ⟨("_law_is_hole", none), "_law_is_hole", "_law_is_hole", defArgs s__law_is_hole, defBody s__law_is_hole, defScope s__law_is_hole, [], []⟩
def d__law_web_right : He.DefD := ⟨("_law_web_right", none), "_law_web_right", "_law_web_right", defArgs s__law_web_right, defBody s__law_web_right, defScope s__law_web_right, [], []⟩
def d__law_right : He.DefD := ⟨("_law_right", none), "_law_right", "_law_right", defArgs s__law_right, defBody s__law_right, defScope s__law_right, [], []⟩
def d_law : He.DefD := ⟨("law", none), "law", "law", defArgs s_law, defBody s_law, defScope s_law, [], []⟩
def fn : List He.DefD := [d_is_integer, d_is_count, d_is_count_to, d_are_counts, d_is_listed, d_is_rising, d_is_small_letter, d_is_digit, d_is_of_word, d_is_value_word, d_is_name_word, d_are_unlike, d_is_name, d_are_names, d_how_many_places, d_is_place, d_are_voids, d_is_told_sum, d_are_told, d_is_model, d_check_model, d_names_of, d_are_tied, d_friends_of, d_is_close_lot, d_web_of, d_friends, d_is_close, d_greatest_lots, d_is_greatest, d_greatest, d_is_fitted, d_sequence_of, d_friends_among, d_sequence, d_arrangements, d_is_ring, d_hole, d_are_names_of, d_is_sequence, d_is_hole, d__law_pot, d__law_draw, d__law_pick, d__law_sizes, d__law_subsets, d__law_kept, d__law_told, d__law_model, d__law_many, d__law_are_tied, d__law_is_close, d__law_greatest, d__law_is_fitted, d__law_orders, d__law_is_sequence, d__law_sequence, d__law_is_hole, d__law_web_right, d__law_right, d_law]
def fa : List He.Fa := [.glo "is_integer", .glo "is_count", .glo "is_count_to", .glo "are_counts", .glo "is_listed", .glo "is_rising", .glo "is_small_letter", .glo "is_digit", .glo "is_of_word", .glo "is_value_word", .glo "is_name_word", .glo "are_unlike", .glo "is_name", .glo "are_names", .glo "how_many_places", .glo "is_place", .glo "are_voids", .glo "is_told_sum", .glo "are_told", .glo "is_model", .glo "check_model", .glo "names_of", .glo "are_tied", .glo "friends_of", .glo "is_close_lot", .glo "web_of", .glo "friends", .glo "is_close", .glo "greatest_lots", .glo "is_greatest", .glo "greatest", .glo "is_fitted", .glo "sequence_of", .glo "friends_among", .glo "sequence", .glo "arrangements", .glo "is_ring", .glo "hole", .glo "are_names_of", .glo "is_sequence", .glo "is_hole", .glo "_law_pot", .glo "_law_draw", .glo "_law_pick", .glo "_law_sizes", .glo "_law_subsets", .glo "_law_kept", .glo "_law_told", .glo "_law_model", .glo "_law_many", .glo "_law_are_tied", .glo "_law_is_close", .glo "_law_greatest", .glo "_law_is_fitted", .glo "_law_orders", .glo "_law_is_sequence", .glo "_law_sequence", .glo "_law_is_hole", .glo "_law_web_right", .glo "_law_right", .glo "law", .free "isinstance", .free "int", .free "bool", .free "tuple", .free "len", .free "all", .free "any", .free "zip", .free "abs", .free "list", .free "repr", .free "range", .free "max", .free "min", .free "divmod", .free "str", .free "sorted", .free "enumerate", .free "set", .int "MOST_NAMES" 4, .int "MOST_VALUES" 6, .int "MOST_LETTERS" 8, .int "MOST_PLACES" 64, .int "MOST_MODEL_CELLS" 16, .int "MOST_TOLD" 16, .int "LEAST_HOLE" 4]
def ex : PySem.W.Frag → Bool := FwWd.tupB "ROW_WORDS" rowWords
abbrev R : PySem.W.OpenRow := PySem.W.OpenLaw.row PySem.Challenge.rw_sumroads_k66_whole_ties_sequences_holes
abbrev hk : PySem.W.Hook := FwH.hookE 4 fa fn ex
def ob (s : PySem.W.SharedT) : He.AlD × Bool := FwH.obsE 4 fa fn ex (HandSHeadRun.getT s)
theorem ob_eq (s : PySem.W.SharedT) : ob s = hk.obs s.abs := FwH.obsE_eq (HandSHeadRun.getT_eq s)
def loose : List Str := [("is_integer" : Str), ("is_count" : Str), ("is_count_to" : Str), ("are_counts" : Str), ("is_listed" : Str), ("is_rising" : Str), ("TableError" : Str), ("InvalidModel" : Str), ("InvalidPosition" : Str), ("InvalidNames" : Str), ("is_small_letter" : Str), ("is_digit" : Str), ("is_of_word" : Str), ("MOST_NAMES" : Str), ("MOST_VALUES" : Str), ("MOST_LETTERS" : Str), ("MOST_PLACES" : Str), ("MOST_MODEL_CELLS" : Str), ("MOST_TOLD" : Str), ("ROW_WORDS" : Str), ("is_value_word" : Str), ("is_name_word" : Str), ("are_unlike" : Str), ("is_name" : Str), ("are_names" : Str), ("how_many_places" : Str), ("is_place" : Str), ("are_voids" : Str), ("is_told_sum" : Str), ("are_told" : Str), ("is_model" : Str), ("check_model" : Str), ("names_of" : Str), ("are_tied" : Str), ("friends_of" : Str), ("is_close_lot" : Str), ("web_of" : Str), ("friends" : Str), ("is_close" : Str), ("greatest_lots" : Str), ("is_greatest" : Str), ("greatest" : Str), ("is_fitted" : Str), ("LEAST_HOLE" : Str), ("sequence_of" : Str), ("friends_among" : Str), ("sequence" : Str), ("arrangements" : Str), ("is_ring" : Str), ("hole" : Str), ("are_names_of" : Str), ("is_sequence" : Str), ("is_hole" : Str), ("_law_pot" : Str), ("_law_draw" : Str), ("_law_pick" : Str), ("_law_sizes" : Str), ("_law_subsets" : Str), ("_law_kept" : Str), ("_law_told" : Str), ("_law_model" : Str), ("_law_many" : Str), ("_law_are_tied" : Str), ("_law_is_close" : Str), ("_law_greatest" : Str), ("_law_is_fitted" : Str), ("_law_orders" : Str), ("_law_is_sequence" : Str), ("_law_sequence" : Str), ("_law_is_hole" : Str), ("_law_web_right" : Str), ("_law_right" : Str)]
theorem run (w : World) : HandSHeadRun.RunEqI R (PySem.W.view R.prog [79]) hk ob 4000 loose w := by
  delta HandSHeadRun.RunEqI
  kernel_rfl
end K66
end
/-! graphs of at most four names -/
namespace K66
abbrev Gr := List (List Bool)
def tM (M : Gr) (a b : Int) : Bool := ((M[a.toNat]?.getD [])[b.toNat]?).getD false
def tied (tl : List (List Int)) (a b : Int) : Bool := decide (a ≠ b) && tl.any fun t => t.contains a && t.contains b
def mat (n : Nat) (tl : List (List Int)) : Gr := (List.range n).map fun i => (List.range n).map fun j => tied tl (i : Nat) (j : Nat)
def nn (n : Nat) : List Int := (List.range n).map fun i => ((i : Nat) : Int)
def fr (M : Gr) (n : Nat) (p : Int) : List Int := (nn n).filter fun o => tM M p o
def closeB (M : Gr) (ns : List Int) : Bool := ns.all fun a => ns.all fun b => decide (a = b) || tM M a b
def webP (M : Gr) (n : Nat) : List (List Int) := (nn n).flatMap fun a => ((fr M n a).filter fun b => decide (a < b)).map fun b => [a, b]
def insR (x : List Int) : List (List Int) → List (List Int)
  | [] => [x]
  | y :: ys => if x < y then x :: y :: ys else y :: insR x ys
def isort : List (List Int) → List (List Int)
  | [] => []
  | x :: xs => insR x (isort xs)
def lotsStep (M : Gr) (ls : List (List Int)) (x : Int) : List (List Int) := ls ++ (ls.filter fun ns => closeB M (ns ++ [x])).map fun ns => ns ++ [x]
def lotsU (M : Gr) (n : Nat) : List (List Int) := (nn n).foldl (lotsStep M) [[]]
def isGr (M : Gr) (n : Nat) (ns : List Int) : Bool := !((nn n).filter fun o => !ns.contains o).any fun o => closeB M (ns ++ [o])
def greatP (M : Gr) (n : Nat) : List (List Int) := isort ((lotsU M n).filter fun ns => !ns.isEmpty && isGr M n ns)
def frA (M : Gr) (n : Nat) (p : Int) (ns : List Int) : List Int := (fr M n p).filter fun f => ns.contains f
def seqL (M : Gr) (n : Nat) : Nat → List Int → List Int → Option (List Int)
  | 0, _, found => some found
  | k + 1, left, found => if left = [] then some found else match left.filter (fun x => closeB M (frA M n x left)) with
    | [] => none
    | f :: _ => seqL M n k (left.filter fun x => decide (x ≠ f)) (found ++ [f])
def seqP (M : Gr) (n : Nat) : Option (List Int) := seqL M n (n + 1) (nn n) []
def arrIt (ns : List Int) : Nat → List (List Int)
  | 0 => [[]]
  | k + 1 => match (arrIt ns k)[k]? with
    | some a => arrIt ns k ++ (ns.filter fun x => !a.contains x).map fun x => a ++ [x]
    | none => arrIt ns k
def arrN : Nat → Nat
  | 0 => 1
  | 1 => 2
  | 2 => 5
  | 3 => 16
  | _ => 65
def at_ (ns : List Int) (i : Nat) : Int := (ns[i]?).getD 0
def ringB (M : Gr) (ns : List Int) : Bool := decide (4 ≤ ns.length) && (List.range ns.length).all fun i => (List.range i).all fun j => tM M (at_ ns i) (at_ ns j) == (decide (i = j + 1) || decide (i = j + (ns.length - 1)))
def holeP (M : Gr) (n : Nat) : Option (List Int) := (arrIt (nn n) (arrN n)).find? (ringB M)
def isSeq (M : Gr) (n : Nat) (ns : List Int) : Bool := (List.range ns.length).all fun i => closeB M (frA M n (at_ ns i) (ns.drop i))
/-! the law's own -/
def subU (n : Nat) : List (List Int) := (nn n).foldl (fun f a => f ++ f.map fun o => o ++ [a]) [[]]
def subS : Nat → List (List Int)
  | n => isort (subU n)
def closeO (M : Gr) (ns : List Int) : Bool := (List.range ns.length).all fun i => (ns.drop (i + 1)).all fun o => tM M (at_ ns i) o
def greatO (M : Gr) (n : Nat) : List (List Int) := (((subS n).drop 1).filter (closeO M)).filter fun a => !((((subS n).drop 1).filter (closeO M)).any fun o => decide (a ≠ o) && a.all fun x => o.contains x)
def ordStep (n : Nat) (f : List (List Int)) : List (List Int) := f.flatMap fun r => ((nn n).filter fun a => !r.contains a).map fun a => r ++ [a]
def ordO (n : Nat) : Nat → List (List Int)
  | 0 => [[]]
  | k + 1 => ordStep n (ordO n k)
def isSeqO (M : Gr) (ns : List Int) : Bool := (List.range ns.length).all fun i => closeO M ((ns.drop (i + 1)).filter fun o => tM M (at_ ns i) o)
def minR (x : List Int) (xs : List (List Int)) : List Int := xs.foldl (fun a y => if y < a then y else a) x
def seqO (M : Gr) (n : Nat) : Option (List Int) := match (ordO n n).filter (isSeqO M) with
  | [] => none
  | x :: xs => some (minR x xs)
def isHoleO (M : Gr) (ns : List Int) : Bool := decide (4 ≤ ns.length) && (List.range ns.length).all fun i => (List.range (ns.length - (i + 1))).all fun j => tM M (at_ ns i) (at_ ns (i + 1 + j)) == (decide (j = 0) || (decide (i = 0) && decide (i + 1 + j = ns.length - 1)))
def webO (M : Gr) (n : Nat) : List (List Int) := (nn n).flatMap fun a => ((nn n).filter fun b => decide (a < b) && tM M a b).map fun b => [a, b]
/-- all that is the same of one graph -/
def same (M : Gr) (n : Nat) : Bool := decide (webP M n = webO M n) && (decide (greatP M n = greatO M n) && (decide (seqP M n = seqO M n) && (decide ((holeP M n).isNone = (seqP M n).isSome) &&
  ((match seqP M n with | some s => isSeq M n s && decide (s.length = n) && decide s.Nodup && s.all fun x => decide (0 ≤ x) && decide (x < n) | none => true) &&
  ((match holeP M n with | some r => isHoleO M r && (ringB M r && (decide r.Nodup && r.all fun x => decide (0 ≤ x) && decide (x < n))) | none => true) &&
  (subS n).all fun ns => decide (closeB M ns = closeO M ns) && decide (closeB M ns.reverse = closeO M ns))))))
theorem gSame1 : same [[false]] 1 = true := by decide +kernel
theorem gSame2 : ∀ a : Bool, same [[false, a], [a, false]] 2 = true := by decide +kernel
theorem gSame3 : ∀ a b c : Bool, same [[false, a, b], [a, false, c], [b, c, false]] 3 = true := by decide +kernel
theorem gSame4 : ∀ a b c d e f : Bool, same [[false, a, b, c], [a, false, d, e], [b, d, false, f], [c, e, f, false]] 4 = true := by decide +kernel
end K66
namespace K66
open PySem PySem.Spec PyProof.Rows L2 Evl Fw FwS FwD FwK
def smallB (c : Nat) : Bool := decide (97 ≤ c) && decide (c ≤ 122)
def digB (c : Nat) : Bool := decide (48 ≤ c) && decide (c ≤ 57)
def ofB (c : Nat) : Bool := smallB c || digB c
structure WordOk (w : Str) : Prop where
  one : 1 ≤ w.length
  most : w.length ≤ 8
  all : ∀ c ∈ w.cps.toList, ofB c = true
structure NameOk (w : Str) : Prop where
  word : WordOk w
  first : ∃ c, w.cps.toList[0]? = some c ∧ smallB c = true
  no : w ∉ rowWords
abbrev strT (ws : List Str) : PyData := .tuple (ws.map .str)
abbrev nameD (p : Str × List Str) : PyData := .tuple [.str p.1, strT p.2]
abbrev namesD (nm : List (Str × List Str)) : PyData := .tuple (nm.map nameD)
abbrev rowsT (tl : List (List Int)) : PyData := .tuple (tl.map fun m => tupI m)
abbrev rowsL (tl : List (List Int)) : PyData := .list (tl.map fun m => tupI m)
abbrev listI (ns : List Int) : PyData := .list (ns.map .int)
abbrev modelD (nm : List (Str × List Str)) (tl : List (List Int)) : PyData := .tuple [.str "model", namesD nm, .tuple [], rowsT tl]
def prodN (nm : List (Str × List Str)) : Nat := nm.foldl (fun m p => m * p.2.length) 1
abbrev InR (n : Nat) (a : Int) : Prop := 0 ≤ a ∧ a < n
def okRow (n : Nat) (t : List Int) : Prop := t.Pairwise (· < ·) ∧ ∀ c ∈ t, InR n c
structure IsMod (nm : List (Str × List Str)) (tl : List (List Int)) (n : Nat) : Prop where
  len : nm.length = n
  one : 1 ≤ n
  four : n ≤ 4
  ok : ∀ p ∈ nm, NameOk p.1 ∧ 1 ≤ p.2.length ∧ p.2.length ≤ 6 ∧ (∀ w ∈ p.2, WordOk w) ∧ p.2.Nodup
  nodup : (nm.map (·.1)).Nodup
  size : prodN nm ≤ 16
  t1 : 1 ≤ tl.length
  t16 : tl.length ≤ 16
  asc : ∀ t ∈ tl, okRow n t
  tnd : tl.Nodup
def optD : Option (List Int) → PyData
  | none => .none
  | some s => tupI s
def fitP (M : Gr) (n : Nat) (tl : List (List Int)) : Bool := (greatP M n).all fun g => tl.contains g
def fitO (M : Gr) (n : Nat) (tl : List (List Int)) : Bool := (greatO M n).all fun g => tl.contains g
def menu : List (List Int) := [[2, 2], [3, 2], [2, 2, 2], [2, 1, 2], [3, 3], [2, 2, 3], [1, 3], [2, 2, 2, 2], [2, 2, 1, 3], [4, 2], [3], [2, 2, 2, 1]]
abbrev Pre := List PyData → (PyData → Prop) → Prop
abbrev PreN := List PyData → (List PyData → Prop) → Prop
abbrev pre_is_integer : Pre := fun ds Φ => ∃ i : Int, ds = [.int i] ∧ Φ (.bool true)
abbrev pre_is_count : Pre := fun ds Φ => ∃ i : Int, ds = [.int i] ∧ 0 ≤ i ∧ Φ (.bool true)
abbrev pre_is_count_to : Pre := fun ds Φ => ∃ i m : Int, ds = [.int i, .int m] ∧ 0 ≤ i ∧ i ≤ m ∧ Φ (.bool true)
abbrev pre_are_counts : Pre := fun ds Φ => ∃ (ns : List Int) (n : Nat) (m : Int), ds = [tupI ns, .int n, .int m] ∧ ns.length = n ∧ n ≤ 1000 ∧ (∀ c ∈ ns, 0 ≤ c ∧ c ≤ m) ∧ Φ (.bool true)
abbrev pre_is_listed : Pre := fun ds Φ => ∃ xs, (ds = [.list xs] ∨ ds = [.tuple xs]) ∧ Φ (.bool true)
abbrev pre_is_rising : Pre := fun ds Φ => ∃ ns : List Int, ds = [tupI ns] ∧ ns.length ≤ 1000 ∧ ns.Pairwise (· < ·) ∧ Φ (.bool true)
abbrev pre_is_small_letter : Pre := fun ds Φ => ∃ c : Nat, ds = [.str ⟨#[c]⟩] ∧ Φ (.bool (smallB c))
abbrev pre_is_digit : Pre := fun ds Φ => ∃ c : Nat, ds = [.str ⟨#[c]⟩] ∧ Φ (.bool (digB c))
abbrev pre_is_of_word : Pre := fun ds Φ => ∃ c : Nat, ds = [.str ⟨#[c]⟩] ∧ Φ (.bool (ofB c))
abbrev pre_is_value_word : Pre := fun ds Φ => ∃ w, ds = [.str w] ∧ WordOk w ∧ Φ (.bool true)
abbrev pre_is_name_word : Pre := fun ds Φ => ∃ w, ds = [.str w] ∧ NameOk w ∧ Φ (.bool true)
abbrev pre_are_unlike : Pre := fun ds Φ => (∃ ks : List L2.Key, (ds = [.list (ks.map keyD)] ∨ ds = [.tuple (ks.map keyD)]) ∧ ks.length ≤ 1000 ∧ ks.Nodup ∧ Φ (.bool true)) ∨ ∃ tl, ds = [rowsT tl] ∧ tl.length ≤ 1000 ∧ tl.Nodup ∧ Φ (.bool true)
abbrev pre_is_name : Pre := fun ds Φ => ∃ p, ds = [nameD p] ∧ (NameOk p.1 ∧ 1 ≤ p.2.length ∧ p.2.length ≤ 6 ∧ (∀ w ∈ p.2, WordOk w) ∧ p.2.Nodup) ∧ Φ (.bool true)
abbrev pre_are_names : Pre := fun ds Φ => ∃ nm tl n, ds = [namesD nm] ∧ IsMod nm tl n ∧ Φ (.bool true)
abbrev pre_how_many_places : Pre := fun ds Φ => ∃ nm tl n, ds = [namesD nm] ∧ IsMod nm tl n ∧ Φ (.int (prodN nm))
abbrev pre_is_place : Pre := fun ds _ => ∃ a b, ds = [a, b] ∧ False
abbrev pre_are_voids : Pre := fun ds Φ => ∃ nm tl n, ds = [namesD nm, .tuple []] ∧ IsMod nm tl n ∧ Φ (.bool true)
abbrev pre_is_told_sum : Pre := fun ds Φ => ∃ nm tl n t, ds = [namesD nm, tupI t] ∧ IsMod nm tl n ∧ t ∈ tl ∧ Φ (.bool true)
abbrev pre_are_told : Pre := fun ds Φ => ∃ nm tl n, ds = [namesD nm, rowsT tl] ∧ IsMod nm tl n ∧ Φ (.bool true)
abbrev pre_is_model : Pre := fun ds Φ => ∃ nm tl n, ds = [modelD nm tl] ∧ IsMod nm tl n ∧ Φ (.bool true)
abbrev pre_check_model : Pre := fun ds Φ => ∃ nm tl n, ds = [modelD nm tl] ∧ IsMod nm tl n ∧ Φ .none
abbrev pre_names_of : Pre := fun ds Φ => ∃ nm tl n, ds = [modelD nm tl] ∧ IsMod nm tl n ∧ Φ (listI (nn n))
abbrev pre_are_tied : Pre := fun ds Φ => ∃ nm tl n a b, ds = [modelD nm tl, .int a, .int b] ∧ IsMod nm tl n ∧ InR n a ∧ InR n b ∧ Φ (.bool (tM (mat n tl) a b))
abbrev pre_friends_of : Pre := fun ds Φ => ∃ nm tl n a, ds = [modelD nm tl, .int a] ∧ IsMod nm tl n ∧ InR n a ∧ Φ (listI (fr (mat n tl) n a))
abbrev pre_is_close_lot : Pre := fun ds Φ => ∃ nm tl n x ns, ds = [modelD nm tl, x] ∧ (x = listI ns ∨ x = tupI ns) ∧ IsMod nm tl n ∧ ns.length ≤ 100 ∧ (∀ c ∈ ns, InR n c) ∧ Φ (.bool (closeB (mat n tl) ns))
abbrev pre_web_of : PreN := fun ds Φ => ∃ nm tl n, ds = [modelD nm tl] ∧ IsMod nm tl n ∧ Φ ((webP (mat n tl) n).map fun m => tupI m)
abbrev pre_friends : Pre := pre_friends_of
abbrev pre_is_close : Pre := fun ds Φ => ∃ nm tl n x ns, ds = [modelD nm tl, x] ∧ (x = listI ns ∨ x = tupI ns) ∧ IsMod nm tl n ∧ ns.length ≤ 100 ∧ ns.Nodup ∧ (∀ c ∈ ns, InR n c) ∧ Φ (.bool (closeB (mat n tl) ns))
abbrev pre_greatest_lots : Pre := fun ds Φ => ∃ nm tl n, ds = [modelD nm tl] ∧ IsMod nm tl n ∧ Φ (rowsL (greatP (mat n tl) n))
abbrev pre_is_greatest : Pre := fun ds Φ => ∃ nm tl n ns, ds = [modelD nm tl, tupI ns] ∧ IsMod nm tl n ∧ ns.length ≤ 90 ∧ (∀ c ∈ ns, InR n c) ∧ Φ (.bool (isGr (mat n tl) n ns))
abbrev pre_greatest : Pre := pre_greatest_lots
abbrev pre_is_fitted : Pre := fun ds Φ => ∃ nm tl n, ds = [modelD nm tl] ∧ IsMod nm tl n ∧ Φ (.bool (fitP (mat n tl) n tl))
abbrev pre_sequence_of : Pre := fun ds Φ => ∃ nm tl n, ds = [modelD nm tl] ∧ IsMod nm tl n ∧ Φ (optD (seqP (mat n tl) n))
abbrev pre_friends_among : Pre := fun ds Φ => ∃ nm tl n a x ns, ds = [modelD nm tl, .int a, x] ∧ (x = listI ns ∨ x = tupI ns) ∧ IsMod nm tl n ∧ InR n a ∧ Φ (listI (frA (mat n tl) n a ns))
abbrev pre_sequence : Pre := pre_sequence_of
abbrev pre_arrangements : Pre := fun ds Φ => ∃ n : Nat, ds = [listI (nn n)] ∧ 1 ≤ n ∧ n ≤ 4 ∧ Φ (rowsL (arrIt (nn n) (arrN n)))
abbrev pre_is_ring : Pre := fun ds Φ => ∃ nm tl n ns, ds = [modelD nm tl, tupI ns] ∧ IsMod nm tl n ∧ ns.length ≤ 4 ∧ (∀ c ∈ ns, InR n c) ∧ Φ (.bool (ringB (mat n tl) ns))
abbrev pre_hole : Pre := fun ds Φ => ∃ nm tl n, ds = [modelD nm tl] ∧ IsMod nm tl n ∧ Φ (optD (holeP (mat n tl) n))
abbrev pre_are_names_of : Pre := fun ds Φ => ∃ nm tl n ns, ds = [modelD nm tl, tupI ns] ∧ IsMod nm tl n ∧ ns.length ≤ 4 ∧ ns.Nodup ∧ (∀ c ∈ ns, InR n c) ∧ Φ (.bool true)
abbrev pre_is_sequence : Pre := fun ds Φ => ∃ nm tl n ns, ds = [modelD nm tl, tupI ns] ∧ IsMod nm tl n ∧ ns.length = n ∧ ns.Nodup ∧ (∀ c ∈ ns, InR n c) ∧ Φ (.bool (isSeq (mat n tl) n ns))
abbrev pre_is_hole : Pre := fun ds Φ => ∃ nm tl n ns, ds = [modelD nm tl, tupI ns] ∧ IsMod nm tl n ∧ ns.length ≤ 4 ∧ ns.Nodup ∧ (∀ c ∈ ns, InR n c) ∧ Φ (.bool (ringB (mat n tl) ns))
abbrev pre__law_pot : PreN := fun ds Φ => ∃ ns : List Int, ds = [.list (ns.map .int), .int 0] ∧ ns.length ≤ 63 ∧ ∀ a b : Int, PotB a b → Φ [.int a, .int b]
abbrev pre__law_draw : Pre := fun ds Φ => ∃ n : Int, ds = [.int n] ∧ 1 ≤ n ∧ n ≤ 1000000 ∧ ∀ r : Int, 0 ≤ r → r < n → Φ (.int r)
abbrev pre__law_pick : Pre := fun ds Φ => ∃ xs : List PyData, ds = [.list xs] ∧ 0 < xs.length ∧ xs.length ≤ 1000 ∧ ∀ x ∈ xs, Φ x
abbrev pre__law_sizes : Pre := fun ds Φ => ds = [] ∧ ∀ z ∈ menu, Φ (listI z)
abbrev pre__law_subsets : Pre := fun ds Φ => ∃ n : Nat, ds = [.int n] ∧ 1 ≤ n ∧ n ≤ 4 ∧ Φ (rowsL (subS n))
structure TlOk (n : Nat) (tl : List (List Int)) : Prop where
  t1 : 1 ≤ tl.length
  t16 : tl.length ≤ 16
  asc : ∀ t ∈ tl, okRow n t
  tnd : tl.Nodup
abbrev pre__law_kept : Pre := fun ds Φ => ∃ z os, ds = [listI z, rowsL os] ∧ z ∈ menu ∧ os.length ≤ 100 ∧ (∀ o ∈ os, okRow z.length o) ∧ ∀ tl, TlOk z.length tl → Φ (rowsL tl)
abbrev pre__law_told : Pre := fun ds Φ => ∃ z, ds = [listI z] ∧ z ∈ menu ∧ ∀ tl, TlOk z.length tl → Φ (rowsL tl)
abbrev pre__law_model : Pre := fun ds Φ => ds = [] ∧ ∀ nm tl n, IsMod nm tl n → Φ (modelD nm tl)
abbrev pre__law_many : Pre := fun ds Φ => ∃ nm tl n, ds = [modelD nm tl] ∧ IsMod nm tl n ∧ Φ (.int n)
abbrev pre__law_are_tied : Pre := pre_are_tied
abbrev pre__law_is_close : Pre := fun ds Φ => ∃ nm tl n x ns, ds = [modelD nm tl, x] ∧ (x = listI ns ∨ x = tupI ns) ∧ IsMod nm tl n ∧ ns.length ≤ 100 ∧ (∀ c ∈ ns, InR n c) ∧ Φ (.bool (closeO (mat n tl) ns))
abbrev pre__law_greatest : Pre := fun ds Φ => ∃ nm tl n, ds = [modelD nm tl] ∧ IsMod nm tl n ∧ Φ (rowsL (greatO (mat n tl) n))
abbrev pre__law_is_fitted : Pre := fun ds Φ => ∃ nm tl n, ds = [modelD nm tl] ∧ IsMod nm tl n ∧ Φ (.bool (fitO (mat n tl) n tl))
abbrev pre__law_orders : Pre := fun ds Φ => ∃ n : Nat, ds = [.int n] ∧ 1 ≤ n ∧ n ≤ 4 ∧ Φ (rowsL (ordO n n))
abbrev pre__law_is_sequence : Pre := fun ds Φ => ∃ nm tl n ns, ds = [modelD nm tl, tupI ns] ∧ IsMod nm tl n ∧ ns.length ≤ 4 ∧ (∀ c ∈ ns, InR n c) ∧ Φ (.bool (isSeqO (mat n tl) ns))
abbrev pre__law_sequence : Pre := fun ds Φ => ∃ nm tl n, ds = [modelD nm tl] ∧ IsMod nm tl n ∧ Φ (optD (seqO (mat n tl) n))
abbrev pre__law_is_hole : Pre := fun ds Φ => ∃ nm tl n ns, ds = [modelD nm tl, tupI ns] ∧ IsMod nm tl n ∧ ns.length ≤ 4 ∧ ns.Nodup ∧ (∀ c ∈ ns, InR n c) ∧ Φ (.bool (isHoleO (mat n tl) ns))
abbrev pre__law_web_right : Pre := fun ds Φ => ∃ nm tl n, ds = [modelD nm tl] ∧ IsMod nm tl n ∧ Φ (.bool true)
abbrev pre__law_right : Pre := fun ds Φ => ds = [] ∧ Φ (.bool true)
abbrev pre_law : Pre := Fw.pre_law
/-! ### facts -/
theorem nn_get {n i : Nat} (h : i < n) : (nn n)[i]? = some (i : Int) := by
  unfold nn
  rw [List.getElem?_map, List.getElem?_range h]
  rfl
theorem nn_in {n : Nat} {a : Int} : a ∈ nn n ↔ InR n a := by
  unfold nn
  constructor
  · intro h
    obtain ⟨i, hi, rfl⟩ := List.mem_map.mp h
    have := List.mem_range.mp hi
    exact ⟨by omega, by omega⟩
  · rintro ⟨h0, h1⟩
    exact List.mem_map.mpr ⟨a.toNat, List.mem_range.mpr (by omega), by omega⟩
theorem nn_len (n : Nat) : (nn n).length = n := by unfold nn; rw [List.length_map, List.length_range]
theorem tM_mat {n : Nat} {tl : List (List Int)} {a b : Int} (ha : InR n a) (hb : InR n b) : tM (mat n tl) a b = tied tl a b := by
  unfold tM mat
  rw [List.getElem?_map, List.getElem?_range (by omega)]
  show (((List.range n).map fun (j : Nat) => tied tl (a.toNat : Nat) (j : Nat))[b.toNat]?).getD false = _
  rw [List.getElem?_map, List.getElem?_range (by omega)]
  show tied tl ((a.toNat : Nat) : Int) ((b.toNat : Nat) : Int) = _
  rw [Int.toNat_of_nonneg ha.1, Int.toNat_of_nonneg hb.1]
theorem tied_self (tl : List (List Int)) (a : Int) : tied tl a a = false := by
  unfold tied
  simp
theorem tied_comm (tl : List (List Int)) (a b : Int) : tied tl a b = tied tl b a := by
  unfold tied
  have e1 : decide (a ≠ b) = decide (b ≠ a) := decide_eq_decide.mpr ⟨Ne.symm, Ne.symm⟩
  rw [e1]
  congr 1
  refine congrArg (fun f => tl.any f) (funext fun t => Bool.and_comm _ _)
theorem same_mat {n : Nat} (tl : List (List Int)) (h1 : 1 ≤ n) (h4 : n ≤ 4) : same (mat n tl) n = true := by
  have hn : n = 1 ∨ n = 2 ∨ n = 3 ∨ n = 4 := by omega
  rcases hn with rfl | rfl | rfl | rfl
  · have e : mat 1 tl = [[false]] := by
      show [[tied tl 0 0]] = _
      rw [tied_self]
    rw [e]
    exact gSame1
  · have e : mat 2 tl = [[false, tied tl 0 1], [tied tl 0 1, false]] := by
      show [[tied tl 0 0, tied tl 0 1], [tied tl 1 0, tied tl 1 1]] = _
      rw [tied_self, tied_self, tied_comm tl 1 0]
    rw [e]
    exact gSame2 _
  · have e : mat 3 tl = [[false, tied tl 0 1, tied tl 0 2], [tied tl 0 1, false, tied tl 1 2], [tied tl 0 2, tied tl 1 2, false]] := by
      show [[tied tl 0 0, tied tl 0 1, tied tl 0 2], [tied tl 1 0, tied tl 1 1, tied tl 1 2], [tied tl 2 0, tied tl 2 1, tied tl 2 2]] = _
      rw [tied_self, tied_self, tied_self, tied_comm tl 1 0, tied_comm tl 2 0, tied_comm tl 2 1]
    rw [e]
    exact gSame3 _ _ _
  · have e : mat 4 tl = [[false, tied tl 0 1, tied tl 0 2, tied tl 0 3], [tied tl 0 1, false, tied tl 1 2, tied tl 1 3], [tied tl 0 2, tied tl 1 2, false, tied tl 2 3], [tied tl 0 3, tied tl 1 3, tied tl 2 3, false]] := by
      show [[tied tl 0 0, tied tl 0 1, tied tl 0 2, tied tl 0 3], [tied tl 1 0, tied tl 1 1, tied tl 1 2, tied tl 1 3], [tied tl 2 0, tied tl 2 1, tied tl 2 2, tied tl 2 3], [tied tl 3 0, tied tl 3 1, tied tl 3 2, tied tl 3 3]] = _
      rw [tied_self, tied_self, tied_self, tied_self, tied_comm tl 1 0, tied_comm tl 2 0, tied_comm tl 2 1, tied_comm tl 3 0, tied_comm tl 3 1, tied_comm tl 3 2]
    rw [e]
    exact gSame4 _ _ _ _ _ _
/-! ### data -/
theorem eqvAll_rows : ∀ a b : List (List Int), PyData.eqvAll (a.map fun m => tupI m) (b.map fun m => tupI m) = decide (a = b)
  | [], [] => rfl
  | [], _ :: _ => rfl
  | _ :: _, [] => rfl
  | x :: a, y :: b => by
    show (PyData.eqv (tupI x) (tupI y) && PyData.eqvAll (a.map fun m => tupI m) (b.map fun m => tupI m)) = _
    rw [eqvAll_rows a b, FwN.eqv_row]
    by_cases h : x = y
    · subst h
      by_cases h2 : a = b
      · subst h2; simp
      · simp [h2]
    · simp [h]
theorem canLay_i : ∀ ns : List Int, PyData.canLayAll0 (ns.map .int) = true
  | [] => rfl
  | n :: ns => by
    show (PyData.canLay0 (.int n) && PyData.canLayAll0 (ns.map .int)) = true
    rw [canLay_i ns]
    rfl
theorem canLay_rows : ∀ ms : List (List Int), PyData.canLayAll0 (ms.map fun m => tupI m) = true
  | [] => rfl
  | m :: ms => by
    show (PyData.canLayAll0 (m.map .int) && PyData.canLayAll0 (ms.map fun m => tupI m)) = true
    rw [canLay_i m, canLay_rows ms]
    rfl
theorem depth_rows : ∀ ms : List (List Int), PyData.depthAll (ms.map fun m => tupI m) ≤ 1
  | [] => Nat.zero_le _
  | m :: ms => by
    show max (PyData.depthAll (m.map .int) + 1) (PyData.depthAll (ms.map fun m => tupI m)) ≤ 1
    rw [FwW.deep_ints]
    have := depth_rows ms
    omega
theorem sh_of {d : PyData} (h1 : PyData.canLay0 d = true) (h2 : d.depth ≤ 64) : SeqAt.shaped d = true := by
  unfold SeqAt.shaped
  rw [h1, decide_eq_true h2]
  rfl
theorem sh_rowsL (ms : List (List Int)) : SeqAt.shaped (rowsL ms) = true := sh_of (canLay_rows ms) (show PyData.depthAll _ + 1 ≤ 64 by have := depth_rows ms; omega)
theorem sh_rowsT (ms : List (List Int)) : SeqAt.shaped (rowsT ms) = true := sh_of (canLay_rows ms) (show PyData.depthAll _ + 1 ≤ 64 by have := depth_rows ms; omega)
theorem sh_row (m : List Int) : SeqAt.shaped (tupI m) = true := sh_of (canLay_i m) (show PyData.depthAll _ + 1 ≤ 64 by rw [FwW.deep_ints]; omega)
theorem sh_listI (m : List Int) : SeqAt.shaped (listI m) = true := sh_of (canLay_i m) (show PyData.depthAll _ + 1 ≤ 64 by rw [FwW.deep_ints]; omega)
theorem sh_int (i : Int) : SeqAt.shaped (.int i) = true := rfl
theorem in_ints (a : Int) : ∀ ns : List Int, FwWd.inD (.int a) (ns.map .int) = ns.contains a
  | [] => rfl
  | n :: ns => by
    show (PyData.eqv (.int n) (.int a) || FwWd.inD (.int a) (ns.map .int)) = _
    rw [in_ints a ns, List.contains_cons]
    congr 1
    show (n == a) = (a == n)
    exact BEq.comm
theorem in_rows (a : List Int) : ∀ ms : List (List Int), FwWd.inD (tupI a) (ms.map fun m => tupI m) = ms.contains a
  | [] => rfl
  | m :: ms => by
    show (PyData.eqv (tupI m) (tupI a) || FwWd.inD (tupI a) (ms.map fun m => tupI m)) = _
    rw [in_rows a ms, List.contains_cons, FwN.eqv_row]
    congr 1
    by_cases h : m = a
    · subst h; simp
    · rw [decide_eq_false h]
      symm
      rw [beq_eq_false_iff_ne]
      exact fun z => h z.symm
theorem in_strs (a : Str) : ∀ ws : List Str, FwWd.inD (.str a) (ws.map .str) = ws.contains a
  | [] => rfl
  | m :: ms => by
    show (PyData.eqv (.str m) (.str a) || FwWd.inD (.str a) (ms.map .str)) = _
    rw [in_strs a ms, List.contains_cons]
    congr 1
    show (m == a) = (a == m)
    exact BEq.comm
end K66
namespace K66
open PySem PySem.Spec Fw
theorem of_small {c : Nat} (h : ofB c = true) : c < 128 := by
  unfold ofB smallB digB at h
  simp only [Bool.or_eq_true, Bool.and_eq_true, decide_eq_true_eq] at h
  omega
theorem sh_word {w : Str} (h : WordOk w) : SeqAt.shaped (.str w) = true := by
  refine sh_of ?_ (Nat.zero_le _)
  show PySem.PyData.canLay0 (.str w) = true
  have e : (w.cps.all fun c => decide (c < 0x110000)) = true := by
    rw [← Array.all_toList, List.all_eq_true]
    intro c hc
    have := of_small (h.all c hc)
    exact decide_eq_true (by omega)
  have e2 : PyData.canLay0 (.str w) = PyData.strOk w := by simp only [PyData.canLay0]
  rw [e2]
  exact e
end K66
namespace Fw
open PySem PySem.Spec PyProof.Rows L2 Evl
theorem cb_allT {K K' : PySem.W.Frag} {p : Option Addr} {Φ : PyData → Prop} {α : Type} {xs : List α} {ds : List PyData} (hd : ds = xs.map fun _ => .bool true) (q : Φ (.bool true)) (hK : K' = K := by with_unfolding_all rfl) : CbD K p (rAll K') [.list ds] Φ := by
  subst hK
  refine cb_all_ (xs.map fun _ => true) (by rw [hd, List.map_map]; rfl) ?_
  rw [all_map_id]
  have e : (xs.all fun _ => true) = true := List.all_eq_true.mpr fun _ _ => rfl
  rw [e]
  exact q
end Fw
namespace K66
open PySem Fw
theorem prod_le : ∀ (l : List (Str × List Str)) (m : Nat), (∀ p ∈ l, p.2.length ≤ 6) → l.foldl (fun m p => m * p.2.length) m ≤ m * 6 ^ l.length
  | [], m, _ => by simp
  | p :: l, m, h => by
    rw [List.foldl_cons, List.length_cons]
    have h1 := prod_le l (m * p.2.length) fun q hq => h q (List.mem_cons_of_mem _ hq)
    have h2 := h p List.mem_cons_self
    refine Nat.le_trans h1 ?_
    rw [Nat.pow_succ, Nat.mul_assoc, Nat.mul_comm (6 ^ l.length) 6]
    exact Nat.mul_le_mul (Nat.le_refl m) (Nat.mul_le_mul h2 (Nat.le_refl _))
theorem prod_take {nm : List (Str × List Str)} {tl : List (List Int)} {n : Nat} (r : IsMod nm tl n) (i : Nat) : (nm.take i).foldl (fun m p => m * p.2.length) 1 ≤ 1296 := by
  have h := prod_le (nm.take i) 1 fun p hp => (r.ok p (List.mem_of_mem_take hp)).2.2.1
  have l : (nm.take i).length ≤ 4 := by
    have := r.four
    have := r.len
    rw [List.length_take]
    omega
  have := Nat.pow_le_pow_right (n := 6) (by decide) l
  have e : (6 : Nat) ^ 4 = 1296 := by decide
  omega
theorem prod_pos : ∀ (l : List (Str × List Str)) (m : Nat), 1 ≤ m → (∀ p ∈ l, 1 ≤ p.2.length) → 1 ≤ l.foldl (fun m p => m * p.2.length) m
  | [], m, h, _ => h
  | p :: l, m, h, hp => by
    rw [List.foldl_cons]
    exact prod_pos l _ (Nat.mul_le_mul h (hp p List.mem_cons_self)) fun q hq => hp q (List.mem_cons_of_mem _ hq)
theorem prod_one {nm : List (Str × List Str)} {tl : List (List Int)} {n : Nat} (r : IsMod nm tl n) : 1 ≤ prodN nm := prod_pos nm 1 (Nat.le_refl _) fun p hp => (r.ok p hp).2.1
theorem asc_len4 : ∀ {t : List Int} {n : Nat}, okRow n t → t.length ≤ n
  | t, n, ⟨h1, h2⟩ => by
    have key : ∀ (t : List Int) (lo : Int), t.Pairwise (· < ·) → (∀ c ∈ t, lo ≤ c ∧ c < n) → (t.length : Int) ≤ max 0 (n - lo) := fun t => by
      induction t with
      | nil => intro lo _ _; simp; omega
      | cons a t ih =>
        intro lo p q
        have p2 := List.pairwise_cons.mp p
        have qa := q a List.mem_cons_self
        have := ih (a + 1) p2.2 fun c hc => ⟨by have := p2.1 c hc; omega, (q c (List.mem_cons_of_mem _ hc)).2⟩
        rw [List.length_cons]
        push_cast
        omega
    have := key t 0 h1 fun c hc => ⟨(h2 c hc).1, (h2 c hc).2⟩
    omega
end K66
namespace K66
open PySem PySem.Spec PyProof.Rows L2 Evl Fw FwS FwD FwK
variable {K K' : PySem.W.Frag} {p : Option Addr} {Φ : PyData → Prop}
theorem lt_tri {a b : List Int} (h1 : ¬ a < b) (h2 : ¬ b < a) : a = b := List.le_antisymm (List.not_lt.mp h2) (List.not_lt.mp h1)
theorem perm_eq : ∀ {a b : List (List Int)}, a.Perm b → a.Pairwise (fun x y => ¬ y < x) → b.Pairwise (fun x y => ¬ y < x) → a = b
  | [], b, h, _, _ => (List.nil_perm.mp h).symm
  | x :: a, [], h, _, _ => absurd h (List.not_perm_nil_cons _ _ ∘ List.Perm.symm)
  | x :: a, y :: b, h, ha, hb => by
    have pa := List.pairwise_cons.mp ha
    have pb := List.pairwise_cons.mp hb
    have e : x = y := by
      rcases List.mem_cons.mp (h.subset List.mem_cons_self) with e | m1
      · exact e
      rcases List.mem_cons.mp (h.symm.subset List.mem_cons_self) with e | m2
      · exact e.symm
      exact lt_tri (pb.1 x m1) (pa.1 y m2)
    subst e
    rw [perm_eq h.cons_inv pa.2 pb.2]
theorem ins_perm (x : List Int) : ∀ l, (insR x l).Perm (x :: l)
  | [] => .refl _
  | y :: l => by
    unfold insR
    split
    · exact .refl _
    · exact ((ins_perm x l).cons y).trans (.swap x y l)
theorem isort_perm : ∀ l, (isort l).Perm l
  | [] => .refl _
  | x :: l => (ins_perm x _).trans ((isort_perm l).cons x)
theorem lt_tr {a b c : List Int} (h1 : ¬ b < a) (h2 : ¬ c < b) : ¬ c < a := List.not_lt.mpr (List.le_trans (List.not_lt.mp h1) (List.not_lt.mp h2))
theorem ins_asc (x : List Int) : ∀ l, l.Pairwise (fun x y : List Int => ¬ y < x) → (insR x l).Pairwise (fun x y => ¬ y < x)
  | [], _ => List.pairwise_singleton _ _
  | y :: l, h => by
    have hp := List.pairwise_cons.mp h
    unfold insR
    split
    · rename_i lt
      refine List.pairwise_cons.mpr ⟨fun z hz => ?_, h⟩
      have h0 : ¬ y < x := List.not_lt.mpr (List.le_of_lt lt)
      rcases List.mem_cons.mp hz with rfl | hz
      · exact h0
      · exact lt_tr h0 (hp.1 z hz)
    · rename_i nl
      refine List.pairwise_cons.mpr ⟨fun z hz => ?_, ins_asc x l hp.2⟩
      rcases List.mem_cons.mp ((ins_perm x l).subset hz) with rfl | hz
      · exact nl
      · exact hp.1 z hz
theorem isort_asc : ∀ l, (isort l).Pairwise (fun x y => ¬ y < x)
  | [] => .nil
  | x :: l => ins_asc x _ (isort_asc l)
theorem sort_isort (ks : List (List Int)) : sortD (ks.map fun m => tupI m) = (isort ks).map fun m => tupI m := by
  obtain ⟨rs, e, hp, ha⟩ := FwN.sort_rows ks
  rw [e, perm_eq (hp.trans (isort_perm ks).symm) ha (isort_asc ks)]
theorem od_inTI {a : Int} {ns : List Int} (h : Φ (.bool (ns.contains a))) (hK : K' = K := by with_unfolding_all rfl) : OpD K p (FwWd.rInD K' false) (.int a) (tupI ns) Φ := FwWd.od_inT (sh_int a) (sh_row ns) (by show Φ (.bool (FwWd.inD _ _)); rw [in_ints]; exact h) hK
theorem od_niTI {a : Int} {ns : List Int} (h : Φ (.bool (!ns.contains a))) (hK : K' = K := by with_unfolding_all rfl) : OpD K p (FwWd.rInD K' true) (.int a) (tupI ns) Φ := FwWd.od_inT (sh_int a) (sh_row ns) (by show Φ (.bool (!FwWd.inD _ _)); rw [in_ints]; exact h) hK
theorem od_inLI {a : Int} {ns : List Int} (h : Φ (.bool (ns.contains a))) (hK : K' = K := by with_unfolding_all rfl) : OpD K p (FwWd.rInD K' false) (.int a) (listI ns) Φ := FwWd.od_inL (sh_int a) (sh_listI ns) (by show Φ (.bool (FwWd.inD _ _)); rw [in_ints]; exact h) hK
theorem od_inTR {a : List Int} {ns : List (List Int)} (h : Φ (.bool (ns.contains a))) (hK : K' = K := by with_unfolding_all rfl) : OpD K p (FwWd.rInD K' false) (tupI a) (rowsT ns) Φ := FwWd.od_inT (sh_row a) (sh_rowsT ns) (by show Φ (.bool (FwWd.inD _ _)); rw [in_rows]; exact h) hK
theorem od_niLR {a : List Int} {ns : List (List Int)} (h : Φ (.bool (!ns.contains a))) (hK : K' = K := by with_unfolding_all rfl) : OpD K p (FwWd.rInD K' true) (tupI a) (rowsL ns) Φ := FwWd.od_inL (sh_row a) (sh_rowsL ns) (by show Φ (.bool (!FwWd.inD _ _)); rw [in_rows]; exact h) hK
theorem fr_in {M : Gr} {n : Nat} {a c : Int} (h : c ∈ fr M n a) : InR n c := nn_in.mp (List.mem_filter.mp h).1
theorem fr_len (M : Gr) (n : Nat) (a : Int) : (fr M n a).length ≤ n := by
  have := List.length_filter_le (fun o => tM M a o) (nn n)
  rwa [nn_len] at this
theorem frA_in {M : Gr} {n : Nat} {a c : Int} {ns : List Int} (h : c ∈ frA M n a ns) : InR n c := fr_in (List.mem_filter.mp h).1
theorem frA_len (M : Gr) (n : Nat) (a : Int) (ns : List Int) : (frA M n a ns).length ≤ n := Nat.le_trans (List.length_filter_le _ _) (fr_len M n a)
theorem row_app (a : List Int) (x : Int) : PyData.tuple (a.map .int ++ [.int x]) = tupI (a ++ [x]) := by rw [tupI, List.map_append]; rfl
theorem filt_true {α : Type} (l : List α) : l.filter (fun _ => true) = l := List.filter_eq_self.mpr fun _ _ => rfl
end K66
namespace K66
open PySem PySem.Spec PyProof.Rows L2 Evl Fw FwS FwD FwK
theorem flat_rows : ∀ ms : List (List Int), flatAllD (ms.map fun m => tupI m) = true
  | [] => by simp [flatAllD]
  | m :: ms => by
    rw [List.map_cons]
    have h1 := flat_tupI m
    have h2 := flat_rows ms
    simp only [flatAllD, Bool.and_eq_true]
    exact ⟨h1, h2⟩
theorem step_len (M : Gr) (ls : List (List Int)) (x : Int) : (lotsStep M ls x).length ≤ 2 * ls.length := by
  unfold lotsStep
  rw [List.length_append, List.length_map]
  have := List.length_filter_le (fun ns => closeB M (ns ++ [x])) ls
  omega
theorem lots_len (M : Gr) : ∀ (l : List Int) (ls : List (List Int)), (l.foldl (lotsStep M) ls).length ≤ 2 ^ l.length * ls.length
  | [], ls => by simp
  | x :: l, ls => by
    rw [List.foldl_cons, List.length_cons]
    have h1 := lots_len M l (lotsStep M ls x)
    have h2 := step_len M ls x
    refine Nat.le_trans h1 ?_
    rw [Nat.pow_succ, Nat.mul_assoc]
    exact Nat.mul_le_mul (Nat.le_refl _) h2
def LotOk (n k : Nat) (o : List Int) : Prop := o.length ≤ k ∧ ∀ c ∈ o, InR n c
theorem lots_ok (M : Gr) (n : Nat) : ∀ (l : List Int) (ls : List (List Int)) (k : Nat), (∀ c ∈ l, InR n c) → (∀ o ∈ ls, LotOk n k o) → ∀ o ∈ l.foldl (lotsStep M) ls, LotOk n (k + l.length) o
  | [], ls, k, _, h => h
  | x :: l, ls, k, hl, h => by
    rw [List.foldl_cons]
    intro o ho
    have := lots_ok M n l (lotsStep M ls x) (k + 1) (fun c hc => hl c (List.mem_cons_of_mem _ hc)) (fun o ho => by
      unfold lotsStep at ho
      rcases List.mem_append.mp ho with h1 | h1
      · exact ⟨Nat.le_succ_of_le (h o h1).1, (h o h1).2⟩
      · obtain ⟨ns, hns, rfl⟩ := List.mem_map.mp h1
        have h2 := h ns (List.mem_filter.mp hns).1
        refine ⟨by rw [List.length_append]; have := h2.1; show ns.length + 1 ≤ _; omega, fun c hc => ?_⟩
        rcases List.mem_append.mp hc with h3 | h3
        · exact h2.2 c h3
        · rw [List.mem_singleton.mp h3]; exact hl x List.mem_cons_self) o ho
    rw [List.length_cons]
    exact ⟨by have := this.1; omega, this.2⟩
theorem take_len (M : Gr) {n i : Nat} (h : n ≤ 4) : (((nn n).take i).foldl (lotsStep M) [[]]).length ≤ 16 := by
  have h1 := lots_len M ((nn n).take i) [[]]
  have h2 : ((nn n).take i).length ≤ 4 := by rw [List.length_take, nn_len]; omega
  have h3 := Nat.pow_le_pow_right (n := 2) (by decide) h2
  simp only [List.length_cons, List.length_nil] at h1
  omega
theorem take_ok (M : Gr) {n i : Nat} (h : n ≤ 4) : ∀ o ∈ ((nn n).take i).foldl (lotsStep M) [[]], LotOk n 4 o := fun o ho => by
  have h1 := lots_ok M n ((nn n).take i) [[]] 0 (fun c hc => nn_in.mp (List.mem_of_mem_take hc)) (fun o ho => by rw [List.mem_singleton.mp ho]; exact ⟨Nat.le_refl _, fun _ h => nomatch h⟩) o ho
  have h2 : ((nn n).take i).length ≤ 4 := by rw [List.length_take, nn_len]; omega
  exact ⟨by have := h1.1; omega, h1.2⟩
theorem take_all (n : Nat) : (nn n).take n = nn n := List.take_of_length_le (by rw [nn_len]; exact Nat.le_refl n)
theorem take_step (M : Gr) {n i : Nat} {x : Int} (h : (nn n)[i]? = some x) : ((nn n).take (i + 1)).foldl (lotsStep M) [[]] = lotsStep M (((nn n).take i).foldl (lotsStep M) [[]]) x := by
  rw [List.take_add_one, h, List.foldl_append]
  rfl
theorem lotsU_take (M : Gr) (n : Nat) : lotsU M n = ((nn n).take n).foldl (lotsStep M) [[]] := by rw [take_all]; rfl
theorem great_len (M : Gr) {n : Nat} (h : n ≤ 4) : (greatP M n).length ≤ 16 := by
  unfold greatP
  rw [(isort_perm _).length_eq]
  refine Nat.le_trans (List.length_filter_le _ _) ?_
  rw [lotsU_take]
  exact take_len M h
theorem enum_ints (ns : List Int) : enumD (ns.map .int) = (List.range ns.length).map fun i => .tuple [.int (i : Nat), .int (at_ ns i)] := by
  refine List.ext_getElem? fun i => ?_
  by_cases h : i < ns.length
  · have e : (ns.map PyData.int)[i]? = some (.int (at_ ns i)) := by
      rw [List.getElem?_map, List.getElem?_eq_getElem h]
      unfold at_
      rw [List.getElem?_eq_getElem h]
      rfl
    rw [enumD_get e, List.getElem?_map, List.getElem?_range h]
    rfl
  · rw [List.getElem?_eq_none (by rw [enumD_len, List.length_map]; omega), List.getElem?_eq_none (by rw [List.length_map, List.length_range]; omega)]
theorem at_in {n : Nat} {ns : List Int} {i : Nat} (h : i < ns.length) (hn : ∀ c ∈ ns, InR n c) : InR n (at_ ns i) := by
  unfold at_
  rw [List.getElem?_eq_getElem h]
  exact hn _ (List.getElem_mem h)
theorem arr_lt : ∀ n : Fin 5, 1 ≤ n.1 → ∀ k : Fin 65, k.1 < arrN n.1 → k.1 < (arrIt (nn n.1) k.1).length := by decide +kernel
theorem arr_end : ∀ n : Fin 5, 1 ≤ n.1 → (arrIt (nn n.1) (arrN n.1)).length = arrN n.1 := by decide +kernel
end K66
namespace K66
open PySem PySem.Spec PyProof.Rows L2 Evl Fw FwS FwD FwK
theorem arr_ok0 : ∀ n : Fin 5, ((arrIt (nn n.1) (arrN n.1)).all fun o => decide (o.length ≤ 4) && (decide o.Nodup && o.all fun c => decide (0 ≤ c) && decide (c < (n.1 : Int)))) = true := by decide +kernel
theorem arr_ok (n : Nat) (h : n ≤ 4) : ∀ o ∈ arrIt (nn n) (arrN n), o.length ≤ 4 ∧ o.Nodup ∧ ∀ c ∈ o, InR n c := fun o ho => by
  have h1 := List.all_eq_true.mp (arr_ok0 ⟨n, by omega⟩) o ho
  simp only [Bool.and_eq_true, decide_eq_true_eq, List.all_eq_true] at h1
  exact h1
theorem iteNT' {c : Prop} [Decidable c] {A B : Prop} (hc : c) (h : B) : if (!decide c) = true then A else B := by
  rw [decide_eq_true hc]
  exact h
end K66
namespace K66
theorem iteT' {c : Bool} {A B : Prop} (hc : c = true) (h : A) : if c = true then A else B := by subst hc; exact h
theorem iteF' {c : Bool} {A B : Prop} (hc : c = false) (h : B) : if c = true then A else B := by subst hc; exact h
end K66
namespace K66
open PySem PySem.Spec PyProof.Rows L2 Evl Fw FwS FwD FwK
def chk (M : Gr) (ns : List Int) (i j : Nat) : Bool := tM M (at_ ns i) (at_ ns j) == (decide (i = j + 1) || decide (i = j + (ns.length - 1)))
theorem sub_all : ∀ n : Fin 5, ∀ i : Fin 5, (((nn n.1).take i.1).foldl (fun f a => f ++ f.map fun o => o ++ [a]) [[]]).length ≤ 16 ∧ (((nn n.1).take i.1).foldl (fun f a => f ++ f.map fun o => o ++ [a]) [[]]).all (fun o => decide (o.length ≤ 4)) = true := by decide +kernel
theorem sub_at (n i : Nat) (h : n ≤ 4) : (nn n).take i = (nn n).take (min i 4) := by
  by_cases h2 : i ≤ 4
  · rw [Nat.min_eq_left h2]
  · rw [Nat.min_eq_right (by omega), List.take_of_length_le (by rw [nn_len]; omega), List.take_of_length_le (by rw [nn_len]; omega)]
theorem sub_len (n i : Nat) (h : n ≤ 4) : (((nn n).take i).foldl (fun f a => f ++ f.map fun o => o ++ [a]) [[]]).length ≤ 16 := by
  rw [sub_at n i h]
  exact (sub_all ⟨n, by omega⟩ ⟨min i 4, by omega⟩).1
theorem sub_ok (n i : Nat) (h : n ≤ 4) : ∀ o ∈ ((nn n).take i).foldl (fun f a => f ++ f.map fun o => o ++ [a]) [[]], o.length ≤ 4 := by
  rw [sub_at n i h]
  intro o ho
  exact of_decide_eq_true (List.all_eq_true.mp (sub_all ⟨n, by omega⟩ ⟨min i 4, by omega⟩).2 o ho)
end K66
namespace K66
open PySem PySem.Spec PyProof.Rows L2 Evl Fw FwS FwD FwK
theorem at_map {ns : List Int} {i : Nat} (h : i < ns.length) : (ns.map PyData.int)[i]'(by rw [List.length_map]; exact h) = .int (at_ ns i) := by
  rw [List.getElem_map]
  unfold at_
  rw [List.getElem?_eq_getElem h]
  rfl
theorem beside_eq (L : Nat) {i j : Nat} (h : 4 ≤ L) : ([1, (L : Int) - 1]).contains ((i : Int) - (j : Int)) = (decide (i = j + 1) || decide (i = j + (L - 1))) := by
  rw [List.contains_cons, List.contains_cons, List.contains_nil, Bool.or_false]
  congr 1
  · rw [Bool.eq_iff_iff, beq_iff_eq, decide_eq_true_eq]
    omega
  · rw [Bool.eq_iff_iff, beq_iff_eq, decide_eq_true_eq]
    omega
end K66
namespace K66
theorem sub_head0 : ∀ n : Fin 5, (subU n.1).head? = some [] := by decide +kernel
theorem sub_head (n : Nat) (h : n ≤ 4) : ∃ l, subU n = [] :: l := by
  have h1 := sub_head0 ⟨n, by omega⟩
  cases e : subU n with
  | nil => have h1 : (subU n).head? = some [] := h1; rw [e] at h1; cases h1
  | cons a l =>
    have h1 : (subU n).head? = some [] := h1
    rw [e] at h1
    cases h1
    exact ⟨l, rfl⟩
theorem arr_k : ∀ n : Fin 5, ∀ k : Fin 65, k.1 < arrN n.1 → (arrIt (nn n.1) (k.1 + 1)).length ≤ 100 ∧ ((arrIt (nn n.1) k.1)[k.1]?.getD []).length ≤ 4 := by decide +kernel
end K66
namespace K66
open PySem PySem.Spec PyProof.Rows L2 Evl Fw FwS FwD FwK
theorem at0 (f : Int) (fs : List Int) : atI (List.map PyData.int (f :: fs)) 0 = some (.int f) := FwN.at_nat (xs := .int f :: fs.map .int) (j := 0) (Nat.zero_lt_succ _)
theorem eqv_nil : PyData.eqv (.tuple []) (.tuple []) = true := rfl
theorem subS_len (n : Nat) (h : n ≤ 4) : (subS n).length ≤ 16 := by
  unfold subS
  rw [(isort_perm _).length_eq]
  have := sub_len n n h
  rw [List.take_of_length_le (by rw [nn_len]; exact Nat.le_refl n)] at this
  exact this
theorem subS_ok0 : ∀ n : Fin 5, ((subS n.1).all fun o => decide (o.length ≤ 4) && (decide o.Nodup && (decide (o.Pairwise (· < ·)) && o.all fun c => decide (0 ≤ c) && decide (c < (n.1 : Int))))) = true := by decide +kernel
theorem subS_ok (n : Nat) (h : n ≤ 4) : ∀ o ∈ subS n, o.length ≤ 4 ∧ o.Nodup ∧ o.Pairwise (· < ·) ∧ ∀ c ∈ o, InR n c := fun o ho => by
  have h1 := List.all_eq_true.mp (subS_ok0 ⟨n, by omega⟩) o ho
  simp only [Bool.and_eq_true, decide_eq_true_eq, List.all_eq_true] at h1
  exact h1
theorem subD_nn0 : ∀ n : Fin 5, (((subS n.1).drop 1).all fun o => !o.isEmpty) = true := by decide +kernel
theorem ordO_ok0 : ∀ n : Fin 5, ∀ k : Fin 5, k.1 ≤ n.1 → (ordO n.1 k.1).length ≤ 24 ∧ ((ordO n.1 k.1).all fun o => decide (o.length = k.1) && o.all fun c => decide (0 ≤ c) && decide (c < (n.1 : Int))) = true := by decide +kernel
theorem ordO_ok {n k : Nat} (h : n ≤ 4) (hk : k ≤ n) : (ordO n k).length ≤ 24 ∧ ∀ o ∈ ordO n k, o.length = k ∧ ∀ c ∈ o, InR n c := by
  have h1 := ordO_ok0 ⟨n, by omega⟩ ⟨k, by omega⟩ hk
  refine ⟨h1.1, fun o ho => ?_⟩
  have h2 := List.all_eq_true.mp h1.2 o ho
  simp only [Bool.and_eq_true, decide_eq_true_eq, List.all_eq_true] at h2
  exact h2
end K66
namespace K66
open PySem PySem.Spec PyProof.Rows L2 Evl Fw FwS FwD FwK
theorem ordS_len (n : Nat) (l : List (List Int)) (j : Nat) : (ordStep n (l.take j)).length ≤ (ordStep n l).length := by
  have e : ordStep n l = ordStep n (l.take j) ++ ordStep n (l.drop j) := by
    unfold ordStep
    rw [← List.flatMap_append, List.take_append_drop]
  rw [e, List.length_append]
  omega
theorem rng_nn (n : Nat) : rng 0 ((n : Int)).toNat = (nn n).map .int := by
  unfold rng nn
  rw [Int.toNat_natCast, List.map_map]
  refine List.map_congr_left fun i _ => ?_
  show PyData.int (0 + (i : Int)) = .int i
  rw [Int.zero_add]
theorem minD_rows (m : List Int) : ∀ ms : List (List Int), PySem.W.minD (tupI m) (ms.map fun m => tupI m) = tupI (minR m ms) := by
  intro ms
  unfold PySem.W.minD minR
  induction ms generalizing m with
  | nil => rfl
  | cons k r ih =>
    rw [List.map_cons, List.foldl_cons, List.foldl_cons, FwW.lt_rows]
    by_cases h : k < m
    · rw [decide_eq_true h, if_pos rfl, if_pos h]
      exact ih k
    · rw [decide_eq_false h, if_neg (by decide), if_neg h]
      exact ih m
theorem ne_nil_rows (ms : List (List Int)) : PyData.eqv (rowsL ms) (.list []) = ms.isEmpty := by
  cases ms <;> rfl
end K66
namespace K66
open PySem PySem.Spec PyProof.Rows L2 Evl Fw FwS FwD FwK
def chkO (M : Gr) (ns : List Int) (i j : Nat) : Bool := tM M (at_ ns i) (at_ ns (i + 1 + j)) == (decide (j = 0) || (decide (i = 0) && decide (i + 1 + j = ns.length - 1)))
theorem menu_ok0 : ∀ z ∈ menu, 1 ≤ z.length ∧ z.length ≤ 4 ∧ ∀ c ∈ z, 1 ≤ c ∧ c ≤ 4 := by decide +kernel
theorem menu_ok (z : List Int) (h : z ∈ menu) : 1 ≤ z.length ∧ z.length ≤ 4 ∧ ∀ c ∈ z, 1 ≤ c ∧ c ≤ 4 := menu_ok0 z h
end K66
namespace K66
open PySem PySem.Spec PyProof.Rows L2 Evl Fw FwS FwD FwK
def tmenu : List (List (List Int)) := [[[0, 1], [1, 2]], [[0, 1], [0, 2], [0, 3]], [[0, 1], [1, 2], [2, 3], [0, 3]], [[0, 1, 2], [1, 2, 3]], [[0], [1], [2], [3]], [[0, 1], [2, 3]]]
theorem tmenu_ok0 : ∀ rs ∈ tmenu, rs.length ≤ 4 ∧ ∀ o ∈ rs, o.length ≤ 3 ∧ o.Pairwise (· < ·) ∧ ∀ c ∈ o, 0 ≤ c := by decide +kernel
theorem tmenu_ok (rs : List (List Int)) (h : rs ∈ tmenu) : rs.length ≤ 4 ∧ ∀ o ∈ rs, o.length ≤ 3 ∧ o.Pairwise (· < ·) ∧ ∀ c ∈ o, 0 ≤ c := tmenu_ok0 rs h
end K66
namespace K66
open PySem
def lets : List Str := ["a", "b", "c", "d"]
def vname (j : Nat) : Str := "v" ++ (toString ((j : Nat) : Int) : Str)
def mkN (z : List Int) (i : Nat) : Str × List Str := ((lets[i]?).getD "a", (List.range (at_ z i).toNat).map vname)
theorem at_mem {z : List Int} {i : Nat} (h : i < z.length) : at_ z i ∈ z := by
  unfold at_
  rw [List.getElem?_eq_getElem h]
  exact List.getElem_mem h
end K66
namespace K66
open PySem PySem.Spec PyProof.Rows L2 Evl Fw FwS FwD FwK
theorem abcd (i : Nat) (h : i < 4) : ∃ c, atI ("abcd" : Str).cps.toList (i : Int) = some c ∧ (⟨#[c]⟩ : Str) = (lets[i]?).getD "a" := by
  have : i = 0 ∨ i = 1 ∨ i = 2 ∨ i = 3 := by omega
  rcases this with rfl | rfl | rfl | rfl
  · exact ⟨97, by decide +kernel, by decide +kernel⟩
  · exact ⟨98, by decide +kernel, by decide +kernel⟩
  · exact ⟨99, by decide +kernel, by decide +kernel⟩
  · exact ⟨100, by decide +kernel, by decide +kernel⟩
theorem rng_int (a : Int) : rng 0 a.toNat = (List.range a.toNat).map fun j => .int (j : Nat) := by
  unfold rng
  refine List.map_congr_left fun i _ => ?_
  show PyData.int (0 + (i : Int)) = .int i
  rw [Int.zero_add]
theorem log_j (j : Nat) (h : j < 4) : ((j : Nat) : Int).natAbs.log2 < 1920 := by
  have : j = 0 ∨ j = 1 ∨ j = 2 ∨ j = 3 := by omega
  rcases this with rfl | rfl | rfl | rfl <;> decide +kernel
theorem len_j (j : Nat) (h : j < 4) : ("v" : Str).length + ((toString ((j : Nat) : Int) : String) : Str).length ≤ 100000 := by
  have : j = 0 ∨ j = 1 ∨ j = 2 ∨ j = 3 := by omega
  rcases this with rfl | rfl | rfl | rfl <;> decide +kernel
def wordB (w : Str) : Bool := decide (1 ≤ w.length) && (decide (w.length ≤ 8) && w.cps.toList.all ofB)
def nameB (w : Str) : Bool := wordB w && ((match w.cps.toList[0]? with | some c => smallB c | none => false) && !rowWords.contains w)
theorem wordB_ok {w : Str} (h : wordB w = true) : WordOk w := by
  unfold wordB at h
  simp only [Bool.and_eq_true, decide_eq_true_eq, List.all_eq_true] at h
  exact ⟨h.1, h.2.1, h.2.2⟩
theorem nameB_ok {w : Str} (h : nameB w = true) : NameOk w := by
  unfold nameB at h
  simp only [Bool.and_eq_true] at h
  refine ⟨wordB_ok h.1, ?_, fun z => ?_⟩
  · cases e : w.cps.toList[0]? with
    | none => rw [e] at h; exact absurd h.2.1 (by decide)
    | some c => rw [e] at h; exact ⟨c, rfl, h.2.1⟩
  · have h2 := h.2.2
    rw [List.contains_iff_mem.mpr z] at h2
    cases h2
def partB (p : Str × List Str) : Bool := nameB p.1 && (decide (1 ≤ p.2.length) && (decide (p.2.length ≤ 6) && (p.2.all wordB && decide p.2.Nodup)))
def namesB (nm : List (Str × List Str)) : Bool := nm.all partB && (decide (nm.map (·.1)).Nodup && decide (prodN nm ≤ 16))
theorem menu_names : ∀ z ∈ menu, namesB ((List.range z.length).map (mkN z)) = true := by decide +kernel
theorem mod_ok (z : List Int) (hz : z ∈ menu) (tl : List (List Int)) (ht : TlOk z.length tl) : IsMod ((List.range z.length).map (mkN z)) tl z.length := by
  have h := menu_names z hz
  have zm := menu_ok z hz
  unfold namesB at h
  simp only [Bool.and_eq_true, decide_eq_true_eq, List.all_eq_true] at h
  refine ⟨by rw [List.length_map, List.length_range], zm.1, zm.2.1, fun p hp => ?_, h.2.1, h.2.2, ht.t1, ht.t16, ht.asc, ht.tnd⟩
  have h2 := h.1 p hp
  unfold partB at h2
  simp only [Bool.and_eq_true, decide_eq_true_eq, List.all_eq_true] at h2
  exact ⟨nameB_ok h2.1, h2.2.1, h2.2.2.1, fun w hw => wordB_ok (h2.2.2.2.1 w hw), h2.2.2.2.2⟩
structure SameF (M : Gr) (n : Nat) : Prop where
  web : webP M n = webO M n
  great : greatP M n = greatO M n
  seq : seqP M n = seqO M n
  hole : (holeP M n).isNone = (seqP M n).isSome
  seqOk : ∀ s, seqP M n = some s → isSeq M n s = true ∧ s.length = n ∧ s.Nodup ∧ ∀ x ∈ s, InR n x
  holeOk : ∀ r, holeP M n = some r → isHoleO M r = true ∧ ringB M r = true ∧ r.Nodup ∧ ∀ x ∈ r, InR n x
  close : ∀ ns ∈ subS n, closeB M ns = closeO M ns ∧ closeB M ns.reverse = closeO M ns
theorem same_f {M : Gr} {n : Nat} (h : same M n = true) : SameF M n := by
  unfold same at h
  simp only [Bool.and_eq_true, decide_eq_true_eq, List.all_eq_true] at h
  obtain ⟨h1, h2, h3, h4, h5, h6, h7⟩ := h
  refine ⟨h1, h2, h3, h4, fun s hs => ?_, fun r hr => ?_, h7⟩
  · rw [hs] at h5
    simp only [Bool.and_eq_true, decide_eq_true_eq, List.all_eq_true] at h5
    exact ⟨h5.1.1.1, h5.1.1.2, h5.1.2, h5.2⟩
  · rw [hr] at h6
    simp only [Bool.and_eq_true, decide_eq_true_eq, List.all_eq_true] at h6
    exact ⟨h6.1, h6.2.1, h6.2.2.1, h6.2.2.2⟩
end K66
namespace K66
open PySem PySem.Spec PyProof.Rows L2 Evl Fw FwS FwD FwK
def dueO (M : Gr) (n i : Nat) : List (List Int) := ((nn n).take i).flatMap fun a => ((nn n).filter fun b => decide (a < b) && tM M a b).map fun b => [a, b]
def above (n i : Nat) : List Int := (List.range (n - (i + 1))).map fun (j : Nat) => (i : Int) + 1 + (j : Int)
theorem above_len (n i : Nat) : (above n i).length = n - (i + 1) := by unfold above; rw [List.length_map, List.length_range]
theorem rng_above (n i : Nat) (h : i < n) : rng ((i : Int) + 1) (((n : Int) - ((i : Int) + 1)).toNat) = (above n i).map .int := by
  unfold rng above
  rw [show ((n : Int) - ((i : Int) + 1)).toNat = n - (i + 1) by omega, List.map_map]
  rfl
theorem above_in {n i : Nat} {b : Int} (h : b ∈ above n i) : InR n b := by
  unfold above at h
  obtain ⟨j, hj, rfl⟩ := List.mem_map.mp h
  have := List.mem_range.mp hj
  exact ⟨by omega, by omega⟩
theorem above_eq0 : ∀ n : Fin 5, ∀ i : Fin 5, i.1 < n.1 → (nn n.1).filter (fun b => decide ((i.1 : Int) < b)) = above n.1 i.1 := by decide +kernel
theorem above_eq {n i : Nat} (h : n ≤ 4) (hi : i < n) : (nn n).filter (fun b => decide ((i : Int) < b)) = above n i := above_eq0 ⟨n, by omega⟩ ⟨i, by omega⟩ hi
theorem due_all (M : Gr) (n : Nat) : dueO M n n = webO M n := by
  unfold dueO webO
  rw [List.take_of_length_le (by rw [nn_len]; exact Nat.le_refl n)]
theorem due_step (M : Gr) (n i : Nat) (h : n ≤ 4) (hi : i < n) : dueO M n (i + 1) = dueO M n i ++ ((above n i).filter fun b => tM M (i : Int) b).map fun b => [(i : Int), b] := by
  unfold dueO
  rw [List.take_add_one, nn_get hi, List.flatMap_append, ← above_eq h hi, List.filter_filter]
  congr 1
  show List.flatMap _ [(i : Int)] = _
  rw [List.flatMap_singleton]
  congr 1
  refine congrArg (fun f => List.filter f (nn n)) (funext fun b => Bool.and_comm _ _)
theorem due_part (M : Gr) (n i j : Nat) : ∃ l, dueO M n (i + j) = dueO M n i ++ l := by
  refine ⟨(((nn n).drop i).take j).flatMap fun a => ((nn n).filter fun b => decide (a < b) && tM M a b).map fun b => [a, b], ?_⟩
  unfold dueO
  rw [← List.flatMap_append, List.take_add]
theorem flat_len {α β : Type} (f : α → List β) (k : Nat) : ∀ l : List α, (∀ a ∈ l, (f a).length ≤ k) → (l.flatMap f).length ≤ l.length * k
  | [], _ => by simp
  | a :: l, h => by
    rw [List.flatMap_cons, List.length_append, List.length_cons, Nat.succ_mul]
    have h1 := h a List.mem_cons_self
    have h2 := flat_len f k l fun b hb => h b (List.mem_cons_of_mem _ hb)
    omega
theorem due_len (M : Gr) (n i : Nat) (h : n ≤ 4) (hi : i < n) : (dueO M n i).length ≤ 16 := by
  unfold dueO
  have h1 := flat_len (fun a => ((nn n).filter fun b => decide (a < b) && tM M a b).map fun b => [a, b]) 4 ((nn n).take i) fun a _ => by
    rw [List.length_map]
    have := List.length_filter_le (fun b => decide (a < b) && tM M a b) (nn n)
    rw [nn_len] at this
    omega
  have h2 : ((nn n).take i).length ≤ 4 := by rw [List.length_take, nn_len]; omega
  omega
theorem web_len (M : Gr) {n : Nat} (h : n ≤ 4) : (webO M n).length ≤ 16 := by
  unfold webO
  have h1 := flat_len (fun a => ((nn n).filter fun b => decide (a < b) && tM M a b).map fun b => [a, b]) 4 (nn n) fun a _ => by
    rw [List.length_map]
    have := List.length_filter_le (fun b => decide (a < b) && tM M a b) (nn n)
    rw [nn_len] at this
    omega
  rw [nn_len] at h1
  omega
theorem web_tm {M : Gr} {n : Nat} (h : n ≤ 4) (m : List Int) (hm : m ∈ webO M n) : (∀ c ∈ m, -999999999999 ≤ c ∧ c ≤ 999999999999) ∧ m.length ≤ 2 := by
  unfold webO at hm
  obtain ⟨a, ha, hm⟩ := List.mem_flatMap.mp hm
  obtain ⟨b, hb, rfl⟩ := List.mem_map.mp hm
  have h1 := nn_in.mp ha
  have h2 := nn_in.mp (List.mem_filter.mp hb).1
  refine ⟨fun c hc => ?_, Nat.le_refl _⟩
  simp only [List.mem_cons, List.not_mem_nil, or_false] at hc
  rcases hc with rfl | rfl <;> omega
theorem great_mem {M : Gr} {n : Nat} {m : List Int} (h : m ∈ greatO M n) : m ∈ subS n := List.mem_of_mem_drop (List.mem_filter.mp (List.mem_filter.mp h).1).1
theorem great_len2 (M : Gr) (n : Nat) : (greatO M n).length ≤ (subS n).length := by
  unfold greatO
  refine Nat.le_trans (List.length_filter_le _ _) (Nat.le_trans (List.length_filter_le _ _) ?_)
  rw [List.length_drop]
  omega
end K66
namespace K66
theorem subS_pos (n : Nat) (h : n ≤ 4) : 0 < (subS n).length := by
  unfold subS
  rw [(isort_perm _).length_eq]
  obtain ⟨l, e⟩ := sub_head n h
  rw [e]
  exact Nat.zero_lt_succ _
end K66
namespace K66
open PySem PySem.Spec PyProof.Rows L2 Evl Fw FwS FwD FwK
theorem opt_tm {M : Gr} {n : Nat} (F : SameF M n) (h : n ≤ 4) : Tm (optD (seqO M n)) 1 4 := by
  cases e : seqO M n with
  | none => exact tm_none.mono (by decide) (by decide)
  | some s =>
    have h2 := F.seqOk s (F.seq.trans e)
    exact tm_tupI (n := 4) (fun c hc => by have := h2.2.2.2 c hc; omega) (by omega)
end K66
namespace K66
open PySem PySem.Spec PyProof.Rows L2 Evl Fw FwS FwD FwK
theorem eqv_opt (o : Option (List Int)) : PyData.eqv (optD o) (optD o) = true := by
  cases o with
  | none => rfl
  | some s => exact (FwN.eqv_row s s).trans (decide_eq_true rfl)
theorem isNo_opt (o : Option (List Int)) : isNo (optD o) = o.isNone := by cases o <;> rfl
theorem SameF.fit {M : Gr} {n : Nat} (F : SameF M n) {tl : List (List Int)} : fitP M n tl = fitO M n tl := by unfold fitP fitO; rw [F.great]
end K66
namespace K66
open PySem PySem.Spec PyProof.Rows L2 Evl
open Fw
section
variable {P : Program} {w : World} {K : PySem.W.Frag} {mg : Str → Option Value} {base : Heap}
local macro_rules | `(tactic| walk_at "wp") => `(tactic| (first
  | with_reducible refine Fw.s_seq ?_
  | with_reducible refine Fw.s_next ?_
  | with_reducible refine Fw.s_nil ?_
  | with_reducible refine Fw.s_app2 rfl ?_
  | with_reducible refine Fw.s_asg ?_
  | with_reducible refine Fw.s_if ?_
  | with_reducible refine Fw.s_ret ?_
  | with_reducible refine Fw.s_retN ?_
  | with_reducible refine Fw.s_drop ?_
  | with_reducible refine Fw.e_var rfl ?_
  | with_reducible refine Fw.e_int ?_
  | with_reducible refine Fw.e_bl ?_
  | with_reducible refine Fw.e_str ?_
  | with_reducible refine Fw.e_non ?_
  | with_reducible refine Fw.e_isi_ ?_
  | with_reducible refine Fw.e_slT_ ?_
  | with_reducible refine Fw.e_repL ?_
  | with_reducible refine Fw.e_pot0 rfl ?_
  | with_reducible refine Fw.e_pot1 rfl ?_
  | with_reducible refine Fw.e_lenO rfl ?_
  | with_reducible refine Fw.e_ixO2 rfl rfl ?_
  | with_reducible refine Fw.e_ixOc2 rfl ?_
  | with_reducible refine Fw.e_ixOn2 rfl ?_
  | with_reducible refine Fw.e_op ?_
  | with_reducible refine Fw.e_un ?_
  | with_reducible refine Fw.e_tup ?_
  | with_reducible refine Fw.e_lst ?_
  | with_reducible refine Fw.o_none ?_
  | with_reducible refine Fw.o_some ?_
  | with_reducible refine Fw.a_nil ?_
  | with_reducible refine Fw.a_cons ?_
  | with_reducible refine Fw.e_callSw ?_
  | with_reducible refine Fw.e_callS3 ?_
  | with_reducible refine Fw.e_isi2 ?_
  | with_reducible refine Fw.od_sub_bb ?_
  | with_reducible refine Fw.od_isN ?_
  | with_reducible refine Fw.od_notN ?_
  | with_reducible refine Fw.e_callS1 ?_
  | with_reducible refine Fw.e_callP rfl ?_
  | with_reducible refine Fw.e_call ?_
  | with_reducible refine Fw.e_cb ?_
  | with_reducible refine Fw.e_andV ?_
  | with_reducible refine Fw.e_orV ?_
  | with_reducible refine Fw.e_notV ?_
  | with_reducible refine Fw.e_if ?_
  | with_reducible refine Fw.e_chain ?_
  | with_reducible refine Fw.t_test ?_
  | with_reducible refine Fw.t_B ?_
  | with_reducible refine Fw.t_and ?_
  | with_reducible refine Fw.t_or ?_
  | with_reducible refine Fw.t_not ?_
  | with_reducible refine Fw.t_yes ?_
  | with_reducible refine Fw.od_add ?_
  | with_reducible refine Fw.od_sub ?_
  | with_reducible refine Fw.od_mul ?_ ?_
  | with_reducible refine Fw.od_fdivN ?_ ?_
  | with_reducible refine Fw.od_modN ?_ ?_
  | with_reducible refine Fw.od_pow ?_ ?_
  | with_reducible refine Fw.od_lt ?_
  | with_reducible refine Fw.od_le ?_
  | with_reducible refine Fw.od_gt ?_
  | with_reducible refine Fw.od_ge ?_
  | with_reducible refine Fw.od_eqI ?_
  | with_reducible refine Fw.od_neI ?_
  | with_reducible refine Fw.od_eqS ?_
  | with_reducible refine Fw.od_neS ?_
  | with_reducible refine Fw.od_isB ?_
  | with_reducible refine Fw.od_notB ?_
  | with_reducible refine Fw.ud_neg ?_
  | with_reducible refine Fw.cb_len_ (.inl rfl) ?_
  | with_reducible refine Fw.cb_len_ (.inr rfl) ?_
  | with_reducible refine Fw.cb_abs ?_
  | with_reducible refine Fw.cb_int ?_
  | with_reducible refine Fw.cb_max2 ?_
  | with_reducible refine Fw.cb_gcd ?_
  | with_reducible refine Fw.cb_reprB ?_
  | with_reducible refine Fw.cb_tuple_ (.inr rfl) ?_
  | with_reducible refine Fw.cb_tuple_ (.inl rfl) ?_
  | with_reducible refine Fw.cb_list_ (.inl rfl) ?_
  | with_reducible refine Fw.cb_list_ (.inr rfl) ?_
  | with_reducible refine L2.iteT ?_
  | with_reducible refine L2.iteF ?_
  | with_reducible refine Fw.iteNT ?_
  | with_reducible refine Fw.iteNF ?_
  | with_reducible refine Fw.iteI ?_
  | with_reducible refine Fw.iteNI ?_
  | with_reducible refine Fw.s_par ?_
  | with_reducible refine Fw.s_par3 ?_
  | with_reducible refine Exists.intro _ (And.intro Fw.kd_none_int ?_)
  | with_reducible refine Exists.intro _ (And.intro Fw.kd_none_bool ?_)
  | with_reducible refine Exists.intro _ (And.intro Fw.kd_none_str ?_)
  | with_reducible refine Exists.intro _ (And.intro Fw.kd_none_list ?_)
  | with_reducible refine Exists.intro _ (And.intro Fw.kd_none_tuple ?_)
  | with_reducible refine Exists.intro _ (And.intro Fw.kd_bool_int ?_)
  | with_reducible refine Exists.intro _ (And.intro Fw.kd_bool_bool ?_)
  | with_reducible refine Exists.intro _ (And.intro Fw.kd_bool_str ?_)
  | with_reducible refine Exists.intro _ (And.intro Fw.kd_bool_list ?_)
  | with_reducible refine Exists.intro _ (And.intro Fw.kd_bool_tuple ?_)
  | with_reducible refine Exists.intro _ (And.intro Fw.kd_int_int ?_)
  | with_reducible refine Exists.intro _ (And.intro Fw.kd_int_bool ?_)
  | with_reducible refine Exists.intro _ (And.intro Fw.kd_int_str ?_)
  | with_reducible refine Exists.intro _ (And.intro Fw.kd_int_list ?_)
  | with_reducible refine Exists.intro _ (And.intro Fw.kd_int_tuple ?_)
  | with_reducible refine Exists.intro _ (And.intro Fw.kd_str_int ?_)
  | with_reducible refine Exists.intro _ (And.intro Fw.kd_str_bool ?_)
  | with_reducible refine Exists.intro _ (And.intro Fw.kd_str_str ?_)
  | with_reducible refine Exists.intro _ (And.intro Fw.kd_str_list ?_)
  | with_reducible refine Exists.intro _ (And.intro Fw.kd_str_tuple ?_)
  | with_reducible refine Exists.intro _ (And.intro Fw.kd_list_int ?_)
  | with_reducible refine Exists.intro _ (And.intro Fw.kd_list_bool ?_)
  | with_reducible refine Exists.intro _ (And.intro Fw.kd_list_str ?_)
  | with_reducible refine Exists.intro _ (And.intro Fw.kd_list_list ?_)
  | with_reducible refine Exists.intro _ (And.intro Fw.kd_list_tuple ?_)
  | with_reducible refine Exists.intro _ (And.intro Fw.kd_tuple_int ?_)
  | with_reducible refine Exists.intro _ (And.intro Fw.kd_tuple_bool ?_)
  | with_reducible refine Exists.intro _ (And.intro Fw.kd_tuple_str ?_)
  | with_reducible refine Exists.intro _ (And.intro Fw.kd_tuple_list ?_)
  | with_reducible refine Exists.intro _ (And.intro Fw.kd_tuple_tuple ?_)
  | with_reducible refine Exists.intro _ (And.intro Fw.kd_dict_int ?_)
  | with_reducible refine Exists.intro _ (And.intro Fw.kd_dict_bool ?_)
  | with_reducible refine Exists.intro _ (And.intro Fw.kd_dict_str ?_)
  | with_reducible refine Exists.intro _ (And.intro Fw.kd_dict_list ?_)
  | with_reducible refine Exists.intro _ (And.intro Fw.kd_dict_tuple ?_)
  | with_reducible refine Exists.intro _ (And.intro rfl ?_)
  | with_reducible refine Exists.intro _ (Exists.intro _ (And.intro rfl ?_))
  | with_reducible refine Exists.intro _ (Exists.intro _ (Exists.intro _ (And.intro rfl ?_)))
  | with_reducible refine Fw.iteD (by first | omega | (simp only [List.length_map, List.length_cons, List.length_nil]; omega)) ?_
  | with_reducible refine Fw.iteND (by first | omega | (simp only [List.length_map, List.length_cons, List.length_nil]; omega)) ?_
  | with_reducible refine Fw.iteDF (by first | omega | (simp only [List.length_map, List.length_cons, List.length_nil]; omega)) ?_
  | with_reducible refine Fw.iteNDF (by first | omega | (simp only [List.length_map, List.length_cons, List.length_nil]; omega)) ?_
  | with_reducible refine And.intro (by first | assumption | omega | (simp only [List.length_map, List.length_cons, List.length_nil]; omega)) ?_
  | fail "wp"))

theorem ok_is_integer (tx : Tx K mg) : ∀ f fd, FnP K "is_integer" s_is_integer f fd → FnOk P w K mg base CX0 1 f fd ["value"] (SpF K pre_is_integer) := fun f fd F =>
  F.ok sc_is_integer (fun vs H Q E s => lenF (fun ds Φ h => by
    obtain ⟨_, rfl, _⟩ := h; rfl) s) fun cdv A outer s H vs Q E hr h => ⟨_, PSs.nox (pss_one (ps_ret (pe_and (pe_callB (id := "isinstance") call_isi (by rfl) tx.isinstance (by decide +kernel) (pa_cons (pv 0) (pa_cons (pe_bltn (v := .ty "int") (by rfl) tx.int (by decide +kernel) rfl) pa_nil))) (pe_one (pe_not (pe_callB (id := "isinstance") call_isi (by rfl) tx.isinstance (by decide +kernel) (pa_cons (pv 0) (pa_cons (pe_bltn (v := .ty "bool") (by rfl) tx.bool (by decide +kernel) rfl) pa_nil)))))))),
  bodyF h fun ds Φ hp => by
    obtain ⟨i, rfl, q⟩ := hp
    (repeat' walk_at "wp") <;> exact q
⟩
theorem has_is_integer (D : Dn K mg "is_integer" s_is_integer) (tx : Tx K mg) : Has P w K mg base "is_integer" ["value"] 1 (SpF K pre_is_integer) := has_of D (fun _ _ _ _ _ _ us hl => match us, hl with | [_], _ => rfl) (ok_is_integer tx)

theorem ok_is_count (tx : Tx K mg) (h_is_integer : Has P w K mg base "is_integer" ["value"] 1 (SpF K pre_is_integer)) : ∀ f fd, FnP K "is_count" s_is_count f fd → FnOk P w K mg base CX0 2 f fd ["value"] (SpF K pre_is_count) := fun f fd F =>
  F.ok sc_is_count (fun vs H Q E s => lenF (fun ds Φ h => by
    obtain ⟨_, rfl, _⟩ := h; rfl) s) fun cdv A outer s H vs Q E hr h => ⟨_, PSs.nox (pss_one (ps_ret (pe_and (pe_callH h_is_integer (hr.mono (by decide)) (by rfl) (pa_cons (pv 0) pa_nil)) (pe_one (pe_cmpR op_ge (pv 0) pe_int (nomark _)))))),
  bodyF h fun ds Φ hp => by
    obtain ⟨i, rfl, h0, q⟩ := hp
    (repeat' walk_at "wp") <;> try exact q
    rw [show decide (0 ≤ i) = true from decide_eq_true h0]; exact q
⟩
theorem has_is_count (D : Dn K mg "is_count" s_is_count) (tx : Tx K mg) (h_is_integer : Has P w K mg base "is_integer" ["value"] 1 (SpF K pre_is_integer)) : Has P w K mg base "is_count" ["value"] 2 (SpF K pre_is_count) := has_of D (fun _ _ _ _ _ _ us hl => match us, hl with | [_], _ => rfl) (ok_is_count tx h_is_integer)

theorem ok_is_count_to (tx : Tx K mg) (h_is_count : Has P w K mg base "is_count" ["value"] 2 (SpF K pre_is_count)) : ∀ f fd, FnP K "is_count_to" s_is_count_to f fd → FnOk P w K mg base CX0 3 f fd ["value", "most"] (SpF K pre_is_count_to) := fun f fd F =>
  F.ok sc_is_count_to (fun vs H Q E s => lenF (fun ds Φ h => by
    obtain ⟨_, _, rfl, _⟩ := h; rfl) s) fun cdv A outer s H vs Q E hr h => ⟨_, PSs.nox (pss_one (ps_ret (pe_and (pe_callH h_is_count (hr.mono (by decide)) (by rfl) (pa_cons (pv 0) pa_nil)) (pe_one (pe_cmpR op_le (pv 0) (pv 1) (nomark _)))))),
  bodyF h fun ds Φ hp => by
    obtain ⟨i, m, rfl, h0, h1, q⟩ := hp
    (repeat' walk_at "wp") <;> try exact q
    rw [show decide (i ≤ m) = true from decide_eq_true h1]; exact q
⟩
theorem has_is_count_to (D : Dn K mg "is_count_to" s_is_count_to) (tx : Tx K mg) (h_is_count : Has P w K mg base "is_count" ["value"] 2 (SpF K pre_is_count)) : Has P w K mg base "is_count_to" ["value", "most"] 3 (SpF K pre_is_count_to) := has_of D (fun _ _ _ _ _ _ us hl => match us, hl with | [_, _], _ => rfl) (ok_is_count_to tx h_is_count)

theorem ok_are_counts (tx : Tx K mg) (h_is_count_to : Has P w K mg base "is_count_to" ["value", "most"] 3 (SpF K pre_is_count_to)) : ∀ f fd, FnP K "are_counts" s_are_counts f fd → FnOk P w K mg base CX0 4 f fd ["value", "many", "most"] (SpF K pre_are_counts) := fun f fd F =>
  F.ok sc_are_counts (fun vs H Q E s => lenF (fun ds Φ h => by
    obtain ⟨_, _, _, rfl, _⟩ := h; rfl) s) fun cdv A outer s H vs Q E hr h => ⟨_, PSs.nox (pss_one (ps_ret (pe_and (pe_callB (id := "isinstance") call_isi (by rfl) tx.isinstance (by decide +kernel) (pa_cons (pv 0) (pa_cons (pe_bltn (v := .ty "tuple") (by rfl) tx.tuple (by decide +kernel) rfl) pa_nil))) (pe_and (pe_cmpR op_eq (pe_callB (id := "len") call_len_seq (by rfl) tx.len (by decide +kernel) (pa_cons (pv 0) pa_nil)) (pv 1) (nomark _)) (pe_one (pe_callB (id := "all") (cr_all rfl) (by rfl) tx.all (by decide +kernel) (pa_cons (pe_lc (own := [("count", 3)]) (g := gName 3) (by rfl) sc_are_counts.nd (pi_tup (pv 0)) (blkOk_by (N := N_are_counts) (sc := defScope s_are_counts) (by decide +kernel)) (fun _ _ _ _ _ => (pg_name (i := 3) sc_are_counts.nd rfl (by first | exact Or.inl rfl | exact Or.inr rfl))) (fun _ _ _ _ _ => pts_nil) (fun _ _ _ _ _ => (pe_callH h_is_count_to (hr.mono (by decide)) (by rfl) (pa_cons (pv 3) (pa_cons (pv 2) pa_nil))))) pa_nil))))))),
  bodyF h fun ds Φ hp => by
    obtain ⟨ns, n, m, rfl, hl, hn, hc, q⟩ := hp
    repeat' walk_at "wp"
    refine e_mapT (fun _ => .bool true) rfl (by rw [List.length_map]; omega) (fun y hy => ?_) ?_
    · obtain ⟨x, hx, rfl⟩ := List.mem_map.mp hy
      have sz := hc x hx
      repeat' walk_at "wp"
      rfl
    · refine a_nil (cb_all_ (ns.map fun _ => true) (by rw [List.map_map, List.map_map]; rfl) ?_)
      rw [all_map_id]
      have e : (ns.all fun _ => true) = true := List.all_eq_true.mpr fun _ _ => rfl
      rw [e]
      exact q
⟩
theorem has_are_counts (D : Dn K mg "are_counts" s_are_counts) (tx : Tx K mg) (h_is_count_to : Has P w K mg base "is_count_to" ["value", "most"] 3 (SpF K pre_is_count_to)) : Has P w K mg base "are_counts" ["value", "many", "most"] 4 (SpF K pre_are_counts) := has_of D (fun _ _ _ _ _ _ us hl => match us, hl with | [_, _, _], _ => rfl) (ok_are_counts tx h_is_count_to)

theorem ok_is_listed (tx : Tx K mg) : ∀ f fd, FnP K "is_listed" s_is_listed f fd → FnOk P w K mg base CX0 1 f fd ["value"] (SpF K pre_is_listed) := fun f fd F =>
  F.ok sc_is_listed (fun vs H Q E s => lenF (fun ds Φ h => by
    obtain ⟨_, rfl | rfl, _⟩ := h <;> rfl) s) fun cdv A outer s H vs Q E hr h => ⟨_, PSs.nox (pss_one (ps_ret (pe_callB (id := "isinstance") call_isiT (by rfl) tx.isinstance (by decide +kernel) (pa_cons (pv 0) (pa_cons (pe_tup (pa_cons (pe_bltn (v := .ty "list") (by rfl) tx.list (by decide +kernel) rfl) (pa_cons (pe_bltn (v := .ty "tuple") (by rfl) tx.tuple (by decide +kernel) rfl) pa_nil))) pa_nil))))),
  bodyF h fun ds Φ hp => by
    obtain ⟨xs, rfl | rfl, q⟩ := hp <;> (repeat' walk_at "wp") <;> exact q
⟩
theorem has_is_listed (D : Dn K mg "is_listed" s_is_listed) (tx : Tx K mg) : Has P w K mg base "is_listed" ["value"] 1 (SpF K pre_is_listed) := has_of D (fun _ _ _ _ _ _ us hl => match us, hl with | [_], _ => rfl) (ok_is_listed tx)

theorem ok_is_rising (tx : Tx K mg) : ∀ f fd, FnP K "is_rising" s_is_rising f fd → FnOk P w K mg base CX0 1 f fd ["values"] (SpF K pre_is_rising) := fun f fd F =>
  F.ok sc_is_rising (fun vs H Q E s => lenF (fun ds Φ h => by
    obtain ⟨_, rfl, _⟩ := h; rfl) s) fun cdv A outer s H vs Q E hr h => ⟨_, PSs.nox (pss_one (ps_ret (pe_callB (id := "all") (cr_all rfl) (by rfl) tx.all (by decide +kernel) (pa_cons (pe_lc (own := [("at", 1)]) (g := gName 1) (by rfl) sc_is_rising.nd (pi_range1 (by rfl) tx.range (pa_cons (pe_op op_sub (pe_callB (id := "len") call_len_seq (by rfl) tx.len (by decide +kernel) (pa_cons (pv 0) pa_nil)) pe_int) pa_nil)) (blkOk_by (N := N_is_rising) (sc := defScope s_is_rising) (by decide +kernel)) (fun _ _ _ _ _ => (pg_name (i := 1) sc_is_rising.nd rfl (by first | exact Or.inl rfl | exact Or.inr rfl))) (fun _ _ _ _ _ => pts_nil) (fun _ _ _ _ _ => (pe_cmpR op_lt (pe_ix (r := rIxT K) ix_tup (pv 0) (pv 1) (fun _ _ => rfl)) (pe_ix (r := rIxT K) ix_tup (pv 0) (pe_op op_add (pv 1) pe_int) (fun _ _ => rfl)) (nomark _)))) pa_nil)))),
  bodyF h fun ds Φ hp => by
    obtain ⟨ns, rfl, hl, asc, q⟩ := hp
    repeat' walk_at "wp"
    refine e_map (js := [1]) (fun k hk => by rw [List.mem_singleton.mp hk]; decide) (i_rng1 (a_cons (e_op (e_cb (a_cons (e_var rfl (a_nil (cb_len_ (.inl rfl) (e_int (od_sub (a_nil ⟨_, rfl, ?_, ?_, ?_, fun y => .bool true, fun i x hx => g_name ?_, ?_⟩)))))))))))
    · rw [List.length_map]; omega
    · rw [List.length_map]; omega
    · rw [rng_len, List.length_map]; omega
    · have hi : i < (ns.length : Int) - 1 := by
        have := (List.getElem?_eq_some_iff.mp hx).1
        rw [rng_len, List.length_map] at this
        omega
      have hx2 : x = .int (i : Nat) := by
        rw [rng_get (by rw [List.length_map]; omega)] at hx
        have := Option.some.inj hx
        rw [← this]
        simp
      subst hx2
      repeat' walk_at "wp"
      refine od_ixT_ (FwN.at_nat (j := i) (by rw [List.length_map]; omega)) ?_
      repeat' walk_at "wp"
      refine od_ixT_ (FwN.at_nat (j := i + 1) (by rw [List.length_map]; omega)) ?_
      rw [List.getElem_map, List.getElem_map]
      repeat' walk_at "wp"
      have := List.pairwise_iff_getElem.mp asc i (i + 1) (by omega) (by omega) (by omega)
      rw [decide_eq_true this]
    · refine a_nil (cb_all_ ((List.range (ns.length - 1)).map fun _ => true) ?_ ?_)
      · unfold rng
        rw [List.map_map, List.map_map, List.length_map]
        have e : ((ns.length : Int) - 1).toNat = ns.length - 1 := by omega
        rw [e]
        rfl
      · rw [all_map_id]
        have e : ((List.range (ns.length - 1)).all fun _ => true) = true := List.all_eq_true.mpr fun _ _ => rfl
        rw [e]
        exact q
⟩
theorem has_is_rising (D : Dn K mg "is_rising" s_is_rising) (tx : Tx K mg) : Has P w K mg base "is_rising" ["values"] 1 (SpF K pre_is_rising) := has_of D (fun _ _ _ _ _ _ us hl => match us, hl with | [_], _ => rfl) (ok_is_rising tx)

theorem ok_is_small_letter (tx : Tx K mg) : ∀ f fd, FnP K "is_small_letter" s_is_small_letter f fd → FnOk P w K mg base CX0 1 f fd ["sign"] (SpF K pre_is_small_letter) := fun f fd F =>
  F.ok sc_is_small_letter (fun vs H Q E s => lenF (fun ds Φ h => by
    obtain ⟨_, rfl, _⟩ := h; rfl) s) fun cdv A outer s H vs Q E hr h => ⟨_, PSs.nox (pss_one (ps_ret (pe_chain op_le_str op_le_str pe_str (pv 0) pe_str))),
  bodyF h fun ds Φ hp => by
    obtain ⟨c, rfl, q⟩ := hp
    refine s_ret (e_chain (e_str (e_var rfl (FwWd.od_leS ⟨_, rfl, ?_⟩))))
    have e1 : (!decide ((([c] : List Nat)) < [97])) = decide (97 ≤ c) := by
      by_cases h : c < 97
      · rw [decide_eq_true (show ([c] : List Nat) < [97] from List.cons_lt_cons_iff.mpr (.inl h)), decide_eq_false (by omega)]
        rfl
      · have n : ¬ ([c] : List Nat) < [97] := fun z => by
          rcases List.cons_lt_cons_iff.mp z with z | z
          · exact h z
          · simp at z
        rw [decide_eq_false n, decide_eq_true (by omega)]
        rfl
    have e2 : (!decide ((([122] : List Nat)) < [c])) = decide (c ≤ 122) := by
      by_cases h : 122 < c
      · rw [decide_eq_true (show ([122] : List Nat) < [c] from List.cons_lt_cons_iff.mpr (.inl h)), decide_eq_false (by omega)]
        rfl
      · have n : ¬ ([122] : List Nat) < [c] := fun z => by
          rcases List.cons_lt_cons_iff.mp z with z | z
          · exact h z
          · simp at z
        rw [decide_eq_false n, decide_eq_true (by omega)]
        rfl
    unfold smallB at q
    by_cases h : 97 ≤ c
    · have e3 : (!decide ((⟨#[c]⟩ : Str).cps.toList < ("a" : Str).cps.toList)) = true := e1.trans (decide_eq_true h)
      rw [e3, if_pos rfl]
      refine e_str (FwWd.od_leS ?_)
      rw [decide_eq_true h, Bool.true_and] at q
      rw [show (!decide ((("z" : Str).cps.toList) < (⟨#[c]⟩ : Str).cps.toList)) = decide (c ≤ 122) from e2]
      exact q
    · have e3 : (!decide ((⟨#[c]⟩ : Str).cps.toList < ("a" : Str).cps.toList)) = false := e1.trans (decide_eq_false h)
      rw [e3, if_neg (by decide)]
      rw [decide_eq_false h, Bool.false_and] at q
      exact q
⟩
theorem has_is_small_letter (D : Dn K mg "is_small_letter" s_is_small_letter) (tx : Tx K mg) : Has P w K mg base "is_small_letter" ["sign"] 1 (SpF K pre_is_small_letter) := has_of D (fun _ _ _ _ _ _ us hl => match us, hl with | [_], _ => rfl) (ok_is_small_letter tx)

theorem ok_is_digit (tx : Tx K mg) : ∀ f fd, FnP K "is_digit" s_is_digit f fd → FnOk P w K mg base CX0 1 f fd ["sign"] (SpF K pre_is_digit) := fun f fd F =>
  F.ok sc_is_digit (fun vs H Q E s => lenF (fun ds Φ h => by
    obtain ⟨_, rfl, _⟩ := h; rfl) s) fun cdv A outer s H vs Q E hr h => ⟨_, PSs.nox (pss_one (ps_ret (pe_chain op_le_str op_le_str pe_str (pv 0) pe_str))),
  bodyF h fun ds Φ hp => by
    obtain ⟨c, rfl, q⟩ := hp
    refine s_ret (e_chain (e_str (e_var rfl (FwWd.od_leS ⟨_, rfl, ?_⟩))))
    have e1 : (!decide ((([c] : List Nat)) < [48])) = decide (48 ≤ c) := by
      by_cases h : c < 48
      · rw [decide_eq_true (show ([c] : List Nat) < [48] from List.cons_lt_cons_iff.mpr (.inl h)), decide_eq_false (by omega)]
        rfl
      · have n : ¬ ([c] : List Nat) < [48] := fun z => by
          rcases List.cons_lt_cons_iff.mp z with z | z
          · exact h z
          · simp at z
        rw [decide_eq_false n, decide_eq_true (by omega)]
        rfl
    have e2 : (!decide ((([57] : List Nat)) < [c])) = decide (c ≤ 57) := by
      by_cases h : 57 < c
      · rw [decide_eq_true (show ([57] : List Nat) < [c] from List.cons_lt_cons_iff.mpr (.inl h)), decide_eq_false (by omega)]
        rfl
      · have n : ¬ ([57] : List Nat) < [c] := fun z => by
          rcases List.cons_lt_cons_iff.mp z with z | z
          · exact h z
          · simp at z
        rw [decide_eq_false n, decide_eq_true (by omega)]
        rfl
    unfold digB at q
    by_cases h : 48 ≤ c
    · have e3 : (!decide ((⟨#[c]⟩ : Str).cps.toList < ("0" : Str).cps.toList)) = true := e1.trans (decide_eq_true h)
      rw [e3, if_pos rfl]
      refine e_str (FwWd.od_leS ?_)
      rw [decide_eq_true h, Bool.true_and] at q
      rw [show (!decide ((("9" : Str).cps.toList) < (⟨#[c]⟩ : Str).cps.toList)) = decide (c ≤ 57) from e2]
      exact q
    · have e3 : (!decide ((⟨#[c]⟩ : Str).cps.toList < ("0" : Str).cps.toList)) = false := e1.trans (decide_eq_false h)
      rw [e3, if_neg (by decide)]
      rw [decide_eq_false h, Bool.false_and] at q
      exact q
⟩
theorem has_is_digit (D : Dn K mg "is_digit" s_is_digit) (tx : Tx K mg) : Has P w K mg base "is_digit" ["sign"] 1 (SpF K pre_is_digit) := has_of D (fun _ _ _ _ _ _ us hl => match us, hl with | [_], _ => rfl) (ok_is_digit tx)

theorem ok_is_of_word (tx : Tx K mg) (h_is_small_letter : Has P w K mg base "is_small_letter" ["sign"] 1 (SpF K pre_is_small_letter)) (h_is_digit : Has P w K mg base "is_digit" ["sign"] 1 (SpF K pre_is_digit)) : ∀ f fd, FnP K "is_of_word" s_is_of_word f fd → FnOk P w K mg base CX0 2 f fd ["sign"] (SpF K pre_is_of_word) := fun f fd F =>
  F.ok sc_is_of_word (fun vs H Q E s => lenF (fun ds Φ h => by
    obtain ⟨_, rfl, _⟩ := h; rfl) s) fun cdv A outer s H vs Q E hr h => ⟨_, PSs.nox (pss_one (ps_ret (pe_or (pe_callH h_is_small_letter (hr.mono (by decide)) (by rfl) (pa_cons (pv 0) pa_nil)) (pe_one (pe_callH h_is_digit (hr.mono (by decide)) (by rfl) (pa_cons (pv 0) pa_nil)))))),
  bodyF h fun ds Φ hp => by
    obtain ⟨c, rfl, q⟩ := hp
    repeat' walk_at "wp"
    unfold ofB at q
    refine iteB (fun e => ?_) (fun e => ?_)
    · rw [e, Bool.true_or] at q
      exact q
    · rw [e, Bool.false_or] at q
      repeat' walk_at "wp"
      exact q
⟩
theorem has_is_of_word (D : Dn K mg "is_of_word" s_is_of_word) (tx : Tx K mg) (h_is_small_letter : Has P w K mg base "is_small_letter" ["sign"] 1 (SpF K pre_is_small_letter)) (h_is_digit : Has P w K mg base "is_digit" ["sign"] 1 (SpF K pre_is_digit)) : Has P w K mg base "is_of_word" ["sign"] 2 (SpF K pre_is_of_word) := has_of D (fun _ _ _ _ _ _ us hl => match us, hl with | [_], _ => rfl) (ok_is_of_word tx h_is_small_letter h_is_digit)

theorem ok_is_value_word (tx : Tx K mg) (h_is_of_word : Has P w K mg base "is_of_word" ["sign"] 2 (SpF K pre_is_of_word)) : ∀ f fd, FnP K "is_value_word" s_is_value_word f fd → FnOk P w K mg base CX0 3 f fd ["value"] (SpF K pre_is_value_word) := fun f fd F =>
  F.ok sc_is_value_word (fun vs H Q E s => lenF (fun ds Φ h => by
    obtain ⟨_, rfl, _⟩ := h; rfl) s) fun cdv A outer s H vs Q E hr h => ⟨_, PSs.nox (pss_cons (ps_if (PW.pt (pw_or (pt_not (pt_val (pe_callB (id := "isinstance") call_isi (by rfl) tx.isinstance (by decide +kernel) (pa_cons (pv 0) (pa_cons (pe_bltn (v := .ty "str") (by rfl) tx.str (by decide +kernel) rfl) pa_nil))))) (pw_or1 (pt_not (pt_chain op_le op_le pe_int (pe_callB (id := "len") call_len_str (by rfl) tx.len (by decide +kernel) (pa_cons (pv 0) pa_nil)) (pe_glob (v := .int 8) (by rfl) tx.MOST_LETTERS.choose_spec ⟨_, rfl⟩)))))) (pss_one (ps_ret pe_bl)) pss_nil)
    (pss_one (ps_ret (pe_callB (id := "all") (cr_all rfl) (by rfl) tx.all (by decide +kernel) (pa_cons (pe_lc (own := [("sign", 1)]) (g := gName 1) (by rfl) sc_is_value_word.nd (pi_str (pv 0)) (blkOk_by (N := N_is_value_word) (sc := defScope s_is_value_word) (by decide +kernel)) (fun _ _ _ _ _ => (pg_name (i := 1) sc_is_value_word.nd rfl (by first | exact Or.inl rfl | exact Or.inr rfl))) (fun _ _ _ _ _ => pts_nil) (fun _ _ _ _ _ => (pe_callH h_is_of_word (hr.mono (by decide)) (by rfl) (pa_cons (pv 1) pa_nil)))) pa_nil))))),
  bodyF h fun ds Φ hp => by
    obtain ⟨w, rfl, ok, q⟩ := hp
    have o1 := ok.one
    have o2 := ok.most
    repeat' walk_at "wp"
    refine FwWd.cb_lenS (by omega) ?_
    repeat' walk_at "wp"
    refine e_map (js := [1]) (fun k hk => by rw [List.mem_singleton.mp hk]; decide) (FwWd.i_str (e_var rfl ⟨w, rfl, ?_, fun _ => .bool true, fun i x hx => g_name ?_, ?_⟩))
    · unfold FwWd.signs
      rw [List.length_map]
      have : w.cps.toList.length = w.length := by simp [Str.length]
      omega
    · unfold FwWd.signs at hx
      rw [List.getElem?_map] at hx
      obtain ⟨c, hc, rfl⟩ := Option.map_eq_some_iff.mp hx
      repeat' walk_at "wp"
      rw [ok.all c (List.mem_of_getElem? hc)]
    · refine a_nil (cb_all_ ((FwWd.signs w).map fun _ => true) (by rw [List.map_map]; rfl) ?_)
      rw [all_map_id]
      have e : ((FwWd.signs w).all fun _ => true) = true := List.all_eq_true.mpr fun _ _ => rfl
      rw [e]
      exact q
⟩
theorem has_is_value_word (D : Dn K mg "is_value_word" s_is_value_word) (tx : Tx K mg) (h_is_of_word : Has P w K mg base "is_of_word" ["sign"] 2 (SpF K pre_is_of_word)) : Has P w K mg base "is_value_word" ["value"] 3 (SpF K pre_is_value_word) := has_of D (fun _ _ _ _ _ _ us hl => match us, hl with | [_], _ => rfl) (ok_is_value_word tx h_is_of_word)

theorem ok_is_name_word (tx : Tx K mg) (h_is_value_word : Has P w K mg base "is_value_word" ["value"] 3 (SpF K pre_is_value_word)) (h_is_small_letter : Has P w K mg base "is_small_letter" ["sign"] 1 (SpF K pre_is_small_letter)) : ∀ f fd, FnP K "is_name_word" s_is_name_word f fd → FnOk P w K mg base CX0 4 f fd ["value"] (SpF K pre_is_name_word) := fun f fd F =>
  F.ok sc_is_name_word (fun vs H Q E s => lenF (fun ds Φ h => by
    obtain ⟨_, rfl, _⟩ := h; rfl) s) fun cdv A outer s H vs Q E hr h => ⟨_, PSs.nox (pss_one (ps_ret (pe_and (pe_callH h_is_value_word (hr.mono (by decide)) (by rfl) (pa_cons (pv 0) pa_nil)) (pe_and (pe_callH h_is_small_letter (hr.mono (by decide)) (by rfl) (pa_cons (pe_ix (r := rIxS) ix_str (pv 0) pe_int (fun _ _ => rfl)) pa_nil)) (pe_one (pe_cmpR (FwWd.op_notInD (hu65 hr)) (pv 0) (pe_glob (v := .ref tx.ROW_WORDS.choose) (by rfl) tx.ROW_WORDS.choose_spec.1 rfl) (by rfl))))))),
  bodyF h fun ds Φ hp => by
    obtain ⟨w, rfl, ok, q⟩ := hp
    have o1 := ok.word.one
    have o2 := ok.word.most
    obtain ⟨c, hc, sc⟩ := ok.first
    repeat' walk_at "wp"
    refine ⟨ok.word, ?_⟩
    repeat' walk_at "wp"
    have ha : atI w.cps.toList 0 = some c := by
      have e : atI w.cps.toList ((0 : Nat) : Int) = w.cps.toList[0]? := by
        have hl : 0 < w.cps.toList.length := by
          have : w.cps.toList.length = w.length := by simp [Str.length]
          omega
        unfold atI
        rw [ixN_nat (by decide) (by omega)]
        rfl
      exact e.trans hc
    refine FwWd.od_ixS (by omega) ha ?_
    repeat' walk_at "wp"
    rw [sc]
    repeat' walk_at "wp"
    refine Fw.e_c (d := strT rowWords) (fun Hk => FwWd.dx_strs (tx.ROW_WORDS.choose_spec.2 Hk)) ?_
    refine FwWd.od_inT (sh_word ok.word) (by decide +kernel) ?_
    rw [in_strs]
    have e : rowWords.contains w = false := by
      cases z : rowWords.contains w with
      | false => rfl
      | true => exact absurd (List.contains_iff_mem.mp z) ok.no
    rw [e]
    exact q
⟩
theorem has_is_name_word (D : Dn K mg "is_name_word" s_is_name_word) (tx : Tx K mg) (h_is_value_word : Has P w K mg base "is_value_word" ["value"] 3 (SpF K pre_is_value_word)) (h_is_small_letter : Has P w K mg base "is_small_letter" ["sign"] 1 (SpF K pre_is_small_letter)) : Has P w K mg base "is_name_word" ["value"] 4 (SpF K pre_is_name_word) := has_of D (fun _ _ _ _ _ _ us hl => match us, hl with | [_], _ => rfl) (ok_is_name_word tx h_is_value_word h_is_small_letter)

theorem ok_are_unlike (tx : Tx K mg) : ∀ f fd, FnP K "are_unlike" s_are_unlike f fd → FnOk P w K mg base CX0 1 f fd ["words"] (SpF K pre_are_unlike) := fun f fd F =>
  F.ok sc_are_unlike (fun vs H Q E s => lenF (fun ds Φ h => by
    rcases h with ⟨_, rfl | rfl, _⟩ | ⟨_, rfl, _⟩ <;> rfl) s) fun cdv A outer s H vs Q E hr h => ⟨_, PSs.nox (pss_one (ps_ret (pe_cmpR op_eq (pe_callB (id := "len") (FwK.cr_or call_lenD FwD.call_lenX) (by rfl) tx.len (by decide +kernel) (pa_cons (FwK.pe_or (pe_dc (own := [("word", 1)]) (g := gName 1) (by rfl) sc_are_unlike.nd (FwU.pi_any (pv 0)) (blkOk_by (N := N_are_unlike) (sc := defScope s_are_unlike) (by decide +kernel)) (fun _ _ _ _ _ => (pg_name (i := 1) sc_are_unlike.nd rfl (.inl rfl))) (fun _ _ _ _ _ => pts_nil) (fun _ _ _ _ _ => (pv 1)) (fun _ _ _ _ _ => pe_bl)) (FwD.pe_dcX (own := [("word", 1)]) (g := gName 1) (hu64 hr) (by rfl) sc_are_unlike.nd (FwU.pi_any (pv 0)) (blkOk_by (N := N_are_unlike) (sc := defScope s_are_unlike) (by decide +kernel)) (fun _ _ _ _ _ => (pg_name (i := 1) sc_are_unlike.nd rfl (.inl rfl))) (fun _ _ _ _ _ => pts_nil) (fun _ _ _ _ _ => (pv 1)) (fun _ _ _ _ _ => pe_bl))) pa_nil)) (pe_callB (id := "len") call_len_seq (by rfl) tx.len (by decide +kernel) (pa_cons (pv 0) pa_nil)) (nomark _)))),
  bodyF h fun ds Φ hp => by
    rcases hp with ⟨ks, hx, hl, nd, q⟩ | ⟨tl, rfl, hl, nd, q⟩
    · have e1 : ∃ x, ds = [x] ∧ (x = .list (ks.map FwK.keyD) ∨ x = .tuple (ks.map FwK.keyD)) := by
        rcases hx with h | h
        · exact ⟨_, h, .inl rfl⟩
        · exact ⟨_, h, .inr rfl⟩
      obtain ⟨x, rfl, hz⟩ := e1
      refine s_ret (Fw.e_op (FwK.e_lenK (FwK.k_dc (js := [1]) (fun k hk => by rw [List.mem_singleton.mp hk]; decide) (Fw.i_any (e_var rfl ⟨ks.map FwK.keyD, hz, by rw [List.length_map]; omega, fun i acc => acc = (ks.take i).foldl FwK.putKey [], rfl, fun i y acc hy inv _ => g_name (t_yes ?_), fun acc _ inv => ?_⟩)))))
      · rw [if_pos rfl]
        rw [List.getElem?_map] at hy
        obtain ⟨k, hk, rfl⟩ := Option.map_eq_some_iff.mp hy
        refine e_var rfl ⟨k, rfl, e_bl ?_⟩
        show FwK.putKey acc k = (ks.take (i + 1)).foldl FwK.putKey []
        rw [inv, List.take_add_one, hk, List.foldl_append]
        rfl
      · rw [List.length_map, List.take_length] at inv
        subst inv
        have e2 : (ks.foldl FwK.putKey []).length = ks.length := (FwK.putKeys_nodup ks).mpr nd
        rcases hz with rfl | rfl
        · repeat' walk_at "wp"
          rw [List.length_map, e2, decide_eq_true rfl]
          exact q
        · repeat' walk_at "wp"
          rw [List.length_map, e2, decide_eq_true rfl]
          exact q
    · refine s_ret (Fw.e_op (FwK.e_lenX2 (Fw.d_dc (js := [1]) (fun k hk => by rw [List.mem_singleton.mp hk]; decide) (Fw.i_any (e_var rfl ⟨tl.map fun m => tupI m, .inr rfl, by rw [List.length_map]; omega, fun i acc => acc.map (·.1) = (tl.take i).map (fun m => tupI m), rfl, fun i y acc hy inv _ => g_name (t_yes ?_), fun acc _ inv => ?_⟩)))))
      · rw [if_pos rfl]
        rw [List.getElem?_map] at hy
        obtain ⟨m, hm, rfl⟩ := Option.map_eq_some_iff.mp hy
        refine e_var rfl ⟨FwN.key_ok _, e_bl ?_⟩
        show (FwD.putD acc (tupI m) (.bool true)).map (·.1) = (tl.take (i + 1)).map fun m => tupI m
        have hn : m ∉ tl.take i := fun z => by
          obtain ⟨hi, e⟩ := List.getElem?_eq_some_iff.mp hm
          obtain ⟨j, hj, ej⟩ := List.mem_take_iff_getElem.mp z
          have := (List.pairwise_iff_getElem.mp nd) j i (by omega) hi (by omega)
          exact this (by rw [ej, e])
        rw [FwN.put_rows inv, if_neg hn, List.take_add_one, hm]
        rfl
      · rw [List.length_map, List.take_length] at inv
        have e2 : acc.length = tl.length := by
          have := congrArg List.length inv
          rwa [List.length_map, List.length_map] at this
        repeat' walk_at "wp"
        rw [List.length_map, e2, decide_eq_true rfl]
        exact q
⟩
theorem has_are_unlike (D : Dn K mg "are_unlike" s_are_unlike) (tx : Tx K mg) : Has P w K mg base "are_unlike" ["words"] 1 (SpF K pre_are_unlike) := has_of D (fun _ _ _ _ _ _ us hl => match us, hl with | [_], _ => rfl) (ok_are_unlike tx)

theorem ok_is_name (tx : Tx K mg) (h_are_unlike : Has P w K mg base "are_unlike" ["words"] 1 (SpF K pre_are_unlike)) (h_is_name_word : Has P w K mg base "is_name_word" ["value"] 4 (SpF K pre_is_name_word)) (h_is_value_word : Has P w K mg base "is_value_word" ["value"] 3 (SpF K pre_is_value_word)) : ∀ f fd, FnP K "is_name" s_is_name f fd → FnOk P w K mg base CX0 5 f fd ["value"] (SpF K pre_is_name) := fun f fd F =>
  F.ok sc_is_name (fun vs H Q E s => lenF (fun ds Φ h => by
    obtain ⟨_, rfl, _⟩ := h; rfl) s) fun cdv A outer s H vs Q E hr h => ⟨_, PSs.nox (pss_cons (ps_if (PW.pt (pw_or (pt_not (pt_val (pe_callB (id := "isinstance") call_isi (by rfl) tx.isinstance (by decide +kernel) (pa_cons (pv 0) (pa_cons (pe_bltn (v := .ty "tuple") (by rfl) tx.tuple (by decide +kernel) rfl) pa_nil))))) (pw_or1 (pt_cmpR op_ne (pe_callB (id := "len") call_len_seq (by rfl) tx.len (by decide +kernel) (pa_cons (pv 0) pa_nil)) pe_int (nomark _))))) (pss_one (ps_ret pe_bl)) pss_nil)
    (pss_cons (ps_asg (pv 0) (pg_tup (by rfl) (pgs_cons (pg_name (i := 1) sc_is_name.nd rfl (.inl rfl)) (pgs_cons (pg_name (i := 2) sc_is_name.nd rfl (.inl rfl)) pgs_nil))))
    (pss_cons (ps_if (PW.pt (pw_or (pt_not (pt_val (pe_callH h_is_name_word (hr.mono (by decide)) (by rfl) (pa_cons (pv 1) pa_nil)))) (pw_or (pt_not (pt_val (pe_callB (id := "isinstance") call_isi (by rfl) tx.isinstance (by decide +kernel) (pa_cons (pv 2) (pa_cons (pe_bltn (v := .ty "tuple") (by rfl) tx.tuple (by decide +kernel) rfl) pa_nil))))) (pw_or1 (pt_not (pt_chain op_le op_le pe_int (pe_callB (id := "len") call_len_seq (by rfl) tx.len (by decide +kernel) (pa_cons (pv 2) pa_nil)) (pe_glob (v := .int 6) (by rfl) tx.MOST_VALUES.choose_spec ⟨_, rfl⟩))))))) (pss_one (ps_ret pe_bl)) pss_nil)
    (pss_one (ps_ret (pe_and (pe_callB (id := "all") (cr_all rfl) (by rfl) tx.all (by decide +kernel) (pa_cons (pe_lc (own := [("word", 3)]) (g := gName 3) (by rfl) sc_is_name.nd (pi_tup (pv 2)) (blkOk_by (N := N_is_name) (sc := defScope s_is_name) (by decide +kernel)) (fun _ _ _ _ _ => (pg_name (i := 3) sc_is_name.nd rfl (by first | exact Or.inl rfl | exact Or.inr rfl))) (fun _ _ _ _ _ => pts_nil) (fun _ _ _ _ _ => (pe_callH h_is_value_word (hr.mono (by decide)) (by rfl) (pa_cons (pv 3) pa_nil)))) pa_nil)) (pe_one (pe_callH h_are_unlike (hr.mono (by decide)) (by rfl) (pa_cons (pv 2) pa_nil))))))))),
  bodyF h fun ds Φ hp => by
    obtain ⟨p, rfl, ⟨n1, n2, n3, n4, n5⟩, q⟩ := hp
    repeat' walk_at "wp"
    refine s_asgG (js := [1] ++ ([2] ++ [])) (e_var rfl (g_tup_ [_, _] rfl rfl (g_cons (g_name (g_cons (g_name (g_nil ?_)))))))
    repeat' walk_at "wp"
    refine e_mapT (fun _ => .bool true) rfl (by rw [List.length_map]; omega) (fun y hy => ?_) ?_
    · obtain ⟨w, hw, rfl⟩ := List.mem_map.mp hy
      repeat' walk_at "wp"
      exact ⟨n4 w hw, rfl⟩
    · refine a_nil (cb_allT rfl ?_)
      repeat' walk_at "wp"
      refine .inl ⟨p.2.map .inr, .inr ?_, by rw [List.length_map]; omega, ?_, q⟩
      · rw [List.map_map]
        rfl
      · exact List.pairwise_map.mpr (n5.imp fun {a b} h z => h (Sum.inr.inj z))
⟩
theorem has_is_name (D : Dn K mg "is_name" s_is_name) (tx : Tx K mg) (h_are_unlike : Has P w K mg base "are_unlike" ["words"] 1 (SpF K pre_are_unlike)) (h_is_name_word : Has P w K mg base "is_name_word" ["value"] 4 (SpF K pre_is_name_word)) (h_is_value_word : Has P w K mg base "is_value_word" ["value"] 3 (SpF K pre_is_value_word)) : Has P w K mg base "is_name" ["value"] 5 (SpF K pre_is_name) := has_of D (fun _ _ _ _ _ _ us hl => match us, hl with | [_], _ => rfl) (ok_is_name tx h_are_unlike h_is_name_word h_is_value_word)

theorem ok_how_many_places (tx : Tx K mg) : ∀ f fd, FnP K "how_many_places" s_how_many_places f fd → FnOk P w K mg base CX0 1 f fd ["names"] (SpF K pre_how_many_places) := fun f fd F =>
  F.ok sc_how_many_places (fun vs H Q E s => lenF (fun ds Φ h => by
    obtain ⟨_, _, _, rfl, _⟩ := h; rfl) s) fun cdv A outer s H vs Q E hr h => ⟨_, PSs.nox (pss_cons (ps_set (i := 1) sc_how_many_places.nd rfl (.inl rfl) pe_int)
    (pss_cons (ps_for PassesOwn.never rfl (pi_tup (pv 0)) (pg_tup (by rfl) (pgs_cons (pg_name (i := 2) sc_how_many_places.nd rfl (.inl rfl)) (pgs_cons (pg_name (i := 3) sc_how_many_places.nd rfl (.inl rfl)) pgs_nil))) (pss_one (ps_set (i := 1) sc_how_many_places.nd rfl (.inl rfl) (pe_op op_mul (pv 1) (pe_callB (id := "len") call_len_seq (by rfl) tx.len (by decide +kernel) (pa_cons (pv 3) pa_nil))))))
    (pss_one (ps_ret (pv 1))))),
  bodyF h fun ds Φ hp => by
    obtain ⟨nm, tl, n, rfl, r, q⟩ := hp
    have r1 := r.len
    have r3 := r.four
    refine s_seq (s_asg (e_int ?_))
    refine s_seq (s_for (js := [2] ++ ([3] ++ [])) (i_tup_ (e_var rfl ⟨_, rfl, fun i e => ∃ s2 s3, e = [.dat (namesD nm), .dat (.int ((nm.take i).foldl (fun m p => m * p.2.length) 1 : Nat)), s2, s3], ⟨_, _, rfl⟩, fun i x e hx => ?_, ?_⟩)))
    · rintro ⟨s2, s3, rfl⟩
      rw [List.getElem?_map] at hx
      obtain ⟨p, hp, rfl⟩ := Option.map_eq_some_iff.mp hx
      have b1 := prod_take r i
      have b2 := (r.ok p (List.mem_of_getElem? hp)).2.2.1
      refine g_tup_ [_, _] rfl rfl (g_cons (g_name (g_cons (g_name (g_nil ?_)))))
      repeat' walk_at "wp"
      · rw [List.length_map]
        exact .inl ⟨by omega, by omega⟩
      · refine ⟨.dat (.str p.1), .dat (strT p.2), ?_⟩
        rw [List.take_add_one, hp, List.foldl_append, List.length_map]
        rfl
    · rintro e ⟨s2, s3, rfl⟩
      rw [List.length_map, List.take_length]
      repeat' walk_at "wp"
      exact q
⟩
theorem has_how_many_places (D : Dn K mg "how_many_places" s_how_many_places) (tx : Tx K mg) : Has P w K mg base "how_many_places" ["names"] 1 (SpF K pre_how_many_places) := has_of D (fun _ _ _ _ _ _ us hl => match us, hl with | [_], _ => rfl) (ok_how_many_places tx)

theorem ok_are_names (tx : Tx K mg) (h_are_unlike : Has P w K mg base "are_unlike" ["words"] 1 (SpF K pre_are_unlike)) (h_how_many_places : Has P w K mg base "how_many_places" ["names"] 1 (SpF K pre_how_many_places)) (h_is_name : Has P w K mg base "is_name" ["value"] 5 (SpF K pre_is_name)) : ∀ f fd, FnP K "are_names" s_are_names f fd → FnOk P w K mg base CX0 6 f fd ["value"] (SpF K pre_are_names) := fun f fd F =>
  F.ok sc_are_names (fun vs H Q E s => lenF (fun ds Φ h => by
    obtain ⟨_, _, _, rfl, _⟩ := h; rfl) s) fun cdv A outer s H vs Q E hr h => ⟨_, PSs.nox (pss_cons (ps_if (PW.pt (pw_or (pt_not (pt_val (pe_callB (id := "isinstance") call_isi (by rfl) tx.isinstance (by decide +kernel) (pa_cons (pv 0) (pa_cons (pe_bltn (v := .ty "tuple") (by rfl) tx.tuple (by decide +kernel) rfl) pa_nil))))) (pw_or1 (pt_not (pt_chain op_le op_le pe_int (pe_callB (id := "len") call_len_seq (by rfl) tx.len (by decide +kernel) (pa_cons (pv 0) pa_nil)) (pe_glob (v := .int 4) (by rfl) tx.MOST_NAMES.choose_spec ⟨_, rfl⟩)))))) (pss_one (ps_ret pe_bl)) pss_nil)
    (pss_cons (ps_if (pt_not (pt_val (pe_callB (id := "all") (cr_all rfl) (by rfl) tx.all (by decide +kernel) (pa_cons (pe_lc (own := [("name", 1)]) (g := gName 1) (by rfl) sc_are_names.nd (pi_tup (pv 0)) (blkOk_by (N := N_are_names) (sc := defScope s_are_names) (by decide +kernel)) (fun _ _ _ _ _ => (pg_name (i := 1) sc_are_names.nd rfl (by first | exact Or.inl rfl | exact Or.inr rfl))) (fun _ _ _ _ _ => pts_nil) (fun _ _ _ _ _ => (pe_callH h_is_name (hr.mono (by decide)) (by rfl) (pa_cons (pv 1) pa_nil)))) pa_nil)))) (pss_one (ps_ret pe_bl)) pss_nil)
    (pss_one (ps_ret (pe_and (pe_callH h_are_unlike (hr.mono (by decide)) (by rfl) (pa_cons (pe_lc (own := [("name", 1), ("_", 2)]) (g := gTup K 2 (gCons (gName 1) (gCons (gName 2) gNil))) (by rfl) sc_are_names.nd (pi_tup (pv 0)) (blkOk_by (N := N_are_names) (sc := defScope s_are_names) (by decide +kernel)) (fun _ _ _ _ _ => (pg_tup (by rfl) (pgs_cons (pg_name (i := 1) sc_are_names.nd rfl (by first | exact Or.inl rfl | exact Or.inr rfl)) (pgs_cons (pg_name (i := 2) sc_are_names.nd rfl (by first | exact Or.inl rfl | exact Or.inr rfl)) pgs_nil)))) (fun _ _ _ _ _ => pts_nil) (fun _ _ _ _ _ => (pv 1))) pa_nil)) (pe_one (pe_cmpR op_le (pe_callH h_how_many_places (hr.mono (by decide)) (by rfl) (pa_cons (pv 0) pa_nil)) (pe_glob (v := .int 64) (by rfl) tx.MOST_PLACES.choose_spec ⟨_, rfl⟩) (nomark _)))))))),
  bodyF h fun ds Φ hp => by
    obtain ⟨nm, tl, n, rfl, r, q⟩ := hp
    have r1 := r.len
    have r2 := r.one
    have r3 := r.four
    have r4 := r.size
    repeat' walk_at "wp"
    refine e_mapT (fun _ => .bool true) rfl (by rw [List.length_map]; omega) (fun y hy => ?_) ?_
    · obtain ⟨p, hp, rfl⟩ := List.mem_map.mp hy
      repeat' walk_at "wp"
      exact ⟨r.ok p hp, rfl⟩
    · refine a_nil (cb_allT rfl ?_)
      repeat' walk_at "wp"
      refine e_map (js := [1] ++ ([2] ++ [])) (fun k hk => by revert hk; decide +revert) (i_tup_ (e_var rfl ⟨_, rfl, by rw [List.length_map]; omega, fun y => (match y with | .tuple (w :: _) => w | _ => .none), fun i x hx => ?_, ?_⟩))
      · rw [List.getElem?_map] at hx
        obtain ⟨p, hp, rfl⟩ := Option.map_eq_some_iff.mp hx
        refine g_tup_ [_, _] rfl rfl (g_cons (g_name (g_cons (g_name (g_nil ?_)))))
        repeat' walk_at "wp"
        rfl
      · repeat' walk_at "wp"
        refine .inl ⟨(nm.map (·.1)).map .inr, .inl ?_, by rw [List.length_map, List.length_map]; omega, List.pairwise_map.mpr (r.nodup.imp fun {a b} h z => h (Sum.inr.inj z)), ?_⟩
        · rw [List.map_map, List.map_map, List.map_map]
          rfl
        repeat' walk_at "wp"
        refine ⟨nm, tl, n, rfl, r, ?_⟩
        repeat' walk_at "wp"
        rw [decide_eq_true (show (prodN nm : Int) ≤ 64 by omega)]
        exact q
⟩
theorem has_are_names (D : Dn K mg "are_names" s_are_names) (tx : Tx K mg) (h_are_unlike : Has P w K mg base "are_unlike" ["words"] 1 (SpF K pre_are_unlike)) (h_how_many_places : Has P w K mg base "how_many_places" ["names"] 1 (SpF K pre_how_many_places)) (h_is_name : Has P w K mg base "is_name" ["value"] 5 (SpF K pre_is_name)) : Has P w K mg base "are_names" ["value"] 6 (SpF K pre_are_names) := has_of D (fun _ _ _ _ _ _ us hl => match us, hl with | [_], _ => rfl) (ok_are_names tx h_are_unlike h_how_many_places h_is_name)

theorem ok_is_place (tx : Tx K mg) (h_is_count_to : Has P w K mg base "is_count_to" ["value", "most"] 3 (SpF K pre_is_count_to)) : ∀ f fd, FnP K "is_place" s_is_place f fd → FnOk P w K mg base CX0 4 f fd ["names", "value"] (SpF K pre_is_place) := fun f fd F =>
  F.ok sc_is_place (fun vs H Q E s => lenF (fun ds Φ h => by
    obtain ⟨_, _, rfl, _⟩ := h; rfl) s) fun cdv A outer s H vs Q E hr h => ⟨_, PSs.nox (pss_cons (ps_if (PW.pt (pw_or (pt_not (pt_val (pe_callB (id := "isinstance") call_isi (by rfl) tx.isinstance (by decide +kernel) (pa_cons (pv 1) (pa_cons (pe_bltn (v := .ty "tuple") (by rfl) tx.tuple (by decide +kernel) rfl) pa_nil))))) (pw_or1 (pt_cmpR op_ne (pe_callB (id := "len") call_len_seq (by rfl) tx.len (by decide +kernel) (pa_cons (pv 1) pa_nil)) (pe_callB (id := "len") call_len_seq (by rfl) tx.len (by decide +kernel) (pa_cons (pv 0) pa_nil)) (nomark _))))) (pss_one (ps_ret pe_bl)) pss_nil)
    (pss_one (ps_ret (pe_callB (id := "all") (cr_all rfl) (by rfl) tx.all (by decide +kernel) (pa_cons (pe_lc (own := [("at", 2), ("_", 3), ("values", 4)]) (g := gTup K 2 (gCons (gName 2) (gCons (gTup K 2 (gCons (gName 3) (gCons (gName 4) gNil))) gNil))) (by rfl) sc_is_place.nd (RZ.pi_zipA (by rfl) tx.zip (pa_cons (pv 1) (pa_cons (pv 0) pa_nil))) (blkOk_by (N := N_is_place) (sc := defScope s_is_place) (by decide +kernel)) (fun _ _ _ _ _ => (pg_tup (by rfl) (pgs_cons (pg_name (i := 2) sc_is_place.nd rfl (by first | exact Or.inl rfl | exact Or.inr rfl)) (pgs_cons (pg_tup (by rfl) (pgs_cons (pg_name (i := 3) sc_is_place.nd rfl (by first | exact Or.inl rfl | exact Or.inr rfl)) (pgs_cons (pg_name (i := 4) sc_is_place.nd rfl (by first | exact Or.inl rfl | exact Or.inr rfl)) pgs_nil))) pgs_nil)))) (fun _ _ _ _ _ => pts_nil) (fun _ _ _ _ _ => (pe_callH h_is_count_to (hr.mono (by decide)) (by rfl) (pa_cons (pv 2) (pa_cons (pe_op op_sub (pe_callB (id := "len") (r := Evl.rLenS K) call_len_seq (by rfl) tx.len (by decide +kernel) (pa_cons (pv 4) pa_nil)) pe_int) pa_nil))))) pa_nil))))),
  bodyF h fun ds Φ hp => by
    obtain ⟨_, _, rfl, z⟩ := hp
    exact z.elim
⟩
theorem has_is_place (D : Dn K mg "is_place" s_is_place) (tx : Tx K mg) (h_is_count_to : Has P w K mg base "is_count_to" ["value", "most"] 3 (SpF K pre_is_count_to)) : Has P w K mg base "is_place" ["names", "value"] 4 (SpF K pre_is_place) := has_of D (fun _ _ _ _ _ _ us hl => match us, hl with | [_, _], _ => rfl) (ok_is_place tx h_is_count_to)

theorem ok_are_voids (tx : Tx K mg) (h_is_rising : Has P w K mg base "is_rising" ["values"] 1 (SpF K pre_is_rising)) (h_how_many_places : Has P w K mg base "how_many_places" ["names"] 1 (SpF K pre_how_many_places)) (h_is_place : Has P w K mg base "is_place" ["names", "value"] 4 (SpF K pre_is_place)) : ∀ f fd, FnP K "are_voids" s_are_voids f fd → FnOk P w K mg base CX0 5 f fd ["names", "value"] (SpF K pre_are_voids) := fun f fd F =>
  F.ok sc_are_voids (fun vs H Q E s => lenF (fun ds Φ h => by
    obtain ⟨_, _, _, rfl, _⟩ := h; rfl) s) fun cdv A outer s H vs Q E hr h => ⟨_, PSs.nox (pss_cons (ps_if (PW.pt (pw_or (pt_not (pt_val (pe_callB (id := "isinstance") call_isi (by rfl) tx.isinstance (by decide +kernel) (pa_cons (pv 1) (pa_cons (pe_bltn (v := .ty "tuple") (by rfl) tx.tuple (by decide +kernel) rfl) pa_nil))))) (pw_or1 (pt_not (pt_val (pe_callB (id := "all") (cr_all rfl) (by rfl) tx.all (by decide +kernel) (pa_cons (pe_lc (own := [("place", 2)]) (g := gName 2) (by rfl) sc_are_voids.nd (pi_tup (pv 1)) (blkOk_by (N := N_are_voids) (sc := defScope s_are_voids) (by decide +kernel)) (fun _ _ _ _ _ => (pg_name (i := 2) sc_are_voids.nd rfl (by first | exact Or.inl rfl | exact Or.inr rfl))) (fun _ _ _ _ _ => pts_nil) (fun _ _ _ _ _ => (pe_callH h_is_place (hr.mono (by decide)) (by rfl) (pa_cons (pv 0) (pa_cons (pv 2) pa_nil))))) pa_nil))))))) (pss_one (ps_ret pe_bl)) pss_nil)
    (pss_one (ps_ret (pe_and (pe_callH h_is_rising (hr.mono (by decide)) (by rfl) (pa_cons (pv 1) pa_nil)) (pe_one (pe_chain op_le op_le pe_int (pe_op op_sub (pe_callH h_how_many_places (hr.mono (by decide)) (by rfl) (pa_cons (pv 0) pa_nil)) (pe_callB (id := "len") call_len_seq (by rfl) tx.len (by decide +kernel) (pa_cons (pv 1) pa_nil))) (pe_glob (v := .int 16) (by rfl) tx.MOST_MODEL_CELLS.choose_spec ⟨_, rfl⟩))))))),
  bodyF h fun ds Φ hp => by
    obtain ⟨nm, tl, n, rfl, r, q⟩ := hp
    have r1 := r.size
    have r2 := prod_one r
    repeat' walk_at "wp"
    refine e_mapT (fun _ => .bool true) rfl (show 0 ≤ 100000 by decide) (fun y hy => nomatch hy) ?_
    refine a_nil (cb_allT (xs := ([] : List Nat)) rfl ?_)
    repeat' walk_at "wp"
    refine ⟨[], rfl, by decide, .nil, ?_⟩
    repeat' walk_at "wp"
    refine ⟨nm, tl, n, rfl, r, ?_⟩
    repeat' walk_at "wp"
    rw [decide_eq_true (show (prodN nm:Int) - ([]:List PyData).length ≤ 16 by simp; omega)]
    exact q
⟩
theorem has_are_voids (D : Dn K mg "are_voids" s_are_voids) (tx : Tx K mg) (h_is_rising : Has P w K mg base "is_rising" ["values"] 1 (SpF K pre_is_rising)) (h_how_many_places : Has P w K mg base "how_many_places" ["names"] 1 (SpF K pre_how_many_places)) (h_is_place : Has P w K mg base "is_place" ["names", "value"] 4 (SpF K pre_is_place)) : Has P w K mg base "are_voids" ["names", "value"] 5 (SpF K pre_are_voids) := has_of D (fun _ _ _ _ _ _ us hl => match us, hl with | [_, _], _ => rfl) (ok_are_voids tx h_is_rising h_how_many_places h_is_place)

theorem ok_is_told_sum (tx : Tx K mg) (h_is_rising : Has P w K mg base "is_rising" ["values"] 1 (SpF K pre_is_rising)) (h_is_count_to : Has P w K mg base "is_count_to" ["value", "most"] 3 (SpF K pre_is_count_to)) : ∀ f fd, FnP K "is_told_sum" s_is_told_sum f fd → FnOk P w K mg base CX0 4 f fd ["names", "value"] (SpF K pre_is_told_sum) := fun f fd F =>
  F.ok sc_is_told_sum (fun vs H Q E s => lenF (fun ds Φ h => by
    obtain ⟨_, _, _, _, rfl, _⟩ := h; rfl) s) fun cdv A outer s H vs Q E hr h => ⟨_, PSs.nox (pss_cons (ps_if (PW.pt (pw_or (pt_not (pt_val (pe_callB (id := "isinstance") call_isi (by rfl) tx.isinstance (by decide +kernel) (pa_cons (pv 1) (pa_cons (pe_bltn (v := .ty "tuple") (by rfl) tx.tuple (by decide +kernel) rfl) pa_nil))))) (pw_or1 (pt_not (pt_val (pe_callB (id := "all") (cr_all rfl) (by rfl) tx.all (by decide +kernel) (pa_cons (pe_lc (own := [("at", 2)]) (g := gName 2) (by rfl) sc_is_told_sum.nd (pi_tup (pv 1)) (blkOk_by (N := N_is_told_sum) (sc := defScope s_is_told_sum) (by decide +kernel)) (fun _ _ _ _ _ => (pg_name (i := 2) sc_is_told_sum.nd rfl (by first | exact Or.inl rfl | exact Or.inr rfl))) (fun _ _ _ _ _ => pts_nil) (fun _ _ _ _ _ => (pe_callH h_is_count_to (hr.mono (by decide)) (by rfl) (pa_cons (pv 2) (pa_cons (pe_op op_sub (pe_callB (id := "len") (r := Evl.rLenS K) call_len_seq (by rfl) tx.len (by decide +kernel) (pa_cons (pv 0) pa_nil)) pe_int) pa_nil))))) pa_nil))))))) (pss_one (ps_ret pe_bl)) pss_nil)
    (pss_one (ps_ret (pe_callH h_is_rising (hr.mono (by decide)) (by rfl) (pa_cons (pv 1) pa_nil))))),
  bodyF h fun ds Φ hp => by
    obtain ⟨nm, tl, n, t, rfl, r, ht, q⟩ := hp
    have r1 := r.asc t ht
    have r2 := r.len
    have r3 := asc_len4 r1
    have r4 := r.four
    repeat' walk_at "wp"
    refine e_mapT (fun _ => .bool true) rfl (by rw [List.length_map]; omega) (fun y hy => ?_) ?_
    · obtain ⟨c, hc, rfl⟩ := List.mem_map.mp hy
      have := r1.2 c hc
      repeat' walk_at "wp"
      rfl
    · refine a_nil (cb_allT rfl ?_)
      repeat' walk_at "wp"
      exact ⟨r1.1, q⟩
⟩
theorem has_is_told_sum (D : Dn K mg "is_told_sum" s_is_told_sum) (tx : Tx K mg) (h_is_rising : Has P w K mg base "is_rising" ["values"] 1 (SpF K pre_is_rising)) (h_is_count_to : Has P w K mg base "is_count_to" ["value", "most"] 3 (SpF K pre_is_count_to)) : Has P w K mg base "is_told_sum" ["names", "value"] 4 (SpF K pre_is_told_sum) := has_of D (fun _ _ _ _ _ _ us hl => match us, hl with | [_, _], _ => rfl) (ok_is_told_sum tx h_is_rising h_is_count_to)

theorem ok_are_told (tx : Tx K mg) (h_are_unlike : Has P w K mg base "are_unlike" ["words"] 1 (SpF K pre_are_unlike)) (h_is_told_sum : Has P w K mg base "is_told_sum" ["names", "value"] 4 (SpF K pre_is_told_sum)) : ∀ f fd, FnP K "are_told" s_are_told f fd → FnOk P w K mg base CX0 5 f fd ["names", "value"] (SpF K pre_are_told) := fun f fd F =>
  F.ok sc_are_told (fun vs H Q E s => lenF (fun ds Φ h => by
    obtain ⟨_, _, _, rfl, _⟩ := h; rfl) s) fun cdv A outer s H vs Q E hr h => ⟨_, PSs.nox (pss_cons (ps_if (PW.pt (pw_or (pt_not (pt_val (pe_callB (id := "isinstance") call_isi (by rfl) tx.isinstance (by decide +kernel) (pa_cons (pv 1) (pa_cons (pe_bltn (v := .ty "tuple") (by rfl) tx.tuple (by decide +kernel) rfl) pa_nil))))) (pw_or1 (pt_not (pt_chain op_le op_le pe_int (pe_callB (id := "len") call_len_seq (by rfl) tx.len (by decide +kernel) (pa_cons (pv 1) pa_nil)) (pe_glob (v := .int 16) (by rfl) tx.MOST_TOLD.choose_spec ⟨_, rfl⟩)))))) (pss_one (ps_ret pe_bl)) pss_nil)
    (pss_one (ps_ret (pe_and (pe_callB (id := "all") (cr_all rfl) (by rfl) tx.all (by decide +kernel) (pa_cons (pe_lc (own := [("told", 2)]) (g := gName 2) (by rfl) sc_are_told.nd (pi_tup (pv 1)) (blkOk_by (N := N_are_told) (sc := defScope s_are_told) (by decide +kernel)) (fun _ _ _ _ _ => (pg_name (i := 2) sc_are_told.nd rfl (by first | exact Or.inl rfl | exact Or.inr rfl))) (fun _ _ _ _ _ => pts_nil) (fun _ _ _ _ _ => (pe_callH h_is_told_sum (hr.mono (by decide)) (by rfl) (pa_cons (pv 0) (pa_cons (pv 2) pa_nil))))) pa_nil)) (pe_one (pe_callH h_are_unlike (hr.mono (by decide)) (by rfl) (pa_cons (pv 1) pa_nil))))))),
  bodyF h fun ds Φ hp => by
    obtain ⟨nm, tl, n, rfl, r, q⟩ := hp
    have r1 := r.t1
    have r2 := r.t16
    repeat' walk_at "wp"
    refine e_mapT (fun _ => .bool true) rfl (by rw [List.length_map]; omega) (fun y hy => ?_) ?_
    · obtain ⟨t, ht, rfl⟩ := List.mem_map.mp hy
      repeat' walk_at "wp"
      exact ⟨nm, tl, n, t, rfl, r, ht, rfl⟩
    · refine a_nil (cb_allT rfl ?_)
      repeat' walk_at "wp"
      exact .inr ⟨tl, rfl, by omega, r.tnd, q⟩
⟩
theorem has_are_told (D : Dn K mg "are_told" s_are_told) (tx : Tx K mg) (h_are_unlike : Has P w K mg base "are_unlike" ["words"] 1 (SpF K pre_are_unlike)) (h_is_told_sum : Has P w K mg base "is_told_sum" ["names", "value"] 4 (SpF K pre_is_told_sum)) : Has P w K mg base "are_told" ["names", "value"] 5 (SpF K pre_are_told) := has_of D (fun _ _ _ _ _ _ us hl => match us, hl with | [_, _], _ => rfl) (ok_are_told tx h_are_unlike h_is_told_sum)

theorem ok_is_model (tx : Tx K mg) (h_are_voids : Has P w K mg base "are_voids" ["names", "value"] 5 (SpF K pre_are_voids)) (h_are_told : Has P w K mg base "are_told" ["names", "value"] 5 (SpF K pre_are_told)) (h_are_names : Has P w K mg base "are_names" ["value"] 6 (SpF K pre_are_names)) : ∀ f fd, FnP K "is_model" s_is_model f fd → FnOk P w K mg base CX0 7 f fd ["value"] (SpF K pre_is_model) := fun f fd F =>
  F.ok sc_is_model (fun vs H Q E s => lenF (fun ds Φ h => by
    obtain ⟨_, _, _, rfl, _⟩ := h; rfl) s) fun cdv A outer s H vs Q E hr h => ⟨_, PSs.nox (pss_cons (ps_if (PW.pt (pw_or (pt_not (pt_val (pe_callB (id := "isinstance") call_isi (by rfl) tx.isinstance (by decide +kernel) (pa_cons (pv 0) (pa_cons (pe_bltn (v := .ty "tuple") (by rfl) tx.tuple (by decide +kernel) rfl) pa_nil))))) (pw_or1 (pt_cmpR op_ne (pe_callB (id := "len") call_len_seq (by rfl) tx.len (by decide +kernel) (pa_cons (pv 0) pa_nil)) pe_int (nomark _))))) (pss_one (ps_ret pe_bl)) pss_nil)
    (pss_cons (ps_asg (pv 0) (pg_tup (by rfl) (pgs_cons (pg_name (i := 1) sc_is_model.nd rfl (.inl rfl)) (pgs_cons (pg_name (i := 2) sc_is_model.nd rfl (.inl rfl)) (pgs_cons (pg_name (i := 3) sc_is_model.nd rfl (.inl rfl)) (pgs_cons (pg_name (i := 4) sc_is_model.nd rfl (.inl rfl)) pgs_nil))))))
    (pss_cons (ps_if (PW.pt (pw_or (pt_not (pt_val (pe_callB (id := "isinstance") call_isi (by rfl) tx.isinstance (by decide +kernel) (pa_cons (pv 1) (pa_cons (pe_bltn (v := .ty "str") (by rfl) tx.str (by decide +kernel) rfl) pa_nil))))) (pw_or (pt_cmpR op_ne (pv 1) pe_str (nomark _)) (pw_or1 (pt_not (pt_val (pe_callH h_are_names (hr.mono (by decide)) (by rfl) (pa_cons (pv 2) pa_nil)))))))) (pss_one (ps_ret pe_bl)) pss_nil)
    (pss_one (ps_ret (pe_and (pe_callH h_are_voids (hr.mono (by decide)) (by rfl) (pa_cons (pv 2) (pa_cons (pv 3) pa_nil))) (pe_one (pe_callH h_are_told (hr.mono (by decide)) (by rfl) (pa_cons (pv 2) (pa_cons (pv 4) pa_nil)))))))))),
  bodyF h fun ds Φ hp => by
    obtain ⟨nm, tl, n, rfl, r, q⟩ := hp
    repeat' walk_at "wp"
    refine s_asgG (js := [1] ++ ([2] ++ ([3] ++ ([4] ++ [])))) (e_var rfl (g_tup_ [_, _, _, _] rfl rfl (g_cons (g_name (g_cons (g_name (g_cons (g_name (g_cons (g_name (g_nil ?_)))))))))))
    repeat' walk_at "wp"
    refine iteND rfl ?_
    repeat' walk_at "wp"
    refine ⟨nm, tl, n, rfl, r, ?_⟩
    repeat' walk_at "wp"
    refine ⟨nm, tl, n, rfl, r, ?_⟩
    repeat' walk_at "wp"
    exact ⟨nm, tl, n, rfl, r, q⟩
⟩
theorem has_is_model (D : Dn K mg "is_model" s_is_model) (tx : Tx K mg) (h_are_voids : Has P w K mg base "are_voids" ["names", "value"] 5 (SpF K pre_are_voids)) (h_are_told : Has P w K mg base "are_told" ["names", "value"] 5 (SpF K pre_are_told)) (h_are_names : Has P w K mg base "are_names" ["value"] 6 (SpF K pre_are_names)) : Has P w K mg base "is_model" ["value"] 7 (SpF K pre_is_model) := has_of D (fun _ _ _ _ _ _ us hl => match us, hl with | [_], _ => rfl) (ok_is_model tx h_are_voids h_are_told h_are_names)

theorem ok_check_model (tx : Tx K mg) (h_is_model : Has P w K mg base "is_model" ["value"] 7 (SpF K pre_is_model)) : ∀ f fd, FnP K "check_model" s_check_model f fd → FnOk P w K mg base CX0 8 f fd ["value"] (SpF K pre_check_model) := fun f fd F =>
  F.ok sc_check_model (fun vs H Q E s => lenF (fun ds Φ h => by
    obtain ⟨_, _, _, rfl, _⟩ := h; rfl) s) fun cdv A outer s H vs Q E hr h => ⟨_, PSs.nox (pss_one (ps_if (pt_not (pt_val (pe_callH h_is_model (hr.mono (by decide)) (by rfl) (pa_cons (pv 0) pa_nil)))) (pss_one ps_never) pss_nil)),
  bodyF h fun ds Φ hp => by
    obtain ⟨nm, tl, n, rfl, r, q⟩ := hp
    repeat' walk_at "wp"
    refine ⟨nm, tl, n, rfl, r, ?_⟩
    repeat' walk_at "wp"
    exact q
⟩
theorem has_check_model (D : Dn K mg "check_model" s_check_model) (tx : Tx K mg) (h_is_model : Has P w K mg base "is_model" ["value"] 7 (SpF K pre_is_model)) : Has P w K mg base "check_model" ["value"] 8 (SpF K pre_check_model) := has_of D (fun _ _ _ _ _ _ us hl => match us, hl with | [_], _ => rfl) (ok_check_model tx h_is_model)

theorem ok_names_of (tx : Tx K mg) : ∀ f fd, FnP K "names_of" s_names_of f fd → FnOk P w K mg base CX0 1 f fd ["model"] (SpF K pre_names_of) := fun f fd F =>
  F.ok sc_names_of (fun vs H Q E s => lenF (fun ds Φ h => by
    obtain ⟨_, _, _, rfl, _⟩ := h; rfl) s) fun cdv A outer s H vs Q E hr h => ⟨_, PSs.nox (pss_one (ps_ret (pe_listRg (by rfl) (by rfl) tx.list (prg_1 (by rfl) tx.range (pe_callB (id := "len") call_len_seq (by rfl) tx.len (by decide +kernel) (pa_cons (pe_ix ix_tup (pv 0) pe_int (fun _ _ => rfl)) pa_nil)))))),
  bodyF h fun ds Φ hp => by
    obtain ⟨nm, tl, n, rfl, r, q⟩ := hp
    have r1 := r.len
    have r3 := r.four
    refine s_ret (e_new (f_listRg ?_))
    repeat' walk_at "wp"
    refine od_ixT_ (d := namesD nm) rfl ?_
    repeat' walk_at "wp"
    show Φ (PyData.list (List.map (fun i => PyData.int ((i : Nat) : Int)) (List.range (List.map nameD nm).length)))
    rw [List.length_map, r1]
    unfold listI nn at q
    rw [List.map_map] at q
    exact q
⟩
theorem has_names_of (D : Dn K mg "names_of" s_names_of) (tx : Tx K mg) : Has P w K mg base "names_of" ["model"] 1 (SpF K pre_names_of) := has_of D (fun _ _ _ _ _ _ us hl => match us, hl with | [_], _ => rfl) (ok_names_of tx)

theorem ok_are_tied (tx : Tx K mg) : ∀ f fd, FnP K "are_tied" s_are_tied f fd → FnOk P w K mg base CX0 1 f fd ["model", "one", "other"] (SpF K pre_are_tied) := fun f fd F =>
  F.ok sc_are_tied (fun vs H Q E s => lenF (fun ds Φ h => by
    obtain ⟨_, _, _, _, _, rfl, _⟩ := h; rfl) s) fun cdv A outer s H vs Q E hr h => ⟨_, PSs.nox (pss_one (ps_ret (pe_and (pe_cmpR op_ne (pv 1) (pv 2) (nomark _)) (pe_one (pe_callB (id := "any") (cr_any rfl) (by rfl) tx.any (by decide +kernel) (pa_cons (pe_lc (own := [("told", 3)]) (g := gName 3) (by rfl) sc_are_tied.nd (pi_tup (pe_ix ix_tup (pv 0) pe_int (fun _ _ => rfl))) (blkOk_by (N := N_are_tied) (sc := defScope s_are_tied) (by decide +kernel)) (fun _ _ _ _ _ => (pg_name (i := 3) sc_are_tied.nd rfl (by first | exact Or.inl rfl | exact Or.inr rfl))) (fun _ _ _ _ _ => pts_nil) (fun _ _ _ _ _ => (pe_and (pe_cmpR (r := FwWd.rInD K false) (FwWd.op_inD (hu65 hr)) (pv 1) (pv 3) (by rfl)) (pe_one (pe_cmpR (r := FwWd.rInD K false) (FwWd.op_inD (hu65 hr)) (pv 2) (pv 3) (by rfl)))))) pa_nil)))))),
  bodyF h fun ds Φ hp => by
    obtain ⟨nm, tl, n, a, b, rfl, r, ha, hb, q⟩ := hp
    have r2 := r.t16
    rw [tM_mat ha hb] at q
    unfold tied at q
    repeat' walk_at "wp"
    refine iteB (fun e => ?_) (fun e => ?_)
    · have hne : decide (a ≠ b) = true := by simpa using e
      rw [hne, Bool.true_and] at q
      refine e_cb (a_cons (e_mapA (α := List Int) (js := [3]) (fun m => tupI m) (fun t => .bool (t.contains a && t.contains b)) (i_tup_ ?_)))
      repeat' walk_at "wp"
      refine od_ixT_ (d := rowsT tl) rfl ⟨_, rfl, tl, rfl, by omega, fun t ht => g_name ?_, ?_⟩
      · repeat' walk_at "wp"
        refine od_inTI ⟨_, rfl, iteB (fun e => ?_) (fun e => ?_)⟩
        · repeat' walk_at "wp"
          exact od_inTI (by show _ = PyData.bool (t.contains a && t.contains b); rw [e, Bool.true_and])
        · show _ = PyData.bool (t.contains a && t.contains b)
          rw [e, Bool.false_and]
      · exact a_nil (cb_anyF q)
    · have hne : decide (a ≠ b) = false := by simpa using e
      rw [hne, Bool.false_and] at q
      exact q
⟩
theorem has_are_tied (D : Dn K mg "are_tied" s_are_tied) (tx : Tx K mg) : Has P w K mg base "are_tied" ["model", "one", "other"] 1 (SpF K pre_are_tied) := has_of D (fun _ _ _ _ _ _ us hl => match us, hl with | [_, _, _], _ => rfl) (ok_are_tied tx)

theorem ok_friends_of (tx : Tx K mg) (h_names_of : Has P w K mg base "names_of" ["model"] 1 (SpF K pre_names_of)) (h_are_tied : Has P w K mg base "are_tied" ["model", "one", "other"] 1 (SpF K pre_are_tied)) : ∀ f fd, FnP K "friends_of" s_friends_of f fd → FnOk P w K mg base CX0 2 f fd ["model", "position"] (SpF K pre_friends_of) := fun f fd F =>
  F.ok sc_friends_of (fun vs H Q E s => lenF (fun ds Φ h => by
    obtain ⟨_, _, _, _, rfl, _⟩ := h; rfl) s) fun cdv A outer s H vs Q E hr h => ⟨_, PSs.nox (pss_one (ps_ret (pe_lc (own := [("other", 2)]) (g := gName 2) (by rfl) sc_friends_of.nd (pi_list (pe_callH h_names_of (hr.mono (by decide)) (by rfl) (pa_cons (pv 0) pa_nil))) (blkOk_by (N := N_friends_of) (sc := defScope s_friends_of) (by decide +kernel)) (fun _ _ _ _ _ => (pg_name (i := 2) sc_friends_of.nd rfl (by first | exact Or.inl rfl | exact Or.inr rfl))) (fun _ _ _ _ _ => (pts_one (pt_val (pe_callH h_are_tied (hr.mono (by decide)) (by rfl) (pa_cons (pv 0) (pa_cons (pv 1) (pa_cons (pv 2) pa_nil))))))) (fun _ _ _ _ _ => (pv 2))))),
  bodyF h fun ds Φ hp => by
    obtain ⟨nm, tl, n, a, rfl, r, ha, q⟩ := hp
    have r4 := r.four
    refine s_ret (e_flt (α := Int) (js := [2]) .int (fun o => tM (mat n tl) a o) .int (i_list_ ?_))
    repeat' walk_at "wp"
    refine ⟨nm, tl, n, rfl, r, _, rfl, nn n, rfl, by rw [nn_len]; omega, fun o ho => g_name ?_, q⟩
    have ho2 := nn_in.mp ho
    repeat' walk_at "wp"
    refine ⟨nm, tl, n, a, o, rfl, r, ha, ho2, _, rfl, rfl, fun _ => ?_⟩
    repeat' walk_at "wp"
    rfl
⟩
theorem has_friends_of (D : Dn K mg "friends_of" s_friends_of) (tx : Tx K mg) (h_names_of : Has P w K mg base "names_of" ["model"] 1 (SpF K pre_names_of)) (h_are_tied : Has P w K mg base "are_tied" ["model", "one", "other"] 1 (SpF K pre_are_tied)) : Has P w K mg base "friends_of" ["model", "position"] 2 (SpF K pre_friends_of) := has_of D (fun _ _ _ _ _ _ us hl => match us, hl with | [_, _], _ => rfl) (ok_friends_of tx h_names_of h_are_tied)

theorem ok_is_close_lot (tx : Tx K mg) (h_are_tied : Has P w K mg base "are_tied" ["model", "one", "other"] 1 (SpF K pre_are_tied)) : ∀ f fd, FnP K "is_close_lot" s_is_close_lot f fd → FnOk P w K mg base CX0 2 f fd ["model", "names"] (SpF K pre_is_close_lot) := fun f fd F =>
  F.ok sc_is_close_lot (fun vs H Q E s => lenF (fun ds Φ h => by
    obtain ⟨_, _, _, _, _, rfl, _⟩ := h; rfl) s) fun cdv A outer s H vs Q E hr h => ⟨_, PSs.nox (pss_one (ps_ret (pe_callB (id := "all") (cr_all rfl) (by rfl) tx.all (by decide +kernel) (pa_cons (pe_lc2 (own := [("one", 2), ("other", 3)]) (vs1 := [3]) (g := gName 2) (g1 := gName 3) (by rfl) sc_is_close_lot.nd (FwU.pi_any (pv 1)) (blkOk_by (N := N_is_close_lot) (sc := defScope s_is_close_lot) (by decide +kernel)) (by decide) (fun _ _ _ _ _ => (pg_name (i := 2) sc_is_close_lot.nd rfl (by first | exact Or.inl rfl | exact Or.inr rfl))) (fun _ _ _ _ _ => pts_nil) (fun _ _ _ _ _ => (show PI _ _ _ (FwU.iAny K _) from (FwU.pi_any (pv 1)))) (fun _ _ _ _ _ => (pg_name (i := 3) sc_is_close_lot.nd rfl (by first | exact Or.inl rfl | exact Or.inr rfl))) (fun _ _ _ _ _ => pts_nil) (fun _ _ _ _ _ => (pe_or (pe_cmpR op_eq (pv 2) (pv 3) (nomark _)) (pe_one (pe_callH h_are_tied (hr.mono (by decide)) (by rfl) (pa_cons (pv 0) (pa_cons (pv 2) (pa_cons (pv 3) pa_nil)))))))) pa_nil)))),
  bodyF h fun ds Φ hp => by
    obtain ⟨nm, tl, n, x, ns, rfl, hx, r, hl, hn, q⟩ := hp
    repeat' walk_at "wp"
    refine e_flt2 (α := Int) (β := Int) (js := [2]) (js1 := [3]) .int (fun _ => ns) .int (fun _ _ => true) (fun a b => .bool (decide (a = b) || tM (mat n tl) a b)) (Fw.i_any (e_var rfl ⟨ns.map .int, hx, ns, rfl, hl, fun a ha => g_name ⟨calm_of rfl, t_yes ⟨rfl, Fw.i_any (e_var rfl ⟨ns.map .int, hx, rfl, hl, fun b hb => g_name (t_yes ⟨rfl, fun _ => ?_⟩)⟩)⟩⟩, ?_⟩))
    · repeat' walk_at "wp"
      refine iteB (fun e => ?_) (fun e => ?_)
      · show _ = PyData.bool (decide (a = b) || tM (mat n tl) a b)
        rw [e, Bool.true_or]
      · have e3 : PyData.bool (decide (a = b) || tM (mat n tl) a b) = PyData.bool (tM (mat n tl) a b) := by rw [e, Bool.false_or]
        repeat' walk_at "wp"
        exact ⟨nm, tl, n, a, b, rfl, r, hn a ha, hn b hb, e3.symm⟩
    · refine a_nil (cb_all_ (ns.flatMap fun a => ns.map fun b => decide (a = b) || tM (mat n tl) a b) ?_ ?_)
      · rw [List.map_flatMap]
        congr 1
        funext a
        rw [filt_true, List.map_map]
        rfl
      · rw [List.all_flatMap]
        have e : (ns.all fun a => (ns.map fun b => decide (a = b) || tM (mat n tl) a b).all id) = closeB (mat n tl) ns := by
          unfold closeB
          congr 1
          funext a
          rw [all_bool]
        rw [e]
        exact q
⟩
theorem has_is_close_lot (D : Dn K mg "is_close_lot" s_is_close_lot) (tx : Tx K mg) (h_are_tied : Has P w K mg base "are_tied" ["model", "one", "other"] 1 (SpF K pre_are_tied)) : Has P w K mg base "is_close_lot" ["model", "names"] 2 (SpF K pre_is_close_lot) := has_of D (fun _ _ _ _ _ _ us hl => match us, hl with | [_, _], _ => rfl) (ok_is_close_lot tx h_are_tied)

theorem ok_web_of (tx : Tx K mg) (h_check_model : Has P w K mg base "check_model" ["value"] 8 (SpF K pre_check_model)) (h_names_of : Has P w K mg base "names_of" ["model"] 1 (SpF K pre_names_of)) (h_friends_of : Has P w K mg base "friends_of" ["model", "position"] 2 (SpF K pre_friends_of)) : ∀ f fd, FnP K "web_of" s_web_of f fd → FnOk P w K mg base CX0 9 f fd ["model"] (SpN K pre_web_of) := fun f fd F =>
  F.ok sc_web_of (fun vs H Q E s => lenN (fun ds Φ h => by
    obtain ⟨_, _, _, rfl, _⟩ := h; rfl) s) fun cdv A outer s H vs Q E hr h => ⟨_, PSs.nox (pss_cons (ps_expr (pe_callH h_check_model (hr.mono (by decide)) (by rfl) (pa_cons (pv 0) pa_nil)))
    (pss_one (ps_ret (pe_lc2 (own := [("one", 1), ("other", 2)]) (vs1 := [2]) (g := gName 1) (g1 := gName 2) (by rfl) sc_web_of.nd (pi_list (pe_callH h_names_of (hr.mono (by decide)) (by rfl) (pa_cons (pv 0) pa_nil))) (blkOk_by (N := N_web_of) (sc := defScope s_web_of) (by decide +kernel)) (by decide) (fun _ _ _ _ _ => (pg_name (i := 1) sc_web_of.nd rfl (by first | exact Or.inl rfl | exact Or.inr rfl))) (fun _ _ _ _ _ => pts_nil) (fun _ _ _ _ _ => (show PI _ _ _ (iList K _) from (pi_list (pe_callH h_friends_of (hr.mono (by decide)) (by rfl) (pa_cons (pv 0) (pa_cons (pv 1) pa_nil)))))) (fun _ _ _ _ _ => (pg_name (i := 2) sc_web_of.nd rfl (by first | exact Or.inl rfl | exact Or.inr rfl))) (fun _ _ _ _ _ => (pts_one (pt_cmpR op_lt (pv 1) (pv 2) (nomark _)))) (fun _ _ _ _ _ => (pe_tup (pa_cons (pv 1) (pa_cons (pv 2) pa_nil)))))))),
  bodyN h fun ds Φ hp => by
    obtain ⟨nm, tl, n, rfl, r, q⟩ := hp
    have r4 := r.four
    repeat' walk_at "wp"
    refine ⟨nm, tl, n, rfl, r, ?_⟩
    refine s_retF (f_flt2 (α := Int) (β := Int) (js := [1]) (js1 := [2]) .int (fun a => fr (mat n tl) n a) .int (fun a b => decide (a < b)) (fun a b => tupI [a, b]) (i_list_ ?_))
    repeat' walk_at "wp"
    refine ⟨nm, tl, n, rfl, r, _, rfl, nn n, rfl, by rw [nn_len]; omega, fun a ha => g_name ⟨calm_of rfl, t_yes ⟨rfl, i_list_ ?_⟩⟩, ?_⟩
    · repeat' walk_at "wp"
      refine ⟨nm, tl, n, a, rfl, r, nn_in.mp ha, _, rfl, rfl, (Nat.le_trans (fr_len (mat n tl) n a) (by omega)), fun b hb => g_name ?_⟩
      repeat' walk_at "wp"
      refine ⟨rfl, fun _ => ?_⟩
      repeat' walk_at "wp"
      rfl
    · have e : (nn n).flatMap (fun a => ((fr (mat n tl) n a).filter fun b => decide (a < b)).map fun b => tupI [a, b]) = (webP (mat n tl) n).map fun m => tupI m := by
        unfold webP
        rw [List.map_flatMap]
        congr 1
        funext a
        rw [List.map_map]
        rfl
      rw [e]
      exact q
⟩
theorem has_web_of (D : Dn K mg "web_of" s_web_of) (tx : Tx K mg) (h_check_model : Has P w K mg base "check_model" ["value"] 8 (SpF K pre_check_model)) (h_names_of : Has P w K mg base "names_of" ["model"] 1 (SpF K pre_names_of)) (h_friends_of : Has P w K mg base "friends_of" ["model", "position"] 2 (SpF K pre_friends_of)) : Has P w K mg base "web_of" ["model"] 9 (SpN K pre_web_of) := has_of D (fun _ _ _ _ _ _ us hl => match us, hl with | [_], _ => rfl) (ok_web_of tx h_check_model h_names_of h_friends_of)

theorem ok_friends (tx : Tx K mg) (h_check_model : Has P w K mg base "check_model" ["value"] 8 (SpF K pre_check_model)) (h_friends_of : Has P w K mg base "friends_of" ["model", "position"] 2 (SpF K pre_friends_of)) (h_is_count_to : Has P w K mg base "is_count_to" ["value", "most"] 3 (SpF K pre_is_count_to)) : ∀ f fd, FnP K "friends" s_friends f fd → FnOk P w K mg base CX0 9 f fd ["model", "position"] (SpF K pre_friends) := fun f fd F =>
  F.ok sc_friends (fun vs H Q E s => lenF (fun ds Φ h => by
    obtain ⟨_, _, _, _, rfl, _⟩ := h; rfl) s) fun cdv A outer s H vs Q E hr h => ⟨_, PSs.nox (pss_cons (ps_expr (pe_callH h_check_model (hr.mono (by decide)) (by rfl) (pa_cons (pv 0) pa_nil)))
    (pss_cons (ps_if (pt_not (pt_val (pe_callH h_is_count_to (hr.mono (by decide)) (by rfl) (pa_cons (pv 1) (pa_cons (pe_op op_sub (pe_callB (id := "len") call_len_seq (by rfl) tx.len (by decide +kernel) (pa_cons (pe_ix ix_tup (pv 0) pe_int (fun _ _ => rfl)) pa_nil)) pe_int) pa_nil))))) (pss_one ps_never) pss_nil)
    (pss_one (ps_ret (pe_callH h_friends_of (hr.mono (by decide)) (by rfl) (pa_cons (pv 0) (pa_cons (pv 1) pa_nil))))))),
  bodyF h fun ds Φ hp => by
    obtain ⟨nm, tl, n, a, rfl, r, ha, q⟩ := hp
    have r1 := r.len
    repeat' walk_at "wp"
    refine ⟨nm, tl, n, rfl, r, ?_⟩
    repeat' walk_at "wp"
    refine od_ixT_ (d := namesD nm) rfl ?_
    repeat' walk_at "wp"
    exact ⟨nm, tl, n, a, rfl, r, ha, q⟩
⟩
theorem has_friends (D : Dn K mg "friends" s_friends) (tx : Tx K mg) (h_check_model : Has P w K mg base "check_model" ["value"] 8 (SpF K pre_check_model)) (h_friends_of : Has P w K mg base "friends_of" ["model", "position"] 2 (SpF K pre_friends_of)) (h_is_count_to : Has P w K mg base "is_count_to" ["value", "most"] 3 (SpF K pre_is_count_to)) : Has P w K mg base "friends" ["model", "position"] 9 (SpF K pre_friends) := has_of D (fun _ _ _ _ _ _ us hl => match us, hl with | [_, _], _ => rfl) (ok_friends tx h_check_model h_friends_of h_is_count_to)

theorem ok_is_close (tx : Tx K mg) (h_check_model : Has P w K mg base "check_model" ["value"] 8 (SpF K pre_check_model)) (h_is_close_lot : Has P w K mg base "is_close_lot" ["model", "names"] 2 (SpF K pre_is_close_lot)) (h_are_unlike : Has P w K mg base "are_unlike" ["words"] 1 (SpF K pre_are_unlike)) (h_is_listed : Has P w K mg base "is_listed" ["value"] 1 (SpF K pre_is_listed)) (h_is_count_to : Has P w K mg base "is_count_to" ["value", "most"] 3 (SpF K pre_is_count_to)) : ∀ f fd, FnP K "is_close" s_is_close f fd → FnOk P w K mg base CX0 9 f fd ["model", "names"] (SpF K pre_is_close) := fun f fd F =>
  F.ok sc_is_close (fun vs H Q E s => lenF (fun ds Φ h => by
    obtain ⟨_, _, _, _, _, rfl, _⟩ := h; rfl) s) fun cdv A outer s H vs Q E hr h => ⟨_, PSs.nox (pss_cons (ps_expr (pe_callH h_check_model (hr.mono (by decide)) (by rfl) (pa_cons (pv 0) pa_nil)))
    (pss_cons (ps_if (PW.pt (pw_or (pt_not (pt_val (pe_callH h_is_listed (hr.mono (by decide)) (by rfl) (pa_cons (pv 1) pa_nil)))) (pw_or1 (pt_not (pt_val (pe_callB (id := "all") (cr_all rfl) (by rfl) tx.all (by decide +kernel) (pa_cons (pe_lc (own := [("name", 2)]) (g := gName 2) (by rfl) sc_is_close.nd (FwU.pi_any (pv 1)) (blkOk_by (N := N_is_close) (sc := defScope s_is_close) (by decide +kernel)) (fun _ _ _ _ _ => (pg_name (i := 2) sc_is_close.nd rfl (by first | exact Or.inl rfl | exact Or.inr rfl))) (fun _ _ _ _ _ => pts_nil) (fun _ _ _ _ _ => (pe_callH h_is_count_to (hr.mono (by decide)) (by rfl) (pa_cons (pv 2) (pa_cons (pe_op op_sub (pe_callB (id := "len") (r := Evl.rLenS K) call_len_seq (by rfl) tx.len (by decide +kernel) (pa_cons (pe_ix (r := rIxT K) ix_tup (pv 0) pe_int (fun _ _ => rfl)) pa_nil)) pe_int) pa_nil))))) pa_nil))))))) (pss_one ps_never) pss_nil)
    (pss_cons (ps_if (pt_not (pt_val (pe_callH h_are_unlike (hr.mono (by decide)) (by rfl) (pa_cons (pv 1) pa_nil)))) (pss_one ps_never) pss_nil)
    (pss_one (ps_ret (pe_callH h_is_close_lot (hr.mono (by decide)) (by rfl) (pa_cons (pv 0) (pa_cons (pv 1) pa_nil)))))))),
  bodyF h fun ds Φ hp => by
    obtain ⟨nm, tl, n, x, ns, rfl, hx, r, hl, nd, hn, q⟩ := hp
    have r1 := r.len
    repeat' walk_at "wp"
    refine ⟨nm, tl, n, rfl, r, ?_⟩
    repeat' walk_at "wp"
    refine ⟨ns.map .int, by rcases hx with rfl | rfl; exact .inl rfl; exact .inr rfl, ?_⟩
    repeat' walk_at "wp"
    refine e_mapA (α := Int) (js := [2]) .int (fun _ => .bool true) (Fw.i_any (e_var rfl ⟨ns.map .int, hx, ns, rfl, by omega, fun a ha => g_name ?_, ?_⟩))
    · have h1 := hn a ha
      repeat' walk_at "wp"
      refine od_ixT_ (d := namesD nm) rfl ?_
      repeat' walk_at "wp"
      rfl
    · refine a_nil (cb_allT rfl ?_)
      repeat' walk_at "wp"
      refine .inl ⟨ns.map .inl, ?_, by rw [List.length_map]; omega, List.pairwise_map.mpr (nd.imp fun {a b} h z => h (Sum.inl.inj z)), ?_⟩
      · rw [List.map_map]
        rcases hx with rfl | rfl
        · exact .inl rfl
        · exact .inr rfl
      repeat' walk_at "wp"
      exact ⟨nm, tl, n, x, ns, rfl, hx, r, hl, hn, q⟩
⟩
theorem has_is_close (D : Dn K mg "is_close" s_is_close) (tx : Tx K mg) (h_check_model : Has P w K mg base "check_model" ["value"] 8 (SpF K pre_check_model)) (h_is_close_lot : Has P w K mg base "is_close_lot" ["model", "names"] 2 (SpF K pre_is_close_lot)) (h_are_unlike : Has P w K mg base "are_unlike" ["words"] 1 (SpF K pre_are_unlike)) (h_is_listed : Has P w K mg base "is_listed" ["value"] 1 (SpF K pre_is_listed)) (h_is_count_to : Has P w K mg base "is_count_to" ["value", "most"] 3 (SpF K pre_is_count_to)) : Has P w K mg base "is_close" ["model", "names"] 9 (SpF K pre_is_close) := has_of D (fun _ _ _ _ _ _ us hl => match us, hl with | [_, _], _ => rfl) (ok_is_close tx h_check_model h_is_close_lot h_are_unlike h_is_listed h_is_count_to)

theorem ok_is_greatest (tx : Tx K mg) (h_is_close_lot : Has P w K mg base "is_close_lot" ["model", "names"] 2 (SpF K pre_is_close_lot)) (h_names_of : Has P w K mg base "names_of" ["model"] 1 (SpF K pre_names_of)) : ∀ f fd, FnP K "is_greatest" s_is_greatest f fd → FnOk P w K mg base CX0 3 f fd ["model", "names"] (SpF K pre_is_greatest) := fun f fd F =>
  F.ok sc_is_greatest (fun vs H Q E s => lenF (fun ds Φ h => by
    obtain ⟨_, _, _, _, rfl, _⟩ := h; rfl) s) fun cdv A outer s H vs Q E hr h => ⟨_, PSs.nox (pss_one (ps_ret (pe_not (pe_callB (id := "any") (cr_any rfl) (by rfl) tx.any (by decide +kernel) (pa_cons (pe_lc (own := [("other", 2)]) (g := gName 2) (by rfl) sc_is_greatest.nd (pi_list (pe_callH h_names_of (hr.mono (by decide)) (by rfl) (pa_cons (pv 0) pa_nil))) (blkOk_by (N := N_is_greatest) (sc := defScope s_is_greatest) (by decide +kernel)) (fun _ _ _ _ _ => (pg_name (i := 2) sc_is_greatest.nd rfl (by first | exact Or.inl rfl | exact Or.inr rfl))) (fun _ _ _ _ _ => (pts_one (pt_cmpR (r := FwWd.rInD K true) (FwWd.op_notInD (hu65 hr)) (pv 2) (pv 1) (by rfl)))) (fun _ _ _ _ _ => (pe_callH h_is_close_lot (hr.mono (by decide)) (by rfl) (pa_cons (pv 0) (pa_cons (pe_op (r := rCatA K) op_catA (pv 1) (pe_tup (pa_cons (pv 2) pa_nil))) pa_nil))))) pa_nil))))),
  bodyF h fun ds Φ hp => by
    obtain ⟨nm, tl, n, ns, rfl, r, hl, hn, q⟩ := hp
    have r4 := r.four
    repeat' walk_at "wp"
    refine e_flt (α := Int) (js := [2]) .int (fun o => !ns.contains o) (fun o => .bool (closeB (mat n tl) (ns ++ [o]))) (i_list_ ?_)
    repeat' walk_at "wp"
    refine ⟨nm, tl, n, rfl, r, _, rfl, nn n, rfl, by rw [nn_len]; omega, fun o ho => g_name ?_, ?_⟩
    · repeat' walk_at "wp"
      refine od_niTI ⟨_, rfl, rfl, fun _ => ?_⟩
      repeat' walk_at "wp"
      refine od_catT_ (by rw [List.length_map]; show ns.length + 1 ≤ _; omega) ?_
      rw [row_app]
      repeat' walk_at "wp"
      refine ⟨nm, tl, n, _, ns ++ [o], rfl, .inr rfl, r, by rw [List.length_append]; show ns.length + 1 ≤ _; omega, fun c hc => ?_, rfl⟩
      rcases List.mem_append.mp hc with h | h
      · exact hn c h
      · rw [List.mem_singleton.mp h]; exact nn_in.mp ho
    · refine a_nil (cb_anyF ?_)
      repeat' walk_at "wp"
      exact q
⟩
theorem has_is_greatest (D : Dn K mg "is_greatest" s_is_greatest) (tx : Tx K mg) (h_is_close_lot : Has P w K mg base "is_close_lot" ["model", "names"] 2 (SpF K pre_is_close_lot)) (h_names_of : Has P w K mg base "names_of" ["model"] 1 (SpF K pre_names_of)) : Has P w K mg base "is_greatest" ["model", "names"] 3 (SpF K pre_is_greatest) := has_of D (fun _ _ _ _ _ _ us hl => match us, hl with | [_, _], _ => rfl) (ok_is_greatest tx h_is_close_lot h_names_of)

theorem ok_greatest_lots (tx : Tx K mg) (h_names_of : Has P w K mg base "names_of" ["model"] 1 (SpF K pre_names_of)) (h_is_close_lot : Has P w K mg base "is_close_lot" ["model", "names"] 2 (SpF K pre_is_close_lot)) (h_is_greatest : Has P w K mg base "is_greatest" ["model", "names"] 3 (SpF K pre_is_greatest)) : ∀ f fd, FnP K "greatest_lots" s_greatest_lots f fd → FnOk P w K mg base CX0 4 f fd ["model"] (SpF K pre_greatest_lots) := fun f fd F =>
  F.ok sc_greatest_lots (fun vs H Q E s => lenF (fun ds Φ h => by
    obtain ⟨_, _, _, rfl, _⟩ := h; rfl) s) fun cdv A outer s H vs Q E hr h => ⟨_, PSs.nox (pss_cons (ps_set (i := 1) sc_greatest_lots.nd rfl (.inl rfl) (pe_lst (pa_cons (pe_tup pa_nil) pa_nil)))
    (pss_cons (ps_for PassesOwn.never rfl (pi_list (pe_callH h_names_of (hr.mono (by decide)) (by rfl) (pa_cons (pv 0) pa_nil))) (pg_name (i := 2) sc_greatest_lots.nd rfl (.inr rfl)) (pss_one (ps_expr (pe_bm PySem.F.plainAttrs_list PySem.F.slot_list_extend PySem.F.type_list_extend mt_extend (pv 1) (pa_cons (pe_lc (own := [("names", 3)]) (g := gName 3) (by rfl) sc_greatest_lots.nd (pi_list (pv 1)) (blkOk_by (N := N_greatest_lots) (sc := defScope s_greatest_lots) (by decide +kernel)) (fun _ _ _ _ _ => (pg_name (i := 3) sc_greatest_lots.nd rfl (by first | exact Or.inl rfl | exact Or.inr rfl))) (fun _ _ _ _ _ => (pts_one (pt_val (pe_callH h_is_close_lot (hr.mono (by decide)) (by rfl) (pa_cons (pv 0) (pa_cons (pe_op (r := rCatA K) op_catA (pv 3) (pe_tup (pa_cons (pv 2) pa_nil))) pa_nil)))))) (fun _ _ _ _ _ => (pe_op (r := rCatA K) op_catA (pv 3) (pe_tup (pa_cons (pv 2) pa_nil))))) pa_nil)))))
    (pss_one (ps_ret (pe_callB (id := "sorted") (FwS.cr_sortedD (hu64 hr)) (by rfl) tx.sorted (by decide +kernel) (pa_cons (pe_lc (own := [("names", 3)]) (g := gName 3) (by rfl) sc_greatest_lots.nd (pi_list (pv 1)) (blkOk_by (N := N_greatest_lots) (sc := defScope s_greatest_lots) (by decide +kernel)) (fun _ _ _ _ _ => (pg_name (i := 3) sc_greatest_lots.nd rfl (by first | exact Or.inl rfl | exact Or.inr rfl))) (fun _ _ _ _ _ => (pts_one (PW.pt (pw_and (Fw.pt_truK (K := K) (pv 3) (fun _ => rfl) (by rfl)) (pw_and1 (pt_val (pe_callH h_is_greatest (hr.mono (by decide)) (by rfl) (pa_cons (pv 0) (pa_cons (pv 3) pa_nil))))))))) (fun _ _ _ _ _ => (pv 3))) pa_nil)))))),
  bodyF h fun ds Φ hp => by
    obtain ⟨nm, tl, n, rfl, r, q⟩ := hp
    have r4 := r.four
    refine s_seq (s_own ?_)
    repeat' walk_at "wp"
    refine s_for (js := [2]) (i_list_ ?_)
    repeat' walk_at "wp"
    refine ⟨nm, tl, n, rfl, r, _, rfl, fun i e => ∃ s2, e = [.dat (modelD nm tl), .own ((((nn n).take i).foldl (lotsStep (mat n tl)) [[]]).map fun m => tupI m), s2, .no], ⟨_, rfl⟩, fun i x e hx => ?_, fun e => ?_⟩
    · rintro ⟨s2, rfl⟩
      rw [List.getElem?_map] at hx
      obtain ⟨a, ha, rfl⟩ := Option.map_eq_some_iff.mp hx
      have l1 := take_len (mat n tl) r4 (i := i)
      have l2 := take_ok (mat n tl) r4 (i := i)
      have l3 := take_len (mat n tl) r4 (i := i + 1)
      rw [take_step _ ha] at l3
      refine g_name (s_ext rfl (f_own (i := 1) rfl (f_flt (α := List Int) (js := [3]) (fun m => tupI m) (fun ns => closeB (mat n tl) (ns ++ [a])) (fun ns => tupI (ns ++ [a])) (i_list_ (e_var rfl ⟨_, rfl, _, rfl, by omega, fun ns hns => g_name ?_, ?_, ?_, ?_⟩)))))
      · have l4 := l2 ns hns
        have l5 := l4.1
        repeat' walk_at "wp"
        refine od_catT_ (by rw [List.length_map]; show ns.length + 1 ≤ _; omega) ?_
        rw [row_app]
        repeat' walk_at "wp"
        refine ⟨nm, tl, n, _, ns ++ [a], rfl, .inr rfl, r, by rw [List.length_append]; show ns.length + 1 ≤ _; omega, fun c hc => ?_, ?_⟩
        · rcases List.mem_append.mp hc with h | h
          · exact l4.2 c h
          · rw [List.mem_singleton.mp h]; exact nn_in.mp (List.mem_of_getElem? ha)
        refine ⟨_, rfl, rfl, fun _ => ?_⟩
        repeat' walk_at "wp"
        refine od_catT_ (by rw [List.length_map]; show ns.length + 1 ≤ _; omega) ?_
        exact row_app ns a
      · rw [show (fun ns => tupI (ns ++ [a])) = ((fun m => tupI m) ∘ fun ns : List Int => ns ++ [a]) from rfl, ← List.map_map]
        exact flat_rows _
      · rw [show ∀ L, lotsStep (mat n tl) L a = L ++ (L.filter fun ns => closeB (mat n tl) (ns ++ [a])).map fun ns => ns ++ [a] from fun _ => rfl, List.length_append, List.length_map] at l3
        rw [List.length_map, List.length_map]
        omega
      · refine ⟨.dat (.int a), ?_⟩
        rw [take_step _ ha]
        show _ = [_, Slot.own (List.map _ (_ ++ _)), _, _]
        rw [List.map_append, List.map_map]
        rfl
    · rintro ⟨s2, rfl⟩
      have l1 := take_len (mat n tl) r4 (i := n)
      have l2 := take_ok (mat n tl) r4 (i := n)
      rw [List.length_map, nn_len, ← lotsU_take]
      rw [← lotsU_take] at l1 l2
      refine s_ret (e_new (f_own (i := 1) rfl (f_sorted (a_cons ?_))))
      refine e_flt (α := List Int) (js := [3]) (fun m => tupI m) (fun ns => !ns.isEmpty && isGr (mat n tl) n ns) (fun ns => tupI ns) (i_list_ (e_var rfl ⟨_, rfl, lotsU (mat n tl) n, rfl, by omega, fun ns hns => g_name ?_, ?_⟩))
      · have l4 := l2 ns hns
        have l5 := l4.1
        refine t_and (FwWd.t_tru (e_var rfl ⟨_, rfl, ?_⟩))
        refine iteB (fun e => ?_) (fun e => ?_)
        · have e2 : ns.isEmpty = false := by
            cases ns with
            | nil => simp at e
            | cons a l => rfl
          repeat' walk_at "wp"
          refine ⟨nm, tl, n, ns, rfl, r, by omega, l4.2, _, rfl, by show _ = (!ns.isEmpty && isGr (mat n tl) n ns); rw [e2]; rfl, fun _ => ?_⟩
          repeat' walk_at "wp"
          rfl
        · have e2 : ns.isEmpty = true := by
            cases ns with
            | nil => rfl
            | cons a l => simp at e
          refine ⟨by show _ = (!ns.isEmpty && isGr (mat n tl) n ns); rw [e2]; rfl, fun h => ?_⟩
          have h : (!ns.isEmpty && isGr (mat n tl) n ns) = true := h
          rw [e2] at h
          simp at h
      · refine a_nil ⟨_, rfl, FwN.alike_rows _, FwN.sortable_rows fun k hk => ?_, FwN.deep_rows _, FwN.noDict_rows _, ?_, ?_⟩
        · have h1 := (List.mem_filter.mp hk).2
          rw [Bool.and_eq_true] at h1
          rintro rfl
          exact absurd h1.1 (by decide)
        · rw [sort_isort]
          exact flat_rows _
        · rw [sort_isort]
          exact q
⟩
theorem has_greatest_lots (D : Dn K mg "greatest_lots" s_greatest_lots) (tx : Tx K mg) (h_names_of : Has P w K mg base "names_of" ["model"] 1 (SpF K pre_names_of)) (h_is_close_lot : Has P w K mg base "is_close_lot" ["model", "names"] 2 (SpF K pre_is_close_lot)) (h_is_greatest : Has P w K mg base "is_greatest" ["model", "names"] 3 (SpF K pre_is_greatest)) : Has P w K mg base "greatest_lots" ["model"] 4 (SpF K pre_greatest_lots) := has_of D (fun _ _ _ _ _ _ us hl => match us, hl with | [_], _ => rfl) (ok_greatest_lots tx h_names_of h_is_close_lot h_is_greatest)

theorem ok_greatest (tx : Tx K mg) (h_check_model : Has P w K mg base "check_model" ["value"] 8 (SpF K pre_check_model)) (h_greatest_lots : Has P w K mg base "greatest_lots" ["model"] 4 (SpF K pre_greatest_lots)) : ∀ f fd, FnP K "greatest" s_greatest f fd → FnOk P w K mg base CX0 9 f fd ["model"] (SpF K pre_greatest) := fun f fd F =>
  F.ok sc_greatest (fun vs H Q E s => lenF (fun ds Φ h => by
    obtain ⟨_, _, _, rfl, _⟩ := h; rfl) s) fun cdv A outer s H vs Q E hr h => ⟨_, PSs.nox (pss_cons (ps_expr (pe_callH h_check_model (hr.mono (by decide)) (by rfl) (pa_cons (pv 0) pa_nil)))
    (pss_one (ps_ret (pe_callH h_greatest_lots (hr.mono (by decide)) (by rfl) (pa_cons (pv 0) pa_nil))))),
  bodyF h fun ds Φ hp => by
    obtain ⟨nm, tl, n, rfl, r, q⟩ := hp
    repeat' walk_at "wp"
    refine ⟨nm, tl, n, rfl, r, ?_⟩
    repeat' walk_at "wp"
    exact ⟨nm, tl, n, rfl, r, q⟩
⟩
theorem has_greatest (D : Dn K mg "greatest" s_greatest) (tx : Tx K mg) (h_check_model : Has P w K mg base "check_model" ["value"] 8 (SpF K pre_check_model)) (h_greatest_lots : Has P w K mg base "greatest_lots" ["model"] 4 (SpF K pre_greatest_lots)) : Has P w K mg base "greatest" ["model"] 9 (SpF K pre_greatest) := has_of D (fun _ _ _ _ _ _ us hl => match us, hl with | [_], _ => rfl) (ok_greatest tx h_check_model h_greatest_lots)

theorem ok_is_fitted (tx : Tx K mg) (h_check_model : Has P w K mg base "check_model" ["value"] 8 (SpF K pre_check_model)) (h_greatest_lots : Has P w K mg base "greatest_lots" ["model"] 4 (SpF K pre_greatest_lots)) : ∀ f fd, FnP K "is_fitted" s_is_fitted f fd → FnOk P w K mg base CX0 9 f fd ["model"] (SpF K pre_is_fitted) := fun f fd F =>
  F.ok sc_is_fitted (fun vs H Q E s => lenF (fun ds Φ h => by
    obtain ⟨_, _, _, rfl, _⟩ := h; rfl) s) fun cdv A outer s H vs Q E hr h => ⟨_, PSs.nox (pss_cons (ps_expr (pe_callH h_check_model (hr.mono (by decide)) (by rfl) (pa_cons (pv 0) pa_nil)))
    (pss_one (ps_ret (pe_and (pe_cmpR op_eq (pe_callB (id := "len") call_len_seq (by rfl) tx.len (by decide +kernel) (pa_cons (pe_ix ix_tup (pv 0) pe_int (fun _ _ => rfl)) pa_nil)) pe_int (nomark _)) (pe_one (pe_callB (id := "all") (cr_all rfl) (by rfl) tx.all (by decide +kernel) (pa_cons (pe_lc (own := [("names", 1)]) (g := gName 1) (by rfl) sc_is_fitted.nd (pi_list (pe_callH h_greatest_lots (hr.mono (by decide)) (by rfl) (pa_cons (pv 0) pa_nil))) (blkOk_by (N := N_is_fitted) (sc := defScope s_is_fitted) (by decide +kernel)) (fun _ _ _ _ _ => (pg_name (i := 1) sc_is_fitted.nd rfl (by first | exact Or.inl rfl | exact Or.inr rfl))) (fun _ _ _ _ _ => pts_nil) (fun _ _ _ _ _ => (pe_cmpR (r := FwWd.rInD K false) (FwWd.op_inD (hu65 hr)) (pv 1) (pe_ix (r := rIxT K) ix_tup (pv 0) pe_int (fun _ _ => rfl)) (by rfl)))) pa_nil))))))),
  bodyF h fun ds Φ hp => by
    obtain ⟨nm, tl, n, rfl, r, q⟩ := hp
    have r4 := r.four
    repeat' walk_at "wp"
    refine ⟨nm, tl, n, rfl, r, ?_⟩
    repeat' walk_at "wp"
    refine od_ixT_ (d := .tuple []) rfl ?_
    repeat' walk_at "wp"
    refine e_mapA (α := List Int) (js := [1]) (fun m => tupI m) (fun m => .bool (tl.contains m)) (i_list_ ?_)
    repeat' walk_at "wp"
    refine ⟨nm, tl, n, rfl, r, _, rfl, greatP (mat n tl) n, rfl, ?_, fun m hm => g_name ?_, ?_⟩
    · have := great_len (mat n tl) r4
      omega
    · repeat' walk_at "wp"
      refine od_ixT_ (d := rowsT tl) rfl ?_
      exact od_inTR rfl
    · exact a_nil (cb_allF q)
⟩
theorem has_is_fitted (D : Dn K mg "is_fitted" s_is_fitted) (tx : Tx K mg) (h_check_model : Has P w K mg base "check_model" ["value"] 8 (SpF K pre_check_model)) (h_greatest_lots : Has P w K mg base "greatest_lots" ["model"] 4 (SpF K pre_greatest_lots)) : Has P w K mg base "is_fitted" ["model"] 9 (SpF K pre_is_fitted) := has_of D (fun _ _ _ _ _ _ us hl => match us, hl with | [_], _ => rfl) (ok_is_fitted tx h_check_model h_greatest_lots)

theorem ok_friends_among (tx : Tx K mg) (h_friends_of : Has P w K mg base "friends_of" ["model", "position"] 2 (SpF K pre_friends_of)) : ∀ f fd, FnP K "friends_among" s_friends_among f fd → FnOk P w K mg base CX0 3 f fd ["model", "name", "names"] (SpF K pre_friends_among) := fun f fd F =>
  F.ok sc_friends_among (fun vs H Q E s => lenF (fun ds Φ h => by
    obtain ⟨_, _, _, _, _, _, rfl, _⟩ := h; rfl) s) fun cdv A outer s H vs Q E hr h => ⟨_, PSs.nox (pss_one (ps_ret (pe_lc (own := [("friend", 3)]) (g := gName 3) (by rfl) sc_friends_among.nd (pi_list (pe_callH h_friends_of (hr.mono (by decide)) (by rfl) (pa_cons (pv 0) (pa_cons (pv 1) pa_nil)))) (blkOk_by (N := N_friends_among) (sc := defScope s_friends_among) (by decide +kernel)) (fun _ _ _ _ _ => (pg_name (i := 3) sc_friends_among.nd rfl (by first | exact Or.inl rfl | exact Or.inr rfl))) (fun _ _ _ _ _ => (pts_one (pt_cmpR (r := FwWd.rInD K false) (FwWd.op_inD (hu65 hr)) (pv 3) (pv 2) (by rfl)))) (fun _ _ _ _ _ => (pv 3))))),
  bodyF h fun ds Φ hp => by
    obtain ⟨nm, tl, n, a, x, ns, rfl, hx, r, ha, q⟩ := hp
    have r4 := r.four
    refine s_ret (e_flt (α := Int) (js := [3]) .int (fun o => ns.contains o) .int (i_list_ ?_))
    repeat' walk_at "wp"
    refine ⟨nm, tl, n, a, rfl, r, ha, _, rfl, fr (mat n tl) n a, rfl, by have := fr_len (mat n tl) n a; omega, fun o ho => g_name ?_, q⟩
    repeat' walk_at "wp"
    rcases hx with rfl | rfl
    · refine od_inLI ⟨_, rfl, rfl, fun _ => ?_⟩
      repeat' walk_at "wp"
      rfl
    · refine od_inTI ⟨_, rfl, rfl, fun _ => ?_⟩
      repeat' walk_at "wp"
      rfl
⟩
theorem has_friends_among (D : Dn K mg "friends_among" s_friends_among) (tx : Tx K mg) (h_friends_of : Has P w K mg base "friends_of" ["model", "position"] 2 (SpF K pre_friends_of)) : Has P w K mg base "friends_among" ["model", "name", "names"] 3 (SpF K pre_friends_among) := has_of D (fun _ _ _ _ _ _ us hl => match us, hl with | [_, _, _], _ => rfl) (ok_friends_among tx h_friends_of)

theorem ok_sequence_of (tx : Tx K mg) (h_names_of : Has P w K mg base "names_of" ["model"] 1 (SpF K pre_names_of)) (h_is_close_lot : Has P w K mg base "is_close_lot" ["model", "names"] 2 (SpF K pre_is_close_lot)) (h_friends_among : Has P w K mg base "friends_among" ["model", "name", "names"] 3 (SpF K pre_friends_among)) : ∀ f fd, FnP K "sequence_of" s_sequence_of f fd → FnOk P w K mg base CX0 4 f fd ["model"] (SpF K pre_sequence_of) := fun f fd F =>
  F.ok sc_sequence_of (fun vs H Q E s => lenF (fun ds Φ h => by
    obtain ⟨_, _, _, rfl, _⟩ := h; rfl) s) fun cdv A outer s H vs Q E hr h => ⟨_, PSs.nox (pss_cons (ps_set (i := 1) sc_sequence_of.nd rfl (.inr rfl) (pe_callH h_names_of (hr.mono (by decide)) (by rfl) (pa_cons (pv 0) pa_nil)))
    (pss_cons (ps_set (i := 2) sc_sequence_of.nd rfl (.inl rfl) (pe_tup pa_nil))
    (pss_cons (ps_while PassesOwn.never (Fw.pt_truK (K := K) (pv 1) (fun _ => rfl) (by rfl)) (pss_cons (ps_set (i := 3) sc_sequence_of.nd rfl (.inr rfl) (pe_lc (own := [("name", 4)]) (g := gName 4) (by rfl) sc_sequence_of.nd (pi_list (pv 1)) (blkOk_by (N := N_sequence_of) (sc := defScope s_sequence_of) (by decide +kernel)) (fun _ _ _ _ _ => (pg_name (i := 4) sc_sequence_of.nd rfl (by first | exact Or.inl rfl | exact Or.inr rfl))) (fun _ _ _ _ _ => (pts_one (pt_val (pe_callH h_is_close_lot (hr.mono (by decide)) (by rfl) (pa_cons (pv 0) (pa_cons (pe_callH h_friends_among (hr.mono (by decide)) (by rfl) (pa_cons (pv 0) (pa_cons (pv 4) (pa_cons (pv 1) pa_nil)))) pa_nil)))))) (fun _ _ _ _ _ => (pv 4))))
    (pss_cons (ps_if (pt_not (Fw.pt_truK (K := K) (pv 3) (fun _ => rfl) (by rfl))) (pss_one (ps_ret pe_non)) pss_nil)
    (pss_cons (ps_set (i := 2) sc_sequence_of.nd rfl (.inl rfl) (pe_op op_catA (pv 2) (pe_tup (pa_cons (pe_ix ix_list (pv 3) pe_int (fun _ _ => rfl)) pa_nil))))
    (pss_one (ps_set (i := 1) sc_sequence_of.nd rfl (.inr rfl) (pe_lc (own := [("name", 4)]) (g := gName 4) (by rfl) sc_sequence_of.nd (pi_list (pv 1)) (blkOk_by (N := N_sequence_of) (sc := defScope s_sequence_of) (by decide +kernel)) (fun _ _ _ _ _ => (pg_name (i := 4) sc_sequence_of.nd rfl (by first | exact Or.inl rfl | exact Or.inr rfl))) (fun _ _ _ _ _ => (pts_one (pt_cmpR op_ne (pv 4) (pe_ix (r := rIxL K) ix_list (pv 3) pe_int (fun _ _ => rfl)) (nomark _)))) (fun _ _ _ _ _ => (pv 4)))))))))
    (pss_one (ps_ret (pv 2)))))),
  bodyF h fun ds Φ hp => by
    obtain ⟨nm, tl, n, rfl, r, q⟩ := hp
    have r4 := r.four
    repeat' walk_at "wp"
    refine ⟨nm, tl, n, rfl, r, ?_⟩
    repeat' walk_at "wp"
    refine s_while (fun m e => ∃ left found s3 s4 k, e = [.dat (modelD nm tl), .dat (listI left), .dat (tupI found), s3, s4] ∧ left.length = m ∧ found.length + left.length ≤ n ∧ (∀ c ∈ left, InR n c) ∧ left.length < k ∧ seqL (mat n tl) n k left found = seqP (mat n tl) n) n ⟨nn n, [], _, _, n + 1, rfl, nn_len n, by rw [nn_len]; simp, fun c hc => nn_in.mp hc, by rw [nn_len]; omega, rfl⟩ ?_
    rintro m e ⟨left, found, s3, s4, k, rfl, lm, lf, li, lk, inv⟩
    obtain ⟨k, rfl⟩ : ∃ k', k = k' + 1 := ⟨k - 1, by omega⟩
    refine FwWd.t_tru (e_var rfl ⟨_, rfl, ?_⟩)
    refine iteB (fun e => ?_) (fun e => ?_)
    · have lne : left ≠ [] := by
        rintro rfl
        simp at e
      have inv2 := inv
      unfold seqL at inv2
      rw [if_neg lne] at inv2
      refine s_seq (s_asg (e_flt (α := Int) (js := [4]) .int (fun x => closeB (mat n tl) (frA (mat n tl) n x left)) .int (i_list_ (e_var rfl ⟨_, rfl, left, rfl, by omega, fun a ha => g_name ?_, ?_⟩))))
      · repeat' walk_at "wp"
        refine ⟨nm, tl, n, a, _, left, rfl, .inl rfl, r, li a ha, ?_⟩
        repeat' walk_at "wp"
        refine ⟨nm, tl, n, _, _, rfl, .inl rfl, r, ?_, fun c hc => frA_in hc, _, rfl, rfl, fun _ => ?_⟩
        · have := frA_len (mat n tl) n a left
          omega
        repeat' walk_at "wp"
        rfl
      · refine s_seq (s_if (t_not (FwWd.t_tru (e_var rfl ⟨_, rfl, ?_⟩))))
        cases hf : left.filter (fun x => closeB (mat n tl) (frA (mat n tl) n x left)) with
        | nil =>
          rw [hf] at inv2
          rw [← inv2] at q
          refine iteT' rfl ?_
          repeat' walk_at "wp"
          exact q
        | cons f fs =>
          rw [hf] at inv2
          have fm : f ∈ left := (List.mem_filter.mp (hf ▸ List.mem_cons_self : f ∈ left.filter _)).1
          refine iteF' rfl ?_
          repeat' walk_at "wp"
          refine od_ixL_ (d := .int f) (at0 f fs) ?_
          repeat' walk_at "wp"
          refine od_catT_ (by rw [List.length_map]; show found.length + 1 ≤ _; omega) ?_
          rw [row_app]
          repeat' walk_at "wp"
          have hlt : (left.filter fun x => decide (x ≠ f)).length < left.length := List.length_filter_lt_length_iff_exists.mpr ⟨f, fm, by simp⟩
          refine e_flt (α := Int) (js := [4]) .int (fun x => decide (x ≠ f)) .int (i_list_ (e_var rfl ⟨_, rfl, left, rfl, by omega, fun a ha => g_name ?_, ?_⟩))
          · repeat' walk_at "wp"
            refine od_ixL_ (d := .int f) (at0 f fs) ?_
            repeat' walk_at "wp"
            refine ⟨by by_cases h : a = f <;> simp [h], fun _ => ?_⟩
            repeat' walk_at "wp"
            rfl
          · refine ⟨(left.filter fun x => decide (x ≠ f)).length, by omega, left.filter (fun x => decide (x ≠ f)), found ++ [f], _, _, k, rfl, rfl, ?_, fun c hc => li c (List.mem_filter.mp hc).1, by omega, inv2⟩
            rw [List.length_append]
            show found.length + 1 + _ ≤ n
            omega
    · have le : left = [] := by
        cases left with
        | nil => rfl
        | cons a l => simp at e
      subst le
      unfold seqL at inv
      rw [if_pos rfl] at inv
      repeat' walk_at "wp"
      rw [← inv] at q
      exact q
⟩
theorem has_sequence_of (D : Dn K mg "sequence_of" s_sequence_of) (tx : Tx K mg) (h_names_of : Has P w K mg base "names_of" ["model"] 1 (SpF K pre_names_of)) (h_is_close_lot : Has P w K mg base "is_close_lot" ["model", "names"] 2 (SpF K pre_is_close_lot)) (h_friends_among : Has P w K mg base "friends_among" ["model", "name", "names"] 3 (SpF K pre_friends_among)) : Has P w K mg base "sequence_of" ["model"] 4 (SpF K pre_sequence_of) := has_of D (fun _ _ _ _ _ _ us hl => match us, hl with | [_], _ => rfl) (ok_sequence_of tx h_names_of h_is_close_lot h_friends_among)

theorem ok_sequence (tx : Tx K mg) (h_check_model : Has P w K mg base "check_model" ["value"] 8 (SpF K pre_check_model)) (h_sequence_of : Has P w K mg base "sequence_of" ["model"] 4 (SpF K pre_sequence_of)) : ∀ f fd, FnP K "sequence" s_sequence f fd → FnOk P w K mg base CX0 9 f fd ["model"] (SpF K pre_sequence) := fun f fd F =>
  F.ok sc_sequence (fun vs H Q E s => lenF (fun ds Φ h => by
    obtain ⟨_, _, _, rfl, _⟩ := h; rfl) s) fun cdv A outer s H vs Q E hr h => ⟨_, PSs.nox (pss_cons (ps_expr (pe_callH h_check_model (hr.mono (by decide)) (by rfl) (pa_cons (pv 0) pa_nil)))
    (pss_one (ps_ret (pe_callH h_sequence_of (hr.mono (by decide)) (by rfl) (pa_cons (pv 0) pa_nil))))),
  bodyF h fun ds Φ hp => by
    obtain ⟨nm, tl, n, rfl, r, q⟩ := hp
    repeat' walk_at "wp"
    refine ⟨nm, tl, n, rfl, r, ?_⟩
    repeat' walk_at "wp"
    exact ⟨nm, tl, n, rfl, r, q⟩
⟩
theorem has_sequence (D : Dn K mg "sequence" s_sequence) (tx : Tx K mg) (h_check_model : Has P w K mg base "check_model" ["value"] 8 (SpF K pre_check_model)) (h_sequence_of : Has P w K mg base "sequence_of" ["model"] 4 (SpF K pre_sequence_of)) : Has P w K mg base "sequence" ["model"] 9 (SpF K pre_sequence) := has_of D (fun _ _ _ _ _ _ us hl => match us, hl with | [_], _ => rfl) (ok_sequence tx h_check_model h_sequence_of)

theorem ok_arrangements (tx : Tx K mg) : ∀ f fd, FnP K "arrangements" s_arrangements f fd → FnOk P w K mg base CX0 1 f fd ["names"] (SpF K pre_arrangements) := fun f fd F =>
  F.ok sc_arrangements (fun vs H Q E s => lenF (fun ds Φ h => by
    obtain ⟨_, rfl, _⟩ := h; rfl) s) fun cdv A outer s H vs Q E hr h => ⟨_, PSs.nox (pss_cons (ps_set (i := 1) sc_arrangements.nd rfl (.inl rfl) (pe_lst (pa_cons (pe_tup pa_nil) pa_nil)))
    (pss_cons (ps_set (i := 2) sc_arrangements.nd rfl (.inl rfl) pe_int)
    (pss_cons (ps_while PassesOwn.never (pt_cmpR op_lt (pv 2) (pe_callB (id := "len") call_len_seq (by rfl) tx.len (by decide +kernel) (pa_cons (pv 1) pa_nil)) (nomark _)) (pss_cons (ps_set (i := 3) sc_arrangements.nd rfl (.inr rfl) (pe_ix ix_list (pv 1) (pv 2) (fun _ _ => rfl)))
    (pss_cons (ps_aug (i := 2) sc_arrangements.nd rfl (.inl rfl) pe_int ip_add)
    (pss_one (ps_expr (pe_bm PySem.F.plainAttrs_list PySem.F.slot_list_extend PySem.F.type_list_extend mt_extend (pv 1) (pa_cons (pe_lc (own := [("name", 4)]) (g := gName 4) (by rfl) sc_arrangements.nd (pi_list (pv 0)) (blkOk_by (N := N_arrangements) (sc := defScope s_arrangements) (by decide +kernel)) (fun _ _ _ _ _ => (pg_name (i := 4) sc_arrangements.nd rfl (by first | exact Or.inl rfl | exact Or.inr rfl))) (fun _ _ _ _ _ => (pts_one (pt_cmpR (r := FwWd.rInD K true) (FwWd.op_notInD (hu65 hr)) (pv 4) (pv 3) (by rfl)))) (fun _ _ _ _ _ => (pe_op (r := rCatA K) op_catA (pv 3) (pe_tup (pa_cons (pv 4) pa_nil))))) pa_nil)))))))
    (pss_one (ps_ret (pv 1)))))),
  bodyF h fun ds Φ hp => by
    obtain ⟨n, rfl, h1, h4, q⟩ := hp
    have ae := arr_end ⟨n, by omega⟩ h1
    have al := arr_lt ⟨n, by omega⟩ h1
    have ok := arr_ok n h4
    have a65 : arrN n ≤ 65 := by unfold arrN; split <;> omega
    refine s_seq (s_own ?_)
    repeat' walk_at "wp"
    refine s_while (fun m e => ∃ k s3 s4, e = [.dat (listI (nn n)), .own ((arrIt (nn n) k).map fun m => tupI m), .dat (.int (k : Nat)), s3, s4] ∧ k ≤ arrN n ∧ m = arrN n - k) (arrN n) ⟨0, _, _, rfl, Nat.zero_le _, rfl⟩ ?_
    rintro m e ⟨k, s3, s4, rfl, hk, rfl⟩
    refine t_own (i := 1) rfl ?_
    repeat' walk_at "wp"
    rw [List.length_map]
    by_cases hlt : k < arrN n
    · have h2 := al ⟨k, by omega⟩ hlt
      have h2 : k < (arrIt (nn n) k).length := h2
      refine iteT' (decide_eq_true (by omega)) ?_
      have hg : (arrIt (nn n) k)[k]? = some (arrIt (nn n) k)[k] := List.getElem?_eq_getElem h2
      refine s_seq (s_asg (e_ixO2 (i := 1) (j := 2) rfl rfl ⟨tupI (arrIt (nn n) k)[k], ?_, flat_tupI _, ?_⟩))
      · exact (FwN.at_nat (j := k) (by rw [List.length_map]; exact h2)).trans (by rw [List.getElem_map])
      repeat' walk_at "wp"
      have h9 := arr_k ⟨n, by omega⟩ ⟨k, by omega⟩ hlt
      have h10 : (arrIt (nn n) (k + 1)).length ≤ 100 := h9.1
      have h11 : ((arrIt (nn n) k)[k]?.getD []).length ≤ 4 := h9.2
      rw [hg] at h11
      have h12 : arrIt (nn n) (k + 1) = arrIt (nn n) k ++ ((nn n).filter fun x => !((arrIt (nn n) k)[k]).contains x).map fun x => (arrIt (nn n) k)[k] ++ [x] := by
        show (match (arrIt (nn n) k)[k]? with
          | some a => arrIt (nn n) k ++ ((nn n).filter fun x => !a.contains x).map fun x => a ++ [x]
          | none => arrIt (nn n) k) = _
        rw [hg]
      have h13 := h10
      rw [h12, List.length_append, List.length_map] at h13
      generalize hA : (arrIt (nn n) k)[k] = A at h11 h12 h13
      refine s_aug rfl (e_int ⟨1, rfl, ?_⟩)
      refine s_ext (i := 1) rfl (f_flt (α := Int) (js := [4]) .int (fun x => !A.contains x) (fun x => tupI (A ++ [x])) (i_list_ (e_var rfl ⟨_, rfl, nn n, rfl, by rw [nn_len]; omega, fun x hx => g_name ?_, ?_⟩)))
      · have h11 : A.length ≤ 4 := h11
        repeat' walk_at "wp"
        refine od_niTI ⟨_, rfl, rfl, fun _ => ?_⟩
        repeat' walk_at "wp"
        refine od_catT_ (by rw [List.length_map]; show A.length + 1 ≤ _; omega) ?_
        exact row_app A x
      · refine ⟨by rw [List.length_map, List.length_map]; omega, arrN n - (k + 1), by omega, k + 1, .dat (tupI A), s4, ?_, by omega, rfl⟩
        rw [h12, List.map_append, List.map_map]
        rfl
    · have e : k = arrN n := by omega
      subst e
      refine iteF' (decide_eq_false (by have : (arrIt (nn n) (arrN n)).length = arrN n := ae; omega)) ?_
      refine s_pub (i := 1) rfl (s_ret (e_var rfl ?_))
      exact q
⟩
theorem has_arrangements (D : Dn K mg "arrangements" s_arrangements) (tx : Tx K mg) : Has P w K mg base "arrangements" ["names"] 1 (SpF K pre_arrangements) := has_of D (fun _ _ _ _ _ _ us hl => match us, hl with | [_], _ => rfl) (ok_arrangements tx)

theorem ok_is_ring (tx : Tx K mg) (h_are_tied : Has P w K mg base "are_tied" ["model", "one", "other"] 1 (SpF K pre_are_tied)) : ∀ f fd, FnP K "is_ring" s_is_ring f fd → FnOk P w K mg base CX0 2 f fd ["model", "names"] (SpF K pre_is_ring) := fun f fd F =>
  F.ok sc_is_ring (fun vs H Q E s => lenF (fun ds Φ h => by
    obtain ⟨_, _, _, _, rfl, _⟩ := h; rfl) s) fun cdv A outer s H vs Q E hr h => ⟨_, PSs.nox (pss_cons (ps_set (i := 2) sc_is_ring.nd rfl (.inl rfl) (pe_callB (id := "len") call_len_seq (by rfl) tx.len (by decide +kernel) (pa_cons (pv 1) pa_nil)))
    (pss_cons (ps_if (pt_cmpR op_lt (pv 2) (pe_glob (v := .int 4) (by rfl) tx.LEAST_HOLE.choose_spec ⟨_, rfl⟩) (nomark _)) (pss_one (ps_ret pe_bl)) pss_nil)
    (pss_cons (ps_for PassesOwn.never rfl (pi_range1 (by rfl) tx.range (pa_cons (pv 2) pa_nil)) (pg_name (i := 3) sc_is_ring.nd rfl (.inl rfl)) (pss_one (ps_for PassesOwn.never rfl (pi_range1 (by rfl) tx.range (pa_cons (pv 3) pa_nil)) (pg_name (i := 4) sc_is_ring.nd rfl (.inl rfl)) (pss_cons (ps_set (i := 5) sc_is_ring.nd rfl (.inl rfl) (pe_cmpR (FwWd.op_inD (hu65 hr)) (pe_op op_sub (pv 3) (pv 4)) (pe_tup (pa_cons pe_int (pa_cons (pe_op op_sub (pv 2) pe_int) pa_nil))) (by rfl)))
    (pss_one (ps_if (pt_cmpR op_ne (pe_callH h_are_tied (hr.mono (by decide)) (by rfl) (pa_cons (pv 0) (pa_cons (pe_ix ix_tup (pv 1) (pv 3) (fun _ _ => rfl)) (pa_cons (pe_ix ix_tup (pv 1) (pv 4) (fun _ _ => rfl)) pa_nil)))) (pv 5) (nomark _)) (pss_one (ps_ret pe_bl)) pss_nil))))))
    (pss_one (ps_ret pe_bl))))),
  bodyF h fun ds Φ hp => by
    obtain ⟨nm, tl, n, ns, rfl, r, hl, hn, q⟩ := hp
    repeat' walk_at "wp"
    refine iteP (fun h => ?_) (fun h => ?_)
    · repeat' walk_at "wp"
      have e : ringB (mat n tl) ns = false := by
        unfold ringB
        rw [List.length_map] at h
        rw [decide_eq_false (by omega), Bool.false_and]
      rw [e] at q
      exact q
    rw [List.length_map] at h
    repeat' walk_at "wp"
    rw [List.length_map]
    refine s_for (js := [3]) (i_rng1 (a_cons (e_var rfl (a_nil ⟨_, rfl, by omega, by omega, fun i e => ∃ s3 s4 s5, e = [.dat (modelD nm tl), .dat (tupI ns), .dat (.int (ns.length : Nat)), s3, s4, s5] ∧ ∀ a, a < i → ∀ b, b < a → chk (mat n tl) ns a b = true, ⟨_, _, _, rfl, fun a ha => absurd ha (Nat.not_lt_zero _)⟩, fun i x e hx => ?_, fun e => ?_⟩))))
    · rintro ⟨s3, s4, s5, rfl, inv⟩
      have hi : i < ns.length := by
        have := (List.getElem?_eq_some_iff.mp hx).1
        rw [rng_len] at this
        omega
      have hx2 : x = .int (i : Nat) := by
        rw [rng_get (by omega)] at hx
        rw [← Option.some.inj hx]
        simp
      subst hx2
      refine g_name (s_for (js := [4]) (i_rng1 (a_cons (e_var rfl (a_nil ⟨_, rfl, by omega, by omega, fun j e => ∃ s4 s5, e = [.dat (modelD nm tl), .dat (tupI ns), .dat (.int (ns.length : Nat)), .dat (.int (i : Nat)), s4, s5] ∧ ∀ b, b < j → chk (mat n tl) ns i b = true, ⟨_, _, rfl, fun a ha => absurd ha (Nat.not_lt_zero _)⟩, fun j y e hy => ?_, fun e => ?_⟩)))))
      · rintro ⟨s4, s5, rfl, inv2⟩
        have hj : j < i := by
          have := (List.getElem?_eq_some_iff.mp hy).1
          rw [rng_len] at this
          omega
        have hy2 : y = .int (j : Nat) := by
          rw [rng_get (by omega)] at hy
          rw [← Option.some.inj hy]
          simp
        subst hy2
        refine g_name ?_
        repeat' walk_at "wp"
        refine od_inTI (ns := [1, (ns.length : Int) - 1]) ?_
        repeat' walk_at "wp"
        refine od_ixT_ (FwN.at_nat (j := i) (by rw [List.length_map]; omega)) ?_
        repeat' walk_at "wp"
        refine od_ixT_ (FwN.at_nat (j := j) (by rw [List.length_map]; omega)) ?_
        repeat' walk_at "wp"
        refine ⟨nm, tl, n, at_ ns i, at_ ns j, by rw [at_map hi, at_map (by omega)], r, at_in hi hn, at_in (by omega) hn, ?_⟩
        repeat' walk_at "wp"
        refine FwWd.od_neB ⟨_, rfl, ?_⟩
        rw [beside_eq ns.length (by omega)]
        refine iteB (fun e => ?_) (fun e => ?_)
        · repeat' walk_at "wp"
          have e2 : chk (mat n tl) ns i j = false := by
            unfold chk
            rw [Bool.not_eq_true', decide_eq_false_iff_not] at e
            exact beq_eq_false_iff_ne.mpr e
          have e3 : ringB (mat n tl) ns = false := by
            cases hz : ringB (mat n tl) ns with
            | false => rfl
            | true =>
              unfold ringB at hz
              rw [Bool.and_eq_true] at hz
              have h5 := List.all_eq_true.mp (List.all_eq_true.mp hz.2 i (List.mem_range.mpr hi)) j (List.mem_range.mpr hj)
              unfold chk at e2
              rw [h5] at e2
              cases e2
          rw [e3] at q
          exact q
        · repeat' walk_at "wp"
          intro b hb
          by_cases h3 : b < j
          · exact inv2 b h3
          · have h4 : b = j := by omega
            subst h4
            unfold chk
            rw [Bool.not_eq_false', decide_eq_true_eq] at e
            rw [e]
            exact beq_self_eq_true _
      · rintro ⟨s4, s5, rfl, inv2⟩
        rw [rng_len] at inv2
        refine ⟨_, _, _, rfl, fun a ha b hb => ?_⟩
        by_cases h3 : a < i
        · exact inv a h3 b hb
        · have : a = i := by omega
          subst this
          exact inv2 b (by omega)
    · rintro ⟨s3, s4, s5, rfl, inv⟩
      rw [rng_len] at inv
      repeat' walk_at "wp"
      have e : ringB (mat n tl) ns = true := by
        unfold ringB
        rw [decide_eq_true (by omega), Bool.true_and, List.all_eq_true]
        intro a ha
        rw [List.all_eq_true]
        intro b hb
        exact inv a (by have := List.mem_range.mp ha; omega) b (List.mem_range.mp hb)
      rw [e] at q
      exact q
⟩
theorem has_is_ring (D : Dn K mg "is_ring" s_is_ring) (tx : Tx K mg) (h_are_tied : Has P w K mg base "are_tied" ["model", "one", "other"] 1 (SpF K pre_are_tied)) : Has P w K mg base "is_ring" ["model", "names"] 2 (SpF K pre_is_ring) := has_of D (fun _ _ _ _ _ _ us hl => match us, hl with | [_, _], _ => rfl) (ok_is_ring tx h_are_tied)

theorem ok_hole (tx : Tx K mg) (h_check_model : Has P w K mg base "check_model" ["value"] 8 (SpF K pre_check_model)) (h_arrangements : Has P w K mg base "arrangements" ["names"] 1 (SpF K pre_arrangements)) (h_names_of : Has P w K mg base "names_of" ["model"] 1 (SpF K pre_names_of)) (h_is_ring : Has P w K mg base "is_ring" ["model", "names"] 2 (SpF K pre_is_ring)) : ∀ f fd, FnP K "hole" s_hole f fd → FnOk P w K mg base CX0 9 f fd ["model"] (SpF K pre_hole) := fun f fd F =>
  F.ok sc_hole (fun vs H Q E s => lenF (fun ds Φ h => by
    obtain ⟨_, _, _, rfl, _⟩ := h; rfl) s) fun cdv A outer s H vs Q E hr h => ⟨_, PSs.nox (pss_cons (ps_expr (pe_callH h_check_model (hr.mono (by decide)) (by rfl) (pa_cons (pv 0) pa_nil)))
    (pss_cons (ps_for PassesOwn.never rfl (pi_list (pe_callH h_arrangements (hr.mono (by decide)) (by rfl) (pa_cons (pe_callH h_names_of (hr.mono (by decide)) (by rfl) (pa_cons (pv 0) pa_nil)) pa_nil))) (pg_name (i := 1) sc_hole.nd rfl (.inl rfl)) (pss_one (ps_if (pt_val (pe_callH h_is_ring (hr.mono (by decide)) (by rfl) (pa_cons (pv 0) (pa_cons (pv 1) pa_nil)))) (pss_one (ps_ret (pv 1))) pss_nil)))
    (pss_one (ps_ret pe_non)))),
  bodyF h fun ds Φ hp => by
    obtain ⟨nm, tl, n, rfl, r, q⟩ := hp
    have r1 := r.one
    have r4 := r.four
    repeat' walk_at "wp"
    refine ⟨nm, tl, n, rfl, r, ?_⟩
    refine s_seq (s_for (js := [1]) (i_list_ ?_))
    repeat' walk_at "wp"
    refine ⟨nm, tl, n, rfl, r, ?_⟩
    repeat' walk_at "wp"
    refine ⟨fun i e => ∃ s1, e = [.dat (modelD nm tl), s1] ∧ ∀ o ∈ (arrIt (nn n) (arrN n)).take i, ringB (mat n tl) o = false, ⟨_, rfl, fun o ho => by simp at ho⟩, fun i x e hx => ?_, fun e => ?_⟩
    · rintro ⟨s1, rfl, inv⟩
      rw [List.getElem?_map] at hx
      obtain ⟨a, ha, rfl⟩ := Option.map_eq_some_iff.mp hx
      have ok := arr_ok n r4 a (List.mem_of_getElem? ha)
      refine g_name (s_if ?_)
      repeat' walk_at "wp"
      refine ⟨nm, tl, n, a, rfl, r, ok.1, ok.2.2, _, rfl, ?_⟩
      refine iteB (fun e => ?_) (fun e => ?_)
      · repeat' walk_at "wp"
        have e2 : holeP (mat n tl) n = some a := by
          unfold holeP
          rw [List.find?_eq_some_iff_getElem]
          obtain ⟨hi, ea⟩ := List.getElem?_eq_some_iff.mp ha
          refine ⟨e, i, hi, ea, fun j hj => ?_⟩
          rw [inv _ (List.mem_take_iff_getElem.mpr ⟨j, by omega, rfl⟩)]
          rfl
        rw [e2] at q
        exact q
      · repeat' walk_at "wp"
        intro o ho
        rw [List.take_add_one, ha] at ho
        rcases List.mem_append.mp ho with h | h
        · exact inv o h
        · rw [List.mem_singleton.mp h]
          exact e
    · rintro ⟨s1, rfl, inv⟩
      rw [List.length_map, List.take_length] at inv
      repeat' walk_at "wp"
      have e2 : holeP (mat n tl) n = none := by
        unfold holeP
        rw [List.find?_eq_none]
        intro o ho
        rw [inv o ho]
        decide
      rw [e2] at q
      exact q
⟩
theorem has_hole (D : Dn K mg "hole" s_hole) (tx : Tx K mg) (h_check_model : Has P w K mg base "check_model" ["value"] 8 (SpF K pre_check_model)) (h_arrangements : Has P w K mg base "arrangements" ["names"] 1 (SpF K pre_arrangements)) (h_names_of : Has P w K mg base "names_of" ["model"] 1 (SpF K pre_names_of)) (h_is_ring : Has P w K mg base "is_ring" ["model", "names"] 2 (SpF K pre_is_ring)) : Has P w K mg base "hole" ["model"] 9 (SpF K pre_hole) := has_of D (fun _ _ _ _ _ _ us hl => match us, hl with | [_], _ => rfl) (ok_hole tx h_check_model h_arrangements h_names_of h_is_ring)

theorem ok_are_names_of (tx : Tx K mg) (h_are_unlike : Has P w K mg base "are_unlike" ["words"] 1 (SpF K pre_are_unlike)) (h_are_counts : Has P w K mg base "are_counts" ["value", "many", "most"] 4 (SpF K pre_are_counts)) : ∀ f fd, FnP K "are_names_of" s_are_names_of f fd → FnOk P w K mg base CX0 5 f fd ["model", "value"] (SpF K pre_are_names_of) := fun f fd F =>
  F.ok sc_are_names_of (fun vs H Q E s => lenF (fun ds Φ h => by
    obtain ⟨_, _, _, _, rfl, _⟩ := h; rfl) s) fun cdv A outer s H vs Q E hr h => ⟨_, PSs.nox (pss_cons (ps_if (PW.pt (pw_or (pt_not (pt_val (pe_callB (id := "isinstance") call_isi (by rfl) tx.isinstance (by decide +kernel) (pa_cons (pv 1) (pa_cons (pe_bltn (v := .ty "tuple") (by rfl) tx.tuple (by decide +kernel) rfl) pa_nil))))) (pw_or1 (pt_not (pt_val (pe_callH h_are_counts (hr.mono (by decide)) (by rfl) (pa_cons (pv 1) (pa_cons (pe_callB (id := "len") call_len_seq (by rfl) tx.len (by decide +kernel) (pa_cons (pv 1) pa_nil)) (pa_cons (pe_op op_sub (pe_callB (id := "len") call_len_seq (by rfl) tx.len (by decide +kernel) (pa_cons (pe_ix ix_tup (pv 0) pe_int (fun _ _ => rfl)) pa_nil)) pe_int) pa_nil))))))))) (pss_one (ps_ret pe_bl)) pss_nil)
    (pss_one (ps_ret (pe_callH h_are_unlike (hr.mono (by decide)) (by rfl) (pa_cons (pv 1) pa_nil))))),
  bodyF h fun ds Φ hp => by
    obtain ⟨nm, tl, n, ns, rfl, r, hl, nd, hn, q⟩ := hp
    have r1 := r.len
    repeat' walk_at "wp"
    refine od_ixT_ (d := namesD nm) rfl ?_
    repeat' walk_at "wp"
    refine ⟨by rw [List.length_map], by rw [List.length_map]; omega, fun c hc => by have := hn c hc; exact ⟨this.1, by rw [List.length_map, r1]; have := this.2; omega⟩, ?_⟩
    repeat' walk_at "wp"
    refine .inl ⟨ns.map .inl, .inr ?_, by rw [List.length_map]; omega, List.pairwise_map.mpr (nd.imp fun {a b} h z => h (Sum.inl.inj z)), q⟩
    rw [List.map_map]
    rfl
⟩
theorem has_are_names_of (D : Dn K mg "are_names_of" s_are_names_of) (tx : Tx K mg) (h_are_unlike : Has P w K mg base "are_unlike" ["words"] 1 (SpF K pre_are_unlike)) (h_are_counts : Has P w K mg base "are_counts" ["value", "many", "most"] 4 (SpF K pre_are_counts)) : Has P w K mg base "are_names_of" ["model", "value"] 5 (SpF K pre_are_names_of) := has_of D (fun _ _ _ _ _ _ us hl => match us, hl with | [_, _], _ => rfl) (ok_are_names_of tx h_are_unlike h_are_counts)

theorem ok_is_sequence (tx : Tx K mg) (h_check_model : Has P w K mg base "check_model" ["value"] 8 (SpF K pre_check_model)) (h_are_names_of : Has P w K mg base "are_names_of" ["model", "value"] 5 (SpF K pre_are_names_of)) (h_is_close_lot : Has P w K mg base "is_close_lot" ["model", "names"] 2 (SpF K pre_is_close_lot)) (h_friends_among : Has P w K mg base "friends_among" ["model", "name", "names"] 3 (SpF K pre_friends_among)) : ∀ f fd, FnP K "is_sequence" s_is_sequence f fd → FnOk P w K mg base CX0 9 f fd ["model", "value"] (SpF K pre_is_sequence) := fun f fd F =>
  F.ok sc_is_sequence (fun vs H Q E s => lenF (fun ds Φ h => by
    obtain ⟨_, _, _, _, rfl, _⟩ := h; rfl) s) fun cdv A outer s H vs Q E hr h => ⟨_, PSs.nox (pss_cons (ps_expr (pe_callH h_check_model (hr.mono (by decide)) (by rfl) (pa_cons (pv 0) pa_nil)))
    (pss_cons (ps_if (PW.pt (pw_or (pt_not (pt_val (pe_callH h_are_names_of (hr.mono (by decide)) (by rfl) (pa_cons (pv 0) (pa_cons (pv 1) pa_nil))))) (pw_or1 (pt_cmpR op_ne (pe_callB (id := "len") call_len_seq (by rfl) tx.len (by decide +kernel) (pa_cons (pv 1) pa_nil)) (pe_callB (id := "len") call_len_seq (by rfl) tx.len (by decide +kernel) (pa_cons (pe_ix ix_tup (pv 0) pe_int (fun _ _ => rfl)) pa_nil)) (nomark _))))) (pss_one (ps_ret pe_bl)) pss_nil)
    (pss_one (ps_ret (pe_callB (id := "all") (cr_all rfl) (by rfl) tx.all (by decide +kernel) (pa_cons (pe_lc (own := [("at", 2), ("name", 3)]) (g := gTup K 2 (gCons (gName 2) (gCons (gName 3) gNil))) (by rfl) sc_is_sequence.nd (FwE.pi_enumT (by rfl) tx.enumerate (pa_cons (pv 1) pa_nil)) (blkOk_by (N := N_is_sequence) (sc := defScope s_is_sequence) (by decide +kernel)) (fun _ _ _ _ _ => (pg_tup (by rfl) (pgs_cons (pg_name (i := 2) sc_is_sequence.nd rfl (by first | exact Or.inl rfl | exact Or.inr rfl)) (pgs_cons (pg_name (i := 3) sc_is_sequence.nd rfl (by first | exact Or.inl rfl | exact Or.inr rfl)) pgs_nil)))) (fun _ _ _ _ _ => pts_nil) (fun _ _ _ _ _ => (pe_callH h_is_close_lot (hr.mono (by decide)) (by rfl) (pa_cons (pv 0) (pa_cons (pe_callH h_friends_among (hr.mono (by decide)) (by rfl) (pa_cons (pv 0) (pa_cons (pv 3) (pa_cons (pe_slice (r := rSlA K) sl_tupA (pv 1) (po_some (pv 2)) po_none) pa_nil)))) pa_nil))))) pa_nil)))))),
  bodyF h fun ds Φ hp => by
    obtain ⟨nm, tl, n, ns, rfl, r, hl, nd, hn, q⟩ := hp
    have r1 := r.len
    have r4 := r.four
    repeat' walk_at "wp"
    refine ⟨nm, tl, n, rfl, r, ?_⟩
    repeat' walk_at "wp"
    refine ⟨nm, tl, n, ns, rfl, r, by omega, nd, hn, ?_⟩
    repeat' walk_at "wp"
    refine od_ixT_ (d := namesD nm) rfl ?_
    repeat' walk_at "wp"
    refine e_mapA (α := Nat) (js := [2] ++ ([3] ++ [])) (fun i => .tuple [.int (i : Nat), .int (at_ ns i)]) (fun i => .bool (closeB (mat n tl) (frA (mat n tl) n (at_ ns i) (ns.drop i)))) (i_enumT_ (a_cons (e_var rfl (a_nil ⟨_, rfl, List.range ns.length, enum_ints ns, by rw [List.length_range]; omega, fun i hi => g_tup_ [_, _] rfl rfl (g_cons (g_name (g_cons (g_name (g_nil ?_))))), ?_⟩))))
    · have hi2 := List.mem_range.mp hi
      have hin := at_in hi2 hn
      repeat' walk_at "wp"
      rw [cut_from (by omega), Int.toNat_natCast, ← List.map_drop]
      refine ⟨nm, tl, n, at_ ns i, _, ns.drop i, rfl, .inr rfl, r, hin, ?_⟩
      repeat' walk_at "wp"
      exact ⟨nm, tl, n, _, _, rfl, .inl rfl, r, by have := frA_len (mat n tl) n (at_ ns i) (ns.drop i); omega, fun c hc => frA_in hc, rfl⟩
    · exact a_nil (cb_allF q)
⟩
theorem has_is_sequence (D : Dn K mg "is_sequence" s_is_sequence) (tx : Tx K mg) (h_check_model : Has P w K mg base "check_model" ["value"] 8 (SpF K pre_check_model)) (h_are_names_of : Has P w K mg base "are_names_of" ["model", "value"] 5 (SpF K pre_are_names_of)) (h_is_close_lot : Has P w K mg base "is_close_lot" ["model", "names"] 2 (SpF K pre_is_close_lot)) (h_friends_among : Has P w K mg base "friends_among" ["model", "name", "names"] 3 (SpF K pre_friends_among)) : Has P w K mg base "is_sequence" ["model", "value"] 9 (SpF K pre_is_sequence) := has_of D (fun _ _ _ _ _ _ us hl => match us, hl with | [_, _], _ => rfl) (ok_is_sequence tx h_check_model h_are_names_of h_is_close_lot h_friends_among)

theorem ok_is_hole (tx : Tx K mg) (h_check_model : Has P w K mg base "check_model" ["value"] 8 (SpF K pre_check_model)) (h_are_names_of : Has P w K mg base "are_names_of" ["model", "value"] 5 (SpF K pre_are_names_of)) (h_is_ring : Has P w K mg base "is_ring" ["model", "names"] 2 (SpF K pre_is_ring)) : ∀ f fd, FnP K "is_hole" s_is_hole f fd → FnOk P w K mg base CX0 9 f fd ["model", "value"] (SpF K pre_is_hole) := fun f fd F =>
  F.ok sc_is_hole (fun vs H Q E s => lenF (fun ds Φ h => by
    obtain ⟨_, _, _, _, rfl, _⟩ := h; rfl) s) fun cdv A outer s H vs Q E hr h => ⟨_, PSs.nox (pss_cons (ps_expr (pe_callH h_check_model (hr.mono (by decide)) (by rfl) (pa_cons (pv 0) pa_nil)))
    (pss_one (ps_ret (pe_and (pe_callH h_are_names_of (hr.mono (by decide)) (by rfl) (pa_cons (pv 0) (pa_cons (pv 1) pa_nil))) (pe_one (pe_callH h_is_ring (hr.mono (by decide)) (by rfl) (pa_cons (pv 0) (pa_cons (pv 1) pa_nil)))))))),
  bodyF h fun ds Φ hp => by
    obtain ⟨nm, tl, n, ns, rfl, r, hl, nd, hn, q⟩ := hp
    repeat' walk_at "wp"
    refine ⟨nm, tl, n, rfl, r, ?_⟩
    repeat' walk_at "wp"
    refine ⟨nm, tl, n, ns, rfl, r, hl, nd, hn, ?_⟩
    repeat' walk_at "wp"
    exact ⟨nm, tl, n, ns, rfl, r, hl, hn, q⟩
⟩
theorem has_is_hole (D : Dn K mg "is_hole" s_is_hole) (tx : Tx K mg) (h_check_model : Has P w K mg base "check_model" ["value"] 8 (SpF K pre_check_model)) (h_are_names_of : Has P w K mg base "are_names_of" ["model", "value"] 5 (SpF K pre_are_names_of)) (h_is_ring : Has P w K mg base "is_ring" ["model", "names"] 2 (SpF K pre_is_ring)) : Has P w K mg base "is_hole" ["model", "value"] 9 (SpF K pre_is_hole) := has_of D (fun _ _ _ _ _ _ us hl => match us, hl with | [_, _], _ => rfl) (ok_is_hole tx h_check_model h_are_names_of h_is_ring)

theorem ok__law_pot (tx : Tx K mg) : ∀ f fd, FnP K "_law_pot" s__law_pot f fd → FnOk P w K mg base CX0 1 f fd ["_law_script", "_law_k"] (SpN K pre__law_pot) := fun f fd F =>
  F.ok sc__law_pot (fun vs H Q E s => lenN (fun ds Φ h => by
    obtain ⟨_, rfl, _⟩ := h; rfl) s) fun cdv A outer s H vs Q E hr h => ⟨_, PSs.nox (pss_cons (ps_set (i := 2) sc__law_pot.nd rfl (.inl rfl) (pe_op op_add (pe_op op_mul pe_int (pv 1)) pe_int))
    (pss_cons (ps_if (pt_cmpR op_lt (pv 1) (pe_callB (id := "len") call_len_seq (by rfl) tx.len (by decide +kernel) (pa_cons (pv 0) pa_nil)) (nomark _)) (pss_one (ps_set (i := 2) sc__law_pot.nd rfl (.inl rfl) (pe_callB (id := "abs") call_abs (by rfl) tx.abs (by decide +kernel) (pa_cons (pe_ix ix_list (pv 0) (pv 1) (fun _ _ => rfl)) pa_nil)))) pss_nil)
    (pss_one (ps_ret (pe_lst (pa_cons (pe_callB (id := "max") (call_max2 rfl) (by rfl) tx.max (by decide +kernel) (pa_cons pe_int (pa_cons (pe_op op_sub (pv 2) (pe_op op_pow pe_int pe_int)) pa_nil))) (pa_cons (pe_op op_add (pe_op op_modN (pe_op op_mul (pe_callTy call_int1 (by rfl) tx.int (by decide +kernel) (pa_cons (pe_op op_add (pe_op op_modN (pe_callTy call_int1 (by rfl) tx.int (by decide +kernel) (pa_cons (pv 2) pa_nil)) pe_int) pe_int) pa_nil)) (pe_op op_pow (pe_op op_add (pe_op op_mul pe_int (pv 1)) pe_int) pe_int)) pe_int) pe_int) pa_nil))))))),
  bodyN h fun ds Φ hp => by
    obtain ⟨ns, rfl, nl, q⟩ := hp
    refine s_seq (s_asg (WpE.mono (Φ := fun d => ∃ c : Int, d = .int c) ?_ ?_))
    · repeat' walk_at "wp"
      · exact .inl ⟨by decide, by decide⟩
      · exact ⟨_, rfl⟩
    rintro d ⟨c, rfl⟩
    refine s_seq (s_cut (fun e => ∃ c : Int, e = [.dat (.list (ns.map .int)), .dat (.int 0), .dat (.int c)]) (s_if ?_) ?_)
    · repeat' walk_at "wp"
      refine iteP (fun h => ?_) (fun h => ?_)
      · repeat' walk_at "wp"
        refine od_ixL_ (ix_ints (by decide) (by rw [List.length_map] at h; omega)) ?_
        repeat' walk_at "wp"
        exact ⟨_, rfl⟩
      · exact s_next ⟨_, rfl⟩
    · clear c
      rintro e ⟨c, rfl⟩
      have f1 := Int.fmod_nonneg_of_pos c (show (0 : Int) < 2147483549 by decide)
      have f2 := Int.fmod_lt_of_pos c (show (0 : Int) < 2147483549 by decide)
      refine s_retF (f_lst ?_)
      repeat' walk_at "wp"
      all_goals try first | decide | exact .inl ⟨by omega, by omega⟩ | exact ⟨by decide, by decide, by decide⟩
      refine q _ _ ⟨?_, ?_, ?_⟩
      · split <;> omega
      · have := Int.fmod_nonneg_of_pos ((c.fmod 2147483549 + 65) * (2 * 0 + 3) ^ Int.toNat 3) (show (0 : Int) < 2147483477 by decide)
        omega
      · have := Int.fmod_lt_of_pos ((c.fmod 2147483549 + 65) * (2 * 0 + 3) ^ Int.toNat 3) (show (0 : Int) < 2147483477 by decide)
        omega
⟩
theorem has__law_pot (D : Dn K mg "_law_pot" s__law_pot) (tx : Tx K mg) : Has P w K mg base "_law_pot" ["_law_script", "_law_k"] 1 (SpN K pre__law_pot) := has_of D (fun _ _ _ _ _ _ us hl => match us, hl with | [_, _], _ => rfl) (ok__law_pot tx)

theorem ok__law_draw (tx : Tx K mg) : ∀ f fd, FnP K "_law_draw" s__law_draw f fd → FnOk P w K mg base CX0 1 f fd ["_law_pot_here", "_law_room"] (SpG K pre__law_draw) := fun f fd F =>
  F.ok sc__law_draw (fun vs H Q E s => lenG (fun ds Φ h => by
    obtain ⟨_, rfl, _⟩ := h; rfl) s) fun cdv A outer s H vs Q E hr h => ⟨_, PSs.nox (pss_cons (ps_if (pt_cmpR op_gt (pe_ix ix_list (pv 0) pe_int (fun _ _ => rfl)) pe_int (nomark _)) (pss_cons (ps_asg (pe_callB (id := "divmod") call_divmod (by rfl) tx.divmod (by decide +kernel) (pa_cons (pe_ix ix_list (pv 0) pe_int (fun _ _ => rfl)) (pa_cons (pv 1) pa_nil))) (pg_tup (by rfl) (pgs_cons (pg_sub (pv 0) pe_int set_list) (pgs_cons (pg_name (i := 2) sc__law_draw.nd rfl (.inl rfl)) pgs_nil))))
    (pss_one (ps_ret (pv 2)))) pss_nil)
    (pss_cons (ps_asg (pe_op op_modN (pe_callTy call_int1 (by rfl) tx.int (by decide +kernel) (pa_cons (pe_op op_add (pe_op op_mul (pe_ix ix_list (pv 0) pe_int (fun _ _ => rfl)) pe_int) pe_int) pa_nil)) pe_int) (pg_sub (pv 0) pe_int set_list))
    (pss_one (ps_ret (pe_op op_modN (pe_callTy call_int1 (by rfl) tx.int (by decide +kernel) (pa_cons (pe_op op_fdivN (pe_op op_modN (pe_callTy call_int1 (by rfl) tx.int (by decide +kernel) (pa_cons (pe_op op_mul (pe_ix ix_list (pv 0) pe_int (fun _ _ => rfl)) (pe_ix ix_list (pv 0) pe_int (fun _ _ => rfl))) pa_nil)) pe_int) pe_int) pa_nil)) (pv 1)))))),
  bodyG h fun q ds Φ hp => by
    obtain ⟨n, rfl, n0, n1, q⟩ := hp
    refine s_seq (s_if ?_)
    repeat' walk_at "wp"
    intro a a0
    repeat' walk_at "wp"
    refine iteP (fun h => ?_) (fun h => ?_)
    · refine s_seq (s_potDig rfl (by decide) ?_)
      repeat' walk_at "wp"
      intro b b0
      repeat' walk_at "wp"
      refine cb_divmod ⟨by omega, by omega⟩ ?_
      refine ⟨_, _, rfl, Int.ediv_nonneg b0 (by omega), ?_⟩
      repeat' walk_at "wp"
      exact q _ (Int.emod_nonneg _ (by omega)) (Int.emod_lt_of_pos _ (by omega))
    · repeat' walk_at "wp"
      refine s_pot1 rfl ?_
      repeat' walk_at "wp"
      intro b b0 b1
      repeat' walk_at "wp"
      · exact .inl ⟨by omega, by omega⟩
      · decide
      refine ⟨?_, Int.lt_trans (Int.fmod_lt_of_pos _ (show (0 : Int) < 2147483587 by decide)) (by decide), ?_⟩
      · exact Int.fmod_nonneg_of_pos _ (by decide)
      repeat' walk_at "wp"
      intro c c0 c1
      repeat' walk_at "wp"
      intro d d0 d1
      repeat' walk_at "wp"
      · exact .inl ⟨by omega, by omega⟩
      · decide
      · exact ⟨by decide, by decide⟩
      · omega
      exact q _ (Int.fmod_nonneg_of_pos _ (by omega)) (Int.fmod_lt_of_pos _ (by omega))
⟩
theorem has__law_draw (D : Dn K mg "_law_draw" s__law_draw) (tx : Tx K mg) : Has P w K mg base "_law_draw" ["_law_pot_here", "_law_room"] 1 (SpG K pre__law_draw) := has_of D (fun _ _ _ _ _ _ us hl => match us, hl with | [_, _], _ => rfl) (ok__law_draw tx)

theorem ok__law_pick (tx : Tx K mg) (h__law_draw : Has P w K mg base "_law_draw" ["_law_pot_here", "_law_room"] 1 (SpG K pre__law_draw)) : ∀ f fd, FnP K "_law_pick" s__law_pick f fd → FnOk P w K mg base CX0 2 f fd ["_law_pot_here", "_law_some"] (SpG K pre__law_pick) := fun f fd F =>
  F.ok sc__law_pick (fun vs H Q E s => lenG (fun ds Φ h => by
    obtain ⟨_, rfl, _⟩ := h; rfl) s) fun cdv A outer s H vs Q E hr h => ⟨_, PSs.nox (pss_one (ps_ret (pe_ix ix_list (pv 1) (pe_callH h__law_draw (hr.mono (by decide)) (by rfl) (pa_cons (pv 0) (pa_cons (pe_callB (id := "len") call_len_seq (by rfl) tx.len (by decide +kernel) (pa_cons (pv 1) pa_nil)) pa_nil))) (fun _ _ => rfl)))),
  bodyG h fun q ds Φ hp => by
    obtain ⟨xs, rfl, h0, h1, q⟩ := hp
    repeat' walk_at "wp"
    intro c c0 c1
    obtain ⟨k, rfl⟩ := Int.eq_ofNat_of_zero_le c0
    have hk : k < xs.length := by omega
    refine od_ixL_ (d := xs[k]) ?_ (q _ (List.getElem_mem hk))
    unfold atI
    rw [ixN_nat (by omega) (by omega)]
    show xs[((k : Int)).toNat]? = _
    rw [Int.toNat_natCast, List.getElem?_eq_getElem hk]
⟩
theorem has__law_pick (D : Dn K mg "_law_pick" s__law_pick) (tx : Tx K mg) (h__law_draw : Has P w K mg base "_law_draw" ["_law_pot_here", "_law_room"] 1 (SpG K pre__law_draw)) : Has P w K mg base "_law_pick" ["_law_pot_here", "_law_some"] 2 (SpG K pre__law_pick) := has_of D (fun _ _ _ _ _ _ us hl => match us, hl with | [_, _], _ => rfl) (ok__law_pick tx h__law_draw)

theorem ok__law_sizes (tx : Tx K mg) (h__law_pick : Has P w K mg base "_law_pick" ["_law_pot_here", "_law_some"] 2 (SpG K pre__law_pick)) : ∀ f fd, FnP K "_law_sizes" s__law_sizes f fd → FnOk P w K mg base CX0 3 f fd ["_law_pot_here"] (SpG K pre__law_sizes) := fun f fd F =>
  F.ok sc__law_sizes (fun vs H Q E s => lenG (fun ds Φ h => by
    obtain ⟨rfl, _⟩ := h; rfl) s) fun cdv A outer s H vs Q E hr h => ⟨_, PSs.nox (pss_cons (ps_set (i := 1) sc__law_sizes.nd rfl (.inl rfl) (pe_lst (pa_cons (pe_lst (pa_cons pe_int (pa_cons pe_int pa_nil))) (pa_cons (pe_lst (pa_cons pe_int (pa_cons pe_int pa_nil))) (pa_cons (pe_lst (pa_cons pe_int (pa_cons pe_int (pa_cons pe_int pa_nil)))) (pa_cons (pe_lst (pa_cons pe_int (pa_cons pe_int (pa_cons pe_int pa_nil)))) (pa_cons (pe_lst (pa_cons pe_int (pa_cons pe_int pa_nil))) (pa_cons (pe_lst (pa_cons pe_int (pa_cons pe_int (pa_cons pe_int pa_nil)))) (pa_cons (pe_lst (pa_cons pe_int (pa_cons pe_int pa_nil))) (pa_cons (pe_lst (pa_cons pe_int (pa_cons pe_int (pa_cons pe_int (pa_cons pe_int pa_nil))))) (pa_cons (pe_lst (pa_cons pe_int (pa_cons pe_int (pa_cons pe_int (pa_cons pe_int pa_nil))))) (pa_cons (pe_lst (pa_cons pe_int (pa_cons pe_int pa_nil))) (pa_cons (pe_lst (pa_cons pe_int pa_nil)) (pa_cons (pe_lst (pa_cons pe_int (pa_cons pe_int (pa_cons pe_int (pa_cons pe_int pa_nil))))) pa_nil))))))))))))))
    (pss_one (ps_ret (pe_callH h__law_pick (hr.mono (by decide)) (by rfl) (pa_cons (pv 0) (pa_cons (pv 1) pa_nil)))))),
  bodyG h fun q ds Φ hp => by
    obtain ⟨rfl, q⟩ := hp
    repeat' walk_at "wp"
    intro x hx
    obtain ⟨z, hz, rfl⟩ := List.mem_map.mp (show x ∈ menu.map listI from hx)
    exact q z hz
⟩
theorem has__law_sizes (D : Dn K mg "_law_sizes" s__law_sizes) (tx : Tx K mg) (h__law_pick : Has P w K mg base "_law_pick" ["_law_pot_here", "_law_some"] 2 (SpG K pre__law_pick)) : Has P w K mg base "_law_sizes" ["_law_pot_here"] 3 (SpG K pre__law_sizes) := has_of D (fun _ _ _ _ _ _ us hl => match us, hl with | [_], _ => rfl) (ok__law_sizes tx h__law_pick)

theorem ok__law_subsets (tx : Tx K mg) : ∀ f fd, FnP K "_law_subsets" s__law_subsets f fd → FnOk P w K mg base CX0 1 f fd ["_law_many_here"] (SpF K pre__law_subsets) := fun f fd F =>
  F.ok sc__law_subsets (fun vs H Q E s => lenF (fun ds Φ h => by
    obtain ⟨_, rfl, _⟩ := h; rfl) s) fun cdv A outer s H vs Q E hr h => ⟨_, PSs.nox (pss_cons (ps_set (i := 1) sc__law_subsets.nd rfl (.inl rfl) (pe_lst (pa_cons (pe_tup pa_nil) pa_nil)))
    (pss_cons (ps_for PassesOwn.never rfl (pi_range1 (by rfl) tx.range (pa_cons (pv 0) pa_nil)) (pg_name (i := 2) sc__law_subsets.nd rfl (.inr rfl)) (pss_one (ps_set (i := 1) sc__law_subsets.nd rfl (.inl rfl) (pe_op FwU.op_catL (pv 1) (pe_lc (own := [("_law_one", 3)]) (g := gName 3) (by rfl) sc__law_subsets.nd (pi_list (pv 1)) (blkOk_by (N := N__law_subsets) (sc := defScope s__law_subsets) (by decide +kernel)) (fun _ _ _ _ _ => (pg_name (i := 3) sc__law_subsets.nd rfl (by first | exact Or.inl rfl | exact Or.inr rfl))) (fun _ _ _ _ _ => pts_nil) (fun _ _ _ _ _ => (pe_op (r := rCatA K) op_catA (pv 3) (pe_tup (pa_cons (pv 2) pa_nil)))))))))
    (pss_one (ps_ret (pe_callB (id := "sorted") (FwSE.cr_sortedE (hu64 hr)) (by rfl) tx.sorted (by decide +kernel) (pa_cons (pv 1) pa_nil)))))),
  bodyF h fun ds Φ hp => by
    obtain ⟨n, rfl, h1, h4, q⟩ := hp
    repeat' walk_at "wp"
    refine s_for (js := [2]) (i_rng1 ?_)
    repeat' walk_at "wp"
    refine ⟨fun i e => ∃ s2 s3, e = [.dat (.int (n : Nat)), .dat (rowsL (((nn n).take i).foldl (fun f a => f ++ f.map fun o => o ++ [a]) [[]])), s2, s3], ⟨_, _, rfl⟩, fun i x e hx => ?_, fun e => ?_⟩
    · rintro ⟨s2, s3, rfl⟩
      have hi : i < n := by
        have := (List.getElem?_eq_some_iff.mp hx).1
        rw [rng_len] at this
        omega
      have hx2 : x = .int (i : Nat) := by
        rw [rng_get (by omega)] at hx
        rw [← Option.some.inj hx]
        simp
      subst hx2
      have sl := sub_len n i h4
      have so := sub_ok n i h4
      refine g_name (s_asg (e_new (f_catL (e_var rfl ?_))))
      refine e_mapA (α := List Int) (js := [3]) (fun m => tupI m) (fun ns => tupI (ns ++ [(i : Int)])) (i_list_ (e_var rfl ⟨_, rfl, _, rfl, by omega, fun ns hns => g_name ?_, ?_⟩))
      · have := so ns hns
        repeat' walk_at "wp"
        refine od_catT_ (by rw [List.length_map]; show ns.length + 1 ≤ _; omega) ?_
        exact row_app ns _
      · refine ⟨_, _, rfl, rfl, by rw [List.length_map, List.length_map]; omega, .dat (.int (i : Int)), s3, ?_⟩
        rw [List.take_add_one, nn_get hi, List.foldl_append]
        show _ = [_, Slot.dat (PyData.list (List.map _ (_ ++ _))), _, _]
        rw [List.map_append, List.map_map]
        rfl
    · rintro ⟨s2, s3, rfl⟩
      rw [rng_len, show ((n : Int)).toNat = (nn n).length by rw [nn_len]; omega, List.take_length]
      obtain ⟨l, el⟩ := sub_head n h4
      have e2 : (nn n).foldl (fun f a => f ++ f.map fun o => o ++ [a]) [[]] = [] :: l := el
      rw [e2]
      refine s_ret (e_new (f_sortedE (a_cons (e_var rfl (a_nil ⟨l.map fun m => tupI m, rfl, FwN.alike_rows ([] :: l), fun d hd => ?_, FwN.deep_rows ([] :: l), FwN.noDict_rows l, ?_⟩)))))
      · obtain ⟨m, hm, rfl⟩ := List.mem_map.mp hd
        exact ⟨_, rfl⟩
      · have e3 := sort_isort ([] :: l)
        rw [show PyData.tuple [] :: l.map (fun m => tupI m) = ([] :: l).map (fun m => tupI m) from rfl, e3, ← el]
        exact q
⟩
theorem has__law_subsets (D : Dn K mg "_law_subsets" s__law_subsets) (tx : Tx K mg) : Has P w K mg base "_law_subsets" ["_law_many_here"] 1 (SpF K pre__law_subsets) := has_of D (fun _ _ _ _ _ _ us hl => match us, hl with | [_], _ => rfl) (ok__law_subsets tx)

theorem ok__law_kept (tx : Tx K mg) : ∀ f fd, FnP K "_law_kept" s__law_kept f fd → FnOk P w K mg base CX0 1 f fd ["_law_sizes_here", "_law_some"] (SpF K pre__law_kept) := fun f fd F =>
  F.ok sc__law_kept (fun vs H Q E s => lenF (fun ds Φ h => by
    obtain ⟨_, _, rfl, _⟩ := h; rfl) s) fun cdv A outer s H vs Q E hr h => ⟨_, PSs.nox (pss_cons (ps_par (i := 2) (j := 3) (by rfl) sc__law_kept.nd rfl rfl (by decide) rfl rfl (pa_cons (pe_lst pa_nil) (pa_cons pe_int pa_nil)) (by rfl))
    (pss_cons (ps_for PassesOwn.never rfl (pi_list (pv 1)) (pg_name (i := 4) sc__law_kept.nd rfl (.inl rfl)) (pss_cons (ps_set (i := 5) sc__law_kept.nd rfl (.inl rfl) pe_int)
    (pss_cons (ps_for PassesOwn.never rfl (pi_tup (pv 4)) (pg_name (i := 6) sc__law_kept.nd rfl (.inl rfl)) (pss_one (ps_set (i := 5) sc__law_kept.nd rfl (.inl rfl) (pe_op op_mul (pv 5) (pe_ix ix_list (pv 0) (pv 6) (fun _ _ => rfl))))))
    (pss_one (ps_if (PW.pt (pw_and (pt_cmpR (FwWd.op_notInD (hu65 hr)) (pv 4) (pv 2) (by rfl)) (pw_and1 (pt_cmpR op_lt (pe_op op_add (pv 3) (pv 5)) pe_int (nomark _))))) (pss_cons (ps_expr (pe_bm PySem.F.plainAttrs_list PySem.F.slot_list_append PySem.F.type_list_append mt_append (pv 2) (pa_cons (pv 4) pa_nil)))
    (pss_one (ps_set (i := 3) sc__law_kept.nd rfl (.inl rfl) (pe_op op_add (pv 3) (pv 5))))) pss_nil)))))
    (pss_one (ps_ret (pe_ifExp (pt_cmpR (op_neD (hu64 hr)) (pv 2) (pe_lst pa_nil) (nomark _)) (pv 2) (pe_lst (pa_cons (pe_tup pa_nil) pa_nil))))))),
  bodyF h fun ds Φ hp => by
    obtain ⟨z, os, rfl, hz, hl, ho, q⟩ := hp
    have zm := menu_ok z hz
    refine s_seq (s_parM2 (f_lst (a_nil ⟨by decide, ?_⟩)))
    repeat' walk_at "wp"
    refine s_for (js := [4]) (i_list_ (e_var rfl ⟨_, rfl, fun i e => ∃ tl tot s4 s5 s6, e = [.dat (listI z), .dat (rowsL os), .own (tl.map fun m => tupI m), .dat (.int tot), s4, s5, s6] ∧ tl.Nodup ∧ (∀ t ∈ tl, okRow z.length t) ∧ (tl.length : Int) ≤ tot ∧ tot ≤ 16, ⟨[], 0, _, _, _, rfl, .nil, nofun, by decide, by decide⟩, fun i x e hx => ?_, fun e => ?_⟩))
    · rintro ⟨tl, tot, s4, s5, s6, rfl, nd, ok, h1, h2⟩
      rw [List.getElem?_map] at hx
      obtain ⟨a, ha, rfl⟩ := Option.map_eq_some_iff.mp hx
      have oa := ho a (List.mem_of_getElem? ha)
      have la := asc_len4 oa
      refine g_name (s_seq (s_asg (e_int ?_)))
      refine s_seq (s_for (js := [6]) (i_tup_ (e_var rfl ⟨_, rfl, fun j e => ∃ (rr : Int) (s6 : Slot), e = [.dat (listI z), .dat (rowsL os), .own (tl.map fun m => tupI m), .dat (.int tot), .dat (tupI a), .dat (.int rr), s6] ∧ 1 ≤ rr ∧ rr ≤ (4 : Int) ^ j, ⟨1, _, rfl, by decide, by decide⟩, fun j y e hy => ?_, fun e => ?_⟩)))
      · rintro ⟨rr, s6, rfl, r1, r2⟩
        rw [List.getElem?_map] at hy
        obtain ⟨c, hc, rfl⟩ := Option.map_eq_some_iff.mp hy
        have hj := (List.getElem?_eq_some_iff.mp hc).1
        have cin := oa.2 c (List.mem_of_getElem? hc)
        have c1 : c.toNat < z.length := by omega
        have r3 : (4 : Int) ^ j ≤ 64 := by
          have : j = 0 ∨ j = 1 ∨ j = 2 ∨ j = 3 := by omega
          rcases this with rfl | rfl | rfl | rfl <;> decide
        refine g_name ?_
        repeat' walk_at "wp"
        refine od_ixL_ (ix_ints cin.1 c1) ?_
        have zc := zm.2.2 z[c.toNat] (List.getElem_mem c1)
        have m1 : 1 * 1 ≤ rr * z[c.toNat] := Int.mul_le_mul r1 zc.1 (by decide) (by omega)
        have m2 : rr * z[c.toNat] ≤ (4 : Int) ^ j * 4 := Int.mul_le_mul r2 zc.2 (by omega) (by omega)
        repeat' walk_at "wp"
        · exact .inl ⟨by omega, by omega⟩
        · rw [Int.pow_succ]
          exact m2
      · rintro ⟨rr, s6, rfl, r1, r2⟩
        refine s_if (t_and (t_own (i := 2) rfl ?_))
        repeat' walk_at "wp"
        refine od_niLR ⟨_, rfl, ?_⟩
        rw [List.length_map] at r2
        have r4 : rr ≤ 256 := by
          have h5 : a.length = 0 ∨ a.length = 1 ∨ a.length = 2 ∨ a.length = 3 ∨ a.length = 4 := by omega
          have h6 : (4 : Int) ^ a.length ≤ 256 := by rcases h5 with h | h | h | h | h <;> rw [h] <;> decide
          omega
        refine iteB (fun e => ?_) (fun e => ?_)
        · repeat' walk_at "wp"
          refine iteP (fun h3 => ?_) (fun h3 => ?_)
          · refine s_seq (s_app2 rfl (e_var rfl ⟨by rw [List.length_map]; omega, ?_⟩))
            repeat' walk_at "wp"
            refine ⟨tl ++ [a], tot + rr, .dat (tupI a), .dat (.int rr), s6, ?_, ?_, ?_, ?_, by omega⟩
            · rw [List.map_append]
              rfl
            · refine List.nodup_append.mpr ⟨nd, by simp, fun x hxx y hy => ?_⟩
              rw [List.mem_singleton.mp hy]
              rintro rfl
              rw [List.contains_iff_mem.mpr hxx] at e
              cases e
            · intro t ht
              rcases List.mem_append.mp ht with h4 | h4
              · exact ok t h4
              · rw [List.mem_singleton.mp h4]; exact oa
            · rw [List.length_append]
              show ((tl.length + 1 : Nat) : Int) ≤ _
              omega
          · repeat' walk_at "wp"
            exact ⟨tl, tot, _, _, _, rfl, nd, ok, h1, h2⟩
        · repeat' walk_at "wp"
          exact ⟨tl, tot, _, _, _, rfl, nd, ok, h1, h2⟩
    · rintro ⟨tl, tot, s4, s5, s6, rfl, nd, ok, h1, h2⟩
      refine s_pub (i := 2) rfl (s_ret (e_if (t_test (e_op (e_var rfl (e_lst (a_nil ⟨by decide, od_neD_ (sh_rowsL tl) (sh_rowsL []) ⟨_, rfl, ?_⟩⟩)))))))
      rw [ne_nil_rows]
      refine iteB (fun e => ?_) (fun e => ?_)
      · repeat' walk_at "wp"
        refine q tl ⟨?_, by omega, ok, nd⟩
        cases tl with
        | nil => simp at e
        | cons a l => simp
      · repeat' walk_at "wp"
        refine q [[]] ⟨by decide, by decide, fun t ht => ?_, by simp⟩
        rw [List.mem_singleton.mp ht]
        exact ⟨.nil, nofun⟩
⟩
theorem has__law_kept (D : Dn K mg "_law_kept" s__law_kept) (tx : Tx K mg) : Has P w K mg base "_law_kept" ["_law_sizes_here", "_law_some"] 1 (SpF K pre__law_kept) := has_of D (fun _ _ _ _ _ _ us hl => match us, hl with | [_, _], _ => rfl) (ok__law_kept tx)

theorem ok__law_told (tx : Tx K mg) (h__law_pick : Has P w K mg base "_law_pick" ["_law_pot_here", "_law_some"] 2 (SpG K pre__law_pick)) (h__law_kept : Has P w K mg base "_law_kept" ["_law_sizes_here", "_law_some"] 1 (SpF K pre__law_kept)) (h__law_draw : Has P w K mg base "_law_draw" ["_law_pot_here", "_law_room"] 1 (SpG K pre__law_draw)) (h__law_subsets : Has P w K mg base "_law_subsets" ["_law_many_here"] 1 (SpF K pre__law_subsets)) : ∀ f fd, FnP K "_law_told" s__law_told f fd → FnOk P w K mg base CX0 3 f fd ["_law_pot_here", "_law_sizes_here"] (SpG K pre__law_told) := fun f fd F =>
  F.ok sc__law_told (fun vs H Q E s => lenG (fun ds Φ h => by
    obtain ⟨_, rfl, _⟩ := h; rfl) s) fun cdv A outer s H vs Q E hr h => ⟨_, PSs.nox (pss_cons (ps_asg (pe_tup (pa_cons (pe_callH h__law_draw (hr.mono (by decide)) (by rfl) (pa_cons (pv 0) (pa_cons pe_int pa_nil))) (pa_cons (pe_lst pa_nil) (pa_cons (pe_callB (id := "len") call_len_seq (by rfl) tx.len (by decide +kernel) (pa_cons (pv 1) pa_nil)) pa_nil)))) (pg_tup (by rfl) (pgs_cons (pg_name (i := 2) sc__law_told.nd rfl (.inl rfl)) (pgs_cons (pg_name (i := 3) sc__law_told.nd rfl (.inr rfl)) (pgs_cons (pg_name (i := 4) sc__law_told.nd rfl (.inr rfl)) pgs_nil)))))
    (pss_cons (ps_set (i := 5) sc__law_told.nd rfl (.inl rfl) (pe_lst (pa_cons (pe_lst (pa_cons (pe_tup (pa_cons pe_int (pa_cons pe_int pa_nil))) (pa_cons (pe_tup (pa_cons pe_int (pa_cons pe_int pa_nil))) pa_nil))) (pa_cons (pe_lst (pa_cons (pe_tup (pa_cons pe_int (pa_cons pe_int pa_nil))) (pa_cons (pe_tup (pa_cons pe_int (pa_cons pe_int pa_nil))) (pa_cons (pe_tup (pa_cons pe_int (pa_cons pe_int pa_nil))) pa_nil)))) (pa_cons (pe_lst (pa_cons (pe_tup (pa_cons pe_int (pa_cons pe_int pa_nil))) (pa_cons (pe_tup (pa_cons pe_int (pa_cons pe_int pa_nil))) (pa_cons (pe_tup (pa_cons pe_int (pa_cons pe_int pa_nil))) (pa_cons (pe_tup (pa_cons pe_int (pa_cons pe_int pa_nil))) pa_nil))))) (pa_cons (pe_lst (pa_cons (pe_tup (pa_cons pe_int (pa_cons pe_int (pa_cons pe_int pa_nil)))) (pa_cons (pe_tup (pa_cons pe_int (pa_cons pe_int (pa_cons pe_int pa_nil)))) pa_nil))) (pa_cons (pe_lst (pa_cons (pe_tup (pa_cons pe_int pa_nil)) (pa_cons (pe_tup (pa_cons pe_int pa_nil)) (pa_cons (pe_tup (pa_cons pe_int pa_nil)) (pa_cons (pe_tup (pa_cons pe_int pa_nil)) pa_nil))))) (pa_cons (pe_lst (pa_cons (pe_tup (pa_cons pe_int (pa_cons pe_int pa_nil))) (pa_cons (pe_tup (pa_cons pe_int (pa_cons pe_int pa_nil))) pa_nil))) pa_nil))))))))
    (pss_cons (ps_if (pt_cmpR op_eq (pv 2) pe_int (nomark _)) (pss_cons (ps_for PassesOwn.never rfl (pi_list (pe_slice sl_list (pe_callH h__law_subsets (hr.mono (by decide)) (by rfl) (pa_cons (pv 4) pa_nil)) (po_some pe_int) po_none)) (pg_name (i := 6) sc__law_told.nd rfl (.inl rfl)) (pss_one (ps_if (pt_cmpR op_eq (pe_callH h__law_draw (hr.mono (by decide)) (by rfl) (pa_cons (pv 0) (pa_cons pe_int pa_nil))) pe_int (nomark _)) (pss_one (ps_expr (pe_bm PySem.F.plainAttrs_list PySem.F.slot_list_append PySem.F.type_list_append mt_append (pv 3) (pa_cons (pv 6) pa_nil)))) pss_nil)))
    (pss_one (ps_ret (pe_callH h__law_kept (hr.mono (by decide)) (by rfl) (pa_cons (pv 1) (pa_cons (pv 3) pa_nil)))))) pss_nil)
    (pss_cons (ps_for PassesOwn.never rfl (pi_list (pe_callH h__law_pick (hr.mono (by decide)) (by rfl) (pa_cons (pv 0) (pa_cons (pv 5) pa_nil)))) (pg_name (i := 6) sc__law_told.nd rfl (.inl rfl)) (pss_one (ps_expr (pe_bm PySem.F.plainAttrs_list PySem.F.slot_list_append PySem.F.type_list_append mt_append (pv 3) (pa_cons (pe_callTy call_tuple_of (by rfl) tx.tuple (by decide +kernel) (pa_cons (pe_lc (own := [("_law_at", 7)]) (g := gName 7) (by rfl) sc__law_told.nd (pi_tup (pv 6)) (blkOk_by (N := N__law_told) (sc := defScope s__law_told) (by decide +kernel)) (fun _ _ _ _ _ => (pg_name (i := 7) sc__law_told.nd rfl (by first | exact Or.inl rfl | exact Or.inr rfl))) (fun _ _ _ _ _ => (pts_one (pt_cmpR op_lt (pv 7) (pv 4) (nomark _)))) (fun _ _ _ _ _ => (pv 7))) pa_nil)) pa_nil)))))
    (pss_cons (ps_set (i := 3) sc__law_told.nd rfl (.inr rfl) (pe_lc (own := [("_law_one", 6)]) (g := gName 6) (by rfl) sc__law_told.nd (pi_list (pv 3)) (blkOk_by (N := N__law_told) (sc := defScope s__law_told) (by decide +kernel)) (fun _ _ _ _ _ => (pg_name (i := 6) sc__law_told.nd rfl (by first | exact Or.inl rfl | exact Or.inr rfl))) (fun _ _ _ _ _ => (pts_one (pt_cmpR (r := rNeD K) (op_neD (hu64 hr)) (pv 6) (pe_tup pa_nil) (nomark _)))) (fun _ _ _ _ _ => (pv 6))))
    (pss_cons (ps_expr (pe_bm PySem.F.plainAttrs_list PySem.F.slot_list_extend PySem.F.type_list_extend mt_extend (pv 3) (pa_cons (pe_lc (own := [("_law_at", 7)]) (g := gName 7) (by rfl) sc__law_told.nd (pi_range1 (by rfl) tx.range (pa_cons (pv 4) pa_nil)) (blkOk_by (N := N__law_told) (sc := defScope s__law_told) (by decide +kernel)) (fun _ _ _ _ _ => (pg_name (i := 7) sc__law_told.nd rfl (by first | exact Or.inl rfl | exact Or.inr rfl))) (fun _ _ _ _ _ => (pts_one (pt_not (pt_val (pe_callB (id := "any") (r := rAny K) (cr_any rfl) (by rfl) tx.any (by decide +kernel) (pa_cons (pe_lc (own := [("_law_one", 6)]) (g := gName 6) (by rfl) sc__law_told.nd (show PI _ _ _ (iList K _) from (pi_list (pv 3))) (blkOk_in (N := N__law_told) (defScope s__law_told) rfl rfl (by decide +kernel)) (fun _ _ _ _ _ => (pg_name (i := 6) sc__law_told.nd rfl (by first | exact Or.inl rfl | exact Or.inr rfl))) (fun _ _ _ _ _ => pts_nil) (fun _ _ _ _ _ => (pe_cmpR (r := FwWd.rInD K false) (FwWd.op_inD (hu65 hr)) (pv 7) (pv 6) (by rfl)))) pa_nil)))))) (fun _ _ _ _ _ => (pe_tup (pa_cons (pv 7) pa_nil)))) pa_nil)))
    (pss_one (ps_ret (pe_callH h__law_kept (hr.mono (by decide)) (by rfl) (pa_cons (pv 1) (pa_cons (pv 3) pa_nil))))))))))),
  bodyG h fun q ds Φ hp => by
    obtain ⟨z, rfl, hz, q⟩ := hp
    have zm := menu_ok z hz
    have sl := subS_len z.length zm.2.1
    have so := subS_ok z.length zm.2.1
    refine s_seq (s_tup3M (e_callP rfl ?_))
    repeat' walk_at "wp"
    intro w w0 w1
    refine f_lst (a_nil ⟨by decide, ?_⟩)
    repeat' walk_at "wp"
    rw [List.length_map]
    refine iteP (fun h => ?_) (fun h => ?_)
    · refine s_seq (s_for (js := [6]) (i_list_ (e_new (f_slL ?_))))
      repeat' walk_at "wp"
      rw [cut_from (by decide), ← List.map_drop, show (1 : Int).toNat = 1 from rfl]
      refine ⟨fun i e => ∃ os s5 s6 s7, e = [.pot, .dat (listI z), .dat (.int w), .own (os.map fun m => tupI m), .dat (.int (z.length : Nat)), s5, s6, s7] ∧ os.length ≤ i ∧ ∀ o ∈ os, okRow z.length o, ⟨[], _, _, _, rfl, Nat.le_refl _, nofun⟩, fun i x e hx => ?_, fun e => ?_⟩
      · rintro ⟨os, s5, s6, s7, rfl, ol, ok⟩
        have hi := (List.getElem?_eq_some_iff.mp hx).1
        rw [List.length_map, List.length_drop] at hi
        rw [List.getElem?_map] at hx
        obtain ⟨a, ha, rfl⟩ := Option.map_eq_some_iff.mp hx
        have sa := so a (List.mem_of_mem_drop (List.mem_of_getElem? ha))
        refine g_name (s_if (t_test (e_op (e_callP rfl ?_))))
        repeat' walk_at "wp"
        intro d d0 d1
        repeat' walk_at "wp"
        refine iteP (fun h => ?_) (fun h => ?_)
        · refine s_app2 rfl (e_var rfl ⟨by rw [List.length_map]; omega, os ++ [a], s5, .dat (tupI a), s7, ?_, ?_, ?_⟩)
          · rw [List.map_append]
            rfl
          · rw [List.length_append]
            show os.length + 1 ≤ _
            omega
          · intro o ho
            rcases List.mem_append.mp ho with h4 | h4
            · exact ok o h4
            · rw [List.mem_singleton.mp h4]; exact sa.2.2
        · repeat' walk_at "wp"
          exact ⟨os, _, _, _, rfl, by omega, ok⟩
      · rintro ⟨os, s5, s6, s7, rfl, ol, ok⟩
        rw [List.length_map, List.length_drop] at ol
        refine s_pub (i := 3) rfl (s_ret (e_call ?_))
        repeat' walk_at "wp"
        exact q
    · repeat' walk_at "wp"
      refine s_for (js := [6]) (i_list_ (e_callP rfl ?_))
      repeat' walk_at "wp"
      intro x hx
      obtain ⟨rs, hrs, rfl⟩ := List.mem_map.mp (show x ∈ tmenu.map rowsL from hx)
      have ro := tmenu_ok rs hrs
      refine ⟨_, rfl, fun i e => ∃ os s5 s6 s7, e = [.pot, .dat (listI z), .dat (.int w), .own (os.map fun m => tupI m), .dat (.int (z.length : Nat)), s5, s6, s7] ∧ os.length ≤ i ∧ ∀ o ∈ os, okRow z.length o, ⟨[], _, _, _, rfl, Nat.le_refl _, nofun⟩, fun i x e hx => ?_, fun e => ?_⟩
      · rintro ⟨os, s5, s6, s7, rfl, ol, ok⟩
        have hi := (List.getElem?_eq_some_iff.mp hx).1
        rw [List.length_map] at hi
        rw [List.getElem?_map] at hx
        obtain ⟨a, ha, rfl⟩ := Option.map_eq_some_iff.mp hx
        have sa := ro.2 a (List.mem_of_getElem? ha)
        have sr := ro.1
        refine g_name (s_app2 rfl (e_cb (a_cons ?_)))
        refine e_flt (α := Int) (js := [7]) .int (fun c => decide (c < (z.length : Int))) .int (i_tup_ (e_var rfl ⟨_, rfl, a, rfl, by omega, fun c hc => g_name ?_, ?_⟩))
        · repeat' walk_at "wp"
          refine ⟨rfl, fun _ => ?_⟩
          repeat' walk_at "wp"
          rfl
        · repeat' walk_at "wp"
          refine ⟨os ++ [a.filter fun c => decide (c < (z.length : Int))], s5, .dat (tupI a), s7, ?_, ?_, ?_⟩
          · rw [List.map_append]
            rfl
          · rw [List.length_append]
            show os.length + 1 ≤ _
            omega
          · intro o ho
            rcases List.mem_append.mp ho with h4 | h4
            · exact ok o h4
            · rw [List.mem_singleton.mp h4]
              refine ⟨sa.2.1.filter _, fun c hc => ?_⟩
              have h5 := List.mem_filter.mp hc
              exact ⟨sa.2.2 c h5.1, of_decide_eq_true h5.2⟩
      · rintro ⟨os, s5, s6, s7, rfl, ol, ok⟩
        rw [List.length_map] at ol
        have sr := ro.1
        refine s_seq (s_ownF (f_own (i := 3) rfl ?_))
        refine f_flt (α := List Int) (js := [6]) (fun m => tupI m) (fun m => decide (m ≠ [])) (fun m => tupI m) (i_list_ (e_var rfl ⟨_, rfl, os, rfl, by omega, fun m hm => g_name ?_, flat_rows _, ?_⟩))
        · refine t_test (e_op (e_var rfl (e_tup (a_nil ⟨by decide, od_neD_ (sh_row m) (sh_row []) ⟨_, rfl, ?_, fun _ => e_var rfl rfl⟩⟩))))
          show (!PyData.eqv (tupI m) (tupI [])) = decide (m ≠ [])
          rw [FwN.eqv_row m []]
          exact (decide_not (p := m = [])).symm
        have ok2 : ∀ o ∈ os.filter (fun m => decide (m ≠ [])), okRow z.length o := fun o ho => ok o (List.mem_filter.mp ho).1
        have ol2 := Nat.le_trans (List.length_filter_le (fun m => decide (m ≠ [])) os) ol
        generalize os.filter (fun m => decide (m ≠ [])) = os2 at ok2 ol2
        refine s_seq (s_ext (i := 3) rfl (f_own (i := 3) rfl ?_))
        refine f_flt (α := Int) (js := [7]) .int (fun c => !os2.any fun o => o.contains c) (fun c => tupI [c]) (i_rng1 (a_cons (e_var rfl (a_nil ⟨_, rfl, by omega, by omega, nn z.length, rng_nn z.length, by rw [nn_len]; omega, fun c hc => g_name ?_, ?_, ?_, ?_⟩))))
        · refine t_not (t_test (e_cb (a_cons ?_)))
          refine e_mapA (α := List Int) (js := [6]) (fun m => tupI m) (fun o => .bool (o.contains c)) (i_list_ (e_var rfl ⟨_, rfl, os2, rfl, by omega, fun o ho => g_name ?_, ?_⟩))
          · repeat' walk_at "wp"
            exact od_inTI rfl
          · refine a_nil (cb_anyF ⟨_, rfl, rfl, fun _ => ?_⟩)
            repeat' walk_at "wp"
            rfl
        · rw [show (fun c : Int => tupI [c]) = ((fun m => tupI m) ∘ fun c : Int => [c]) from rfl, ← List.map_map]
          exact flat_rows _
        · have b3 := List.length_filter_le (fun c => !os2.any fun o => o.contains c) (nn z.length)
          rw [nn_len] at b3
          rw [List.length_map, List.length_map]
          omega
        · have b3 := List.length_filter_le (fun c => !os2.any fun o => o.contains c) (nn z.length)
          rw [nn_len] at b3
          refine s_pub (i := 3) rfl (s_ret (e_call (a_cons (e_var rfl (a_cons (e_var rfl (a_nil ⟨z, os2 ++ ((nn z.length).filter fun c => !os2.any fun o => o.contains c).map fun c => [c], ?_, hz, ?_, fun o ho => ?_, q⟩)))))))
          · show [_, PyData.list (_ ++ _)] = [_, PyData.list (List.map _ (_ ++ _))]
            rw [List.map_append, List.map_map]
            rfl
          · rw [List.length_append, List.length_map]
            omega
          · rcases List.mem_append.mp ho with h4 | h4
            · exact ok2 o h4
            · obtain ⟨c, hc, rfl⟩ := List.mem_map.mp h4
              exact ⟨List.pairwise_singleton _ _, fun d hd => by rw [List.mem_singleton.mp hd]; exact nn_in.mp (List.mem_filter.mp hc).1⟩
⟩
theorem has__law_told (D : Dn K mg "_law_told" s__law_told) (tx : Tx K mg) (h__law_pick : Has P w K mg base "_law_pick" ["_law_pot_here", "_law_some"] 2 (SpG K pre__law_pick)) (h__law_kept : Has P w K mg base "_law_kept" ["_law_sizes_here", "_law_some"] 1 (SpF K pre__law_kept)) (h__law_draw : Has P w K mg base "_law_draw" ["_law_pot_here", "_law_room"] 1 (SpG K pre__law_draw)) (h__law_subsets : Has P w K mg base "_law_subsets" ["_law_many_here"] 1 (SpF K pre__law_subsets)) : Has P w K mg base "_law_told" ["_law_pot_here", "_law_sizes_here"] 3 (SpG K pre__law_told) := has_of D (fun _ _ _ _ _ _ us hl => match us, hl with | [_, _], _ => rfl) (ok__law_told tx h__law_pick h__law_kept h__law_draw h__law_subsets)

theorem ok__law_model (tx : Tx K mg) (h__law_sizes : Has P w K mg base "_law_sizes" ["_law_pot_here"] 3 (SpG K pre__law_sizes)) (h__law_told : Has P w K mg base "_law_told" ["_law_pot_here", "_law_sizes_here"] 3 (SpG K pre__law_told)) : ∀ f fd, FnP K "_law_model" s__law_model f fd → FnOk P w K mg base CX0 4 f fd ["_law_pot_here"] (SpG K pre__law_model) := fun f fd F =>
  F.ok sc__law_model (fun vs H Q E s => lenG (fun ds Φ h => by
    obtain ⟨rfl, _⟩ := h; rfl) s) fun cdv A outer s H vs Q E hr h => ⟨_, PSs.nox (pss_cons (ps_set (i := 1) sc__law_model.nd rfl (.inl rfl) (pe_callH h__law_sizes (hr.mono (by decide)) (by rfl) (pa_cons (pv 0) pa_nil)))
    (pss_cons (ps_set (i := 2) sc__law_model.nd rfl (.inl rfl) (pe_callTy call_tuple_of (by rfl) tx.tuple (by decide +kernel) (pa_cons (pe_lc (own := [("_law_at", 3), ("_law_size", 4)]) (g := gTup K 2 (gCons (gName 3) (gCons (gName 4) gNil))) (by rfl) sc__law_model.nd (pi_enum (by rfl) tx.enumerate (pa_cons (pv 1) pa_nil)) (blkOk_by (N := N__law_model) (sc := defScope s__law_model) (by decide +kernel)) (fun _ _ _ _ _ => (pg_tup (by rfl) (pgs_cons (pg_name (i := 3) sc__law_model.nd rfl (by first | exact Or.inl rfl | exact Or.inr rfl)) (pgs_cons (pg_name (i := 4) sc__law_model.nd rfl (by first | exact Or.inl rfl | exact Or.inr rfl)) pgs_nil)))) (fun _ _ _ _ _ => pts_nil) (fun _ _ _ _ _ => (pe_tup (pa_cons (pe_ix (r := rIxS) ix_str pe_str (pv 3) (fun _ _ => rfl)) (pa_cons (pe_callTy (r := Fw.rTupOf K) (T := "tuple") call_tuple_of (by rfl) tx.tuple (by decide +kernel) (pa_cons (pe_lc (own := [("_law_one", 5)]) (g := gName 5) (by rfl) sc__law_model.nd (pi_range1 (by rfl) tx.range (pa_cons (pv 4) pa_nil)) (blkOk_in (N := N__law_model) (defScope s__law_model) rfl rfl (by decide +kernel)) (fun _ _ _ _ _ => (pg_name (i := 5) sc__law_model.nd rfl (by first | exact Or.inl rfl | exact Or.inr rfl))) (fun _ _ _ _ _ => pts_nil) (fun _ _ _ _ _ => (pe_op op_add_str pe_str (pe_callTy call_str_int (by rfl) tx.str (by decide +kernel) (pa_cons (pv 5) pa_nil))))) pa_nil)) pa_nil))))) pa_nil)))
    (pss_one (ps_ret (pe_tup (pa_cons pe_str (pa_cons (pv 2) (pa_cons (pe_tup pa_nil) (pa_cons (pe_callTy call_tuple_of (by rfl) tx.tuple (by decide +kernel) (pa_cons (pe_callH h__law_told (hr.mono (by decide)) (by rfl) (pa_cons (pv 0) (pa_cons (pv 1) pa_nil))) pa_nil)) pa_nil))))))))),
  bodyG h fun q ds Φ hp => by
    obtain ⟨rfl, q⟩ := hp
    repeat' walk_at "wp"
    refine ⟨rfl, fun z hz => ?_⟩
    have zm := menu_ok z hz
    repeat' walk_at "wp"
    refine e_mapA (α := Nat) (js := [3] ++ ([4] ++ [])) (fun i => .tuple [.int (i : Nat), .int (at_ z i)]) (fun i => nameD (mkN z i)) (i_enumL_ (a_cons (e_var rfl (a_nil ⟨_, rfl, List.range z.length, enum_ints z, by rw [List.length_range]; omega, fun i hi => g_tup_ [_, _] rfl rfl (g_cons (g_name (g_cons (g_name (g_nil ?_))))), ?_⟩))))
    · have hi2 := List.mem_range.mp hi
      have zi := zm.2.2 _ (at_mem hi2)
      repeat' walk_at "wp"
      obtain ⟨c, hc, hs⟩ := abcd i (by omega)
      refine FwWd.od_ixS (by decide) hc ?_
      refine a_cons (e_cb (a_cons ?_))
      refine e_mapA (α := Nat) (js := [5]) (fun j => .int (j : Nat)) (fun j => .str (vname j)) (i_rng1 (a_cons (e_var rfl (a_nil ⟨_, rfl, by omega, by omega, List.range (at_ z i).toNat, rng_int _, by rw [List.length_range]; omega, fun j hj => g_name ?_, ?_⟩))))
      · have hj2 := List.mem_range.mp hj
        have j4 : j < 4 := by omega
        repeat' walk_at "wp"
        refine FwWd.cb_strI (log_j j j4) ?_
        refine FwWd.od_addS (len_j j j4) ?_
        rfl
      · repeat' walk_at "wp"
        show PyData.tuple [.str ⟨#[c]⟩, .tuple ((List.range (at_ z i).toNat).map fun j => .str (vname j))] = nameD (mkN z i)
        rw [hs]
        show _ = PyData.tuple [.str _, .tuple (((List.range (at_ z i).toNat).map vname).map .str)]
        rw [List.map_map]
        rfl
    · repeat' walk_at "wp"
      intro tl ht
      repeat' walk_at "wp"
      have hm := mod_ok z hz tl ht
      have e : PyData.tuple ((List.range z.length).map fun i => nameD (mkN z i)) = namesD ((List.range z.length).map (mkN z)) := by
        unfold namesD
        rw [List.map_map]
        rfl
      rw [e]
      exact q _ tl z.length hm
⟩
theorem has__law_model (D : Dn K mg "_law_model" s__law_model) (tx : Tx K mg) (h__law_sizes : Has P w K mg base "_law_sizes" ["_law_pot_here"] 3 (SpG K pre__law_sizes)) (h__law_told : Has P w K mg base "_law_told" ["_law_pot_here", "_law_sizes_here"] 3 (SpG K pre__law_told)) : Has P w K mg base "_law_model" ["_law_pot_here"] 4 (SpG K pre__law_model) := has_of D (fun _ _ _ _ _ _ us hl => match us, hl with | [_], _ => rfl) (ok__law_model tx h__law_sizes h__law_told)

theorem ok__law_many (tx : Tx K mg) : ∀ f fd, FnP K "_law_many" s__law_many f fd → FnOk P w K mg base CX0 1 f fd ["_law_model_here"] (SpF K pre__law_many) := fun f fd F =>
  F.ok sc__law_many (fun vs H Q E s => lenF (fun ds Φ h => by
    obtain ⟨_, _, _, rfl, _⟩ := h; rfl) s) fun cdv A outer s H vs Q E hr h => ⟨_, PSs.nox (pss_one (ps_ret (pe_callB (id := "len") call_len_seq (by rfl) tx.len (by decide +kernel) (pa_cons (pe_ix ix_tup (pv 0) pe_int (fun _ _ => rfl)) pa_nil)))),
  bodyF h fun ds Φ hp => by
    obtain ⟨nm, tl, n, rfl, r, q⟩ := hp
    repeat' walk_at "wp"
    refine od_ixT_ (d := namesD nm) rfl ?_
    repeat' walk_at "wp"
    rw [List.length_map, r.len]
    exact q
⟩
theorem has__law_many (D : Dn K mg "_law_many" s__law_many) (tx : Tx K mg) : Has P w K mg base "_law_many" ["_law_model_here"] 1 (SpF K pre__law_many) := has_of D (fun _ _ _ _ _ _ us hl => match us, hl with | [_], _ => rfl) (ok__law_many tx)

theorem ok__law_are_tied (tx : Tx K mg) : ∀ f fd, FnP K "_law_are_tied" s__law_are_tied f fd → FnOk P w K mg base CX0 1 f fd ["_law_model_here", "_law_one", "_law_other"] (SpF K pre__law_are_tied) := fun f fd F =>
  F.ok sc__law_are_tied (fun vs H Q E s => lenF (fun ds Φ h => by
    obtain ⟨_, _, _, _, _, rfl, _⟩ := h; rfl) s) fun cdv A outer s H vs Q E hr h => ⟨_, PSs.nox (pss_one (ps_ret (pe_and (pe_cmpR op_ne (pv 1) (pv 2) (nomark _)) (pe_one (pe_callB (id := "any") (cr_any rfl) (by rfl) tx.any (by decide +kernel) (pa_cons (pe_lc (own := [("_law_told_here", 3)]) (g := gName 3) (by rfl) sc__law_are_tied.nd (pi_tup (pe_ix ix_tup (pv 0) pe_int (fun _ _ => rfl))) (blkOk_by (N := N__law_are_tied) (sc := defScope s__law_are_tied) (by decide +kernel)) (fun _ _ _ _ _ => (pg_name (i := 3) sc__law_are_tied.nd rfl (by first | exact Or.inl rfl | exact Or.inr rfl))) (fun _ _ _ _ _ => pts_nil) (fun _ _ _ _ _ => (pe_and (pe_cmpR (r := FwWd.rInD K false) (FwWd.op_inD (hu65 hr)) (pv 1) (pv 3) (by rfl)) (pe_one (pe_cmpR (r := FwWd.rInD K false) (FwWd.op_inD (hu65 hr)) (pv 2) (pv 3) (by rfl)))))) pa_nil)))))),
  bodyF h fun ds Φ hp => by
    obtain ⟨nm, tl, n, a, b, rfl, r, ha, hb, q⟩ := hp
    have r2 := r.t16
    rw [tM_mat ha hb] at q
    unfold tied at q
    repeat' walk_at "wp"
    refine iteB (fun e => ?_) (fun e => ?_)
    · have hne : decide (a ≠ b) = true := by simpa using e
      rw [hne, Bool.true_and] at q
      refine e_cb (a_cons (e_mapA (α := List Int) (js := [3]) (fun m => tupI m) (fun t => .bool (t.contains a && t.contains b)) (i_tup_ ?_)))
      repeat' walk_at "wp"
      refine od_ixT_ (d := rowsT tl) rfl ⟨_, rfl, tl, rfl, by omega, fun t ht => g_name ?_, ?_⟩
      · repeat' walk_at "wp"
        refine od_inTI ⟨_, rfl, iteB (fun e => ?_) (fun e => ?_)⟩
        · repeat' walk_at "wp"
          exact od_inTI (by show _ = PyData.bool (t.contains a && t.contains b); rw [e, Bool.true_and])
        · show _ = PyData.bool (t.contains a && t.contains b)
          rw [e, Bool.false_and]
      · exact a_nil (cb_anyF q)
    · have hne : decide (a ≠ b) = false := by simpa using e
      rw [hne, Bool.false_and] at q
      exact q
⟩
theorem has__law_are_tied (D : Dn K mg "_law_are_tied" s__law_are_tied) (tx : Tx K mg) : Has P w K mg base "_law_are_tied" ["_law_model_here", "_law_one", "_law_other"] 1 (SpF K pre__law_are_tied) := has_of D (fun _ _ _ _ _ _ us hl => match us, hl with | [_, _, _], _ => rfl) (ok__law_are_tied tx)

theorem ok__law_is_close (tx : Tx K mg) (h__law_are_tied : Has P w K mg base "_law_are_tied" ["_law_model_here", "_law_one", "_law_other"] 1 (SpF K pre__law_are_tied)) : ∀ f fd, FnP K "_law_is_close" s__law_is_close f fd → FnOk P w K mg base CX0 2 f fd ["_law_model_here", "_law_some"] (SpF K pre__law_is_close) := fun f fd F =>
  F.ok sc__law_is_close (fun vs H Q E s => lenF (fun ds Φ h => by
    obtain ⟨_, _, _, _, _, rfl, _⟩ := h; rfl) s) fun cdv A outer s H vs Q E hr h => ⟨_, PSs.nox (pss_cons (ps_for PassesOwn.never rfl (FwSJ.pi_or (pi_enum (by rfl) tx.enumerate (pa_cons (pv 1) pa_nil)) (FwE.pi_enumT (by rfl) tx.enumerate (pa_cons (pv 1) pa_nil))) (pg_tup (by rfl) (pgs_cons (pg_name (i := 2) sc__law_is_close.nd rfl (.inl rfl)) (pgs_cons (pg_name (i := 3) sc__law_is_close.nd rfl (.inr rfl)) pgs_nil))) (pss_one (ps_if (pt_not (pt_val (pe_callB (id := "all") (cr_all rfl) (by rfl) tx.all (by decide +kernel) (pa_cons (pe_lc (own := [("_law_other", 4)]) (g := gName 4) (by rfl) sc__law_is_close.nd (FwU.pi_any (FwK.pe_or (pe_slice sl_list (pv 1) (po_some (pe_op op_add (pv 2) pe_int)) po_none) (pe_slice sl_tupA (pv 1) (po_some (pe_op op_add (pv 2) pe_int)) po_none))) (blkOk_by (N := N__law_is_close) (sc := defScope s__law_is_close) (by decide +kernel)) (fun _ _ _ _ _ => (pg_name (i := 4) sc__law_is_close.nd rfl (by first | exact Or.inl rfl | exact Or.inr rfl))) (fun _ _ _ _ _ => pts_nil) (fun _ _ _ _ _ => (pe_callH h__law_are_tied (hr.mono (by decide)) (by rfl) (pa_cons (pv 0) (pa_cons (pv 3) (pa_cons (pv 4) pa_nil)))))) pa_nil)))) (pss_one (ps_ret pe_bl)) pss_nil)))
    (pss_one (ps_ret pe_bl))),
  bodyF h fun ds Φ hp => by
    obtain ⟨nm, tl, n, x, ns, rfl, hx, r, hl, hn, q⟩ := hp
    repeat' walk_at "wp"
    have key : WpI K none (FwSJ.iOr (iEnum K (tCons (tVar 1) tNil)) (FwE.iEnumT K (tCons (tVar 1) tNil))) (List.map Slot.dat [modelD nm tl, x] ++ List.replicate (N__law_is_close.length - [modelD nm tl, x].length) Slot.no) fun xs => xs = (List.range ns.length).map fun i => .tuple [.int (i : Nat), .int (at_ ns i)] := by
      rcases hx with rfl | rfl
      · exact Fw.i_or1 (i_enumL_ (a_cons (e_var rfl (a_nil ⟨_, rfl, enum_ints ns⟩))))
      · exact Fw.i_or2 (i_enumT_ (a_cons (e_var rfl (a_nil ⟨_, rfl, enum_ints ns⟩))))
    refine s_for (js := [2] ++ ([3] ++ [])) (wi_mono key fun xs ex => ?_)
    subst ex
    refine ⟨fun i e => ∃ s2 s3 s4, e = [.dat (modelD nm tl), .dat x, s2, s3, s4] ∧ ∀ a, a < i → ((ns.drop (a + 1)).all fun o => tM (mat n tl) (at_ ns a) o) = true, ⟨_, _, _, rfl, fun a ha => absurd ha (Nat.not_lt_zero _)⟩, fun i y e hy => ?_, fun e => ?_⟩
    · rintro ⟨s2, s3, s4, rfl, inv⟩
      rw [List.getElem?_map] at hy
      obtain ⟨j, hj, rfl⟩ := Option.map_eq_some_iff.mp hy
      have hi : i < ns.length := by
        have := (List.getElem?_eq_some_iff.mp hj).1
        rwa [List.length_range] at this
      rw [List.getElem?_range hi] at hj
      cases hj
      refine g_tup_ [_, _] rfl rfl (g_cons (g_name (g_cons (g_name (g_nil ?_)))))
      have hin := at_in hi hn
      refine s_if (t_not (t_test (e_cb (a_cons ?_))))
      refine e_mapA (α := Int) (js := [4]) .int (fun o => .bool (tM (mat n tl) (at_ ns i) o)) (Fw.i_any ?_)
      have dr : ∀ xs : List PyData, cutD xs (some ((i : Int) + 1)) none = xs.drop (i + 1) := fun xs => by
        rw [cut_from (by omega)]
        congr 1
      have fin : ∀ (z : PyData), (z = listI (ns.drop (i + 1)) ∨ z = tupI (ns.drop (i + 1))) → ∀ Ψ : List PyData → Prop, Ψ ((ns.drop (i + 1)).map .int) → ∃ xs, (z = .list xs ∨ z = .tuple xs) ∧ Ψ xs := fun z hz Ψ h => ⟨_, hz, h⟩
      have rest : ∀ (Ψ : List PyData → Prop) (e : List Slot), Ψ ((ns.drop (i + 1)).map .int) → e = (([Slot.dat (modelD nm tl), Slot.dat x, s2, s3, s4].set 2 (Slot.dat (PyData.int i))).set 3 (Slot.dat (PyData.int (at_ ns i)))) → WpE K none (FwK.tOr (tSl (rSlL K) (tVar 1) (tPart (tOp (rI0 fun i j => V.int (i + j)) (tVar 2) (tC (V.int 1)))) tNoPart) (tSl (rSlA K) (tVar 1) (tPart (tOp (rI0 fun i j => V.int (i + j)) (tVar 2) (tC (V.int 1)))) tNoPart)) e fun d => ∃ xs, (d = .list xs ∨ d = .tuple xs) ∧ Ψ xs := by
        rintro Ψ e hΨ rfl
        rcases hx with rfl | rfl
        · refine Fw.e_or1 (e_new (f_slL (e_var rfl ?_)))
          repeat' walk_at "wp"
          refine ⟨_, .inl rfl, ?_⟩
          rw [dr, ← List.map_drop]
          exact hΨ
        · refine Fw.e_or2 (e_slT_ (e_var rfl ?_))
          repeat' walk_at "wp"
          refine ⟨_, .inr rfl, ?_⟩
          rw [dr, ← List.map_drop]
          exact hΨ
      refine rest _ _ ⟨ns.drop (i + 1), rfl, by rw [List.length_drop]; omega, fun o ho => g_name ?_, ?_⟩ rfl
      · have ho2 := hn o (List.mem_of_mem_drop ho)
        repeat' walk_at "wp"
        exact ⟨nm, tl, n, at_ ns i, o, rfl, r, hin, ho2, rfl⟩
      · refine a_nil (cb_allF ⟨_, rfl, ?_⟩)
        refine iteB (fun e => ?_) (fun e => ?_)
        · repeat' walk_at "wp"
          have e2 : closeO (mat n tl) ns = false := by
            cases hz : closeO (mat n tl) ns with
            | false => rfl
            | true =>
              unfold closeO at hz
              have h5 := List.all_eq_true.mp hz i (List.mem_range.mpr hi)
              rw [h5] at e
              cases e
          rw [e2] at q
          exact q
        · repeat' walk_at "wp"
          intro a ha
          by_cases h3 : a < i
          · exact inv a h3
          · have h4 : a = i := by omega
            subst h4
            rw [Bool.not_eq_false'] at e
            exact e
    · rintro ⟨s2, s3, s4, rfl, inv⟩
      rw [List.length_map, List.length_range] at inv
      repeat' walk_at "wp"
      have e : closeO (mat n tl) ns = true := by
        unfold closeO
        rw [List.all_eq_true]
        intro a ha
        exact inv a (List.mem_range.mp ha)
      rw [e] at q
      exact q
⟩
theorem has__law_is_close (D : Dn K mg "_law_is_close" s__law_is_close) (tx : Tx K mg) (h__law_are_tied : Has P w K mg base "_law_are_tied" ["_law_model_here", "_law_one", "_law_other"] 1 (SpF K pre__law_are_tied)) : Has P w K mg base "_law_is_close" ["_law_model_here", "_law_some"] 2 (SpF K pre__law_is_close) := has_of D (fun _ _ _ _ _ _ us hl => match us, hl with | [_, _], _ => rfl) (ok__law_is_close tx h__law_are_tied)

theorem ok__law_greatest (tx : Tx K mg) (h__law_is_close : Has P w K mg base "_law_is_close" ["_law_model_here", "_law_some"] 2 (SpF K pre__law_is_close)) (h__law_subsets : Has P w K mg base "_law_subsets" ["_law_many_here"] 1 (SpF K pre__law_subsets)) (h__law_many : Has P w K mg base "_law_many" ["_law_model_here"] 1 (SpF K pre__law_many)) : ∀ f fd, FnP K "_law_greatest" s__law_greatest f fd → FnOk P w K mg base CX0 3 f fd ["_law_model_here"] (SpF K pre__law_greatest) := fun f fd F =>
  F.ok sc__law_greatest (fun vs H Q E s => lenF (fun ds Φ h => by
    obtain ⟨_, _, _, rfl, _⟩ := h; rfl) s) fun cdv A outer s H vs Q E hr h => ⟨_, PSs.nox (pss_cons (ps_set (i := 1) sc__law_greatest.nd rfl (.inr rfl) (pe_lc (own := [("_law_one", 2)]) (g := gName 2) (by rfl) sc__law_greatest.nd (pi_list (pe_slice sl_list (pe_callH h__law_subsets (hr.mono (by decide)) (by rfl) (pa_cons (pe_callH h__law_many (hr.mono (by decide)) (by rfl) (pa_cons (pv 0) pa_nil)) pa_nil)) (po_some pe_int) po_none)) (blkOk_by (N := N__law_greatest) (sc := defScope s__law_greatest) (by decide +kernel)) (fun _ _ _ _ _ => (pg_name (i := 2) sc__law_greatest.nd rfl (by first | exact Or.inl rfl | exact Or.inr rfl))) (fun _ _ _ _ _ => (pts_one (pt_val (pe_callH h__law_is_close (hr.mono (by decide)) (by rfl) (pa_cons (pv 0) (pa_cons (pv 2) pa_nil)))))) (fun _ _ _ _ _ => (pv 2))))
    (pss_one (ps_ret (pe_lc (own := [("_law_one", 2)]) (g := gName 2) (by rfl) sc__law_greatest.nd (pi_list (pv 1)) (blkOk_by (N := N__law_greatest) (sc := defScope s__law_greatest) (by decide +kernel)) (fun _ _ _ _ _ => (pg_name (i := 2) sc__law_greatest.nd rfl (by first | exact Or.inl rfl | exact Or.inr rfl))) (fun _ _ _ _ _ => (pts_one (pt_not (pt_val (pe_callB (id := "any") (r := rAny K) (cr_any rfl) (by rfl) tx.any (by decide +kernel) (pa_cons (pe_lc (own := [("_law_other", 3)]) (g := gName 3) (by rfl) sc__law_greatest.nd (show PI _ _ _ (iList K _) from (pi_list (pv 1))) (blkOk_in (N := N__law_greatest) (defScope s__law_greatest) rfl rfl (by decide +kernel)) (fun _ _ _ _ _ => (pg_name (i := 3) sc__law_greatest.nd rfl (by first | exact Or.inl rfl | exact Or.inr rfl))) (fun _ _ _ _ _ => pts_nil) (fun _ _ _ _ _ => (pe_and (pe_cmpR (r := rNeD K) (op_neD (hu64 hr)) (pv 2) (pv 3) (nomark _)) (pe_one (pe_callB (id := "all") (r := rAll K) (cr_all rfl) (by rfl) tx.all (by decide +kernel) (pa_cons (pe_lc (own := [("_law_at", 4)]) (g := gName 4) (by rfl) sc__law_greatest.nd (show PI _ _ _ (iTup K _) from (pi_tup (pv 2))) (blkOk_in (N := N__law_greatest) ({kind := .function, names := [(".0", .local), ("_law_one", .cell), ("any", .globalImplicit), ("_law_some", .cell)], isGenerator := false, isCoroutine := false} : Scope) rfl rfl (by decide +kernel)) (fun _ _ _ _ _ => (pg_name (i := 4) sc__law_greatest.nd rfl (by first | exact Or.inl rfl | exact Or.inr rfl))) (fun _ _ _ _ _ => pts_nil) (fun _ _ _ _ _ => (pe_cmpR (r := FwWd.rInD K false) (FwWd.op_inD (hu65 hr)) (pv 4) (pv 3) (by rfl)))) pa_nil)))))) pa_nil)))))) (fun _ _ _ _ _ => (pv 2)))))),
  bodyF h fun ds Φ hp => by
    obtain ⟨nm, tl, n, rfl, r, q⟩ := hp
    have r1 := r.one
    have r4 := r.four
    have sl := subS_len n r4
    have so := subS_ok n r4
    have sd : ((subS n).drop 1).length ≤ 16 := by rw [List.length_drop]; omega
    have sf : (((subS n).drop 1).filter (closeO (mat n tl))).length ≤ 16 := Nat.le_trans (List.length_filter_le _ _) sd
    refine s_seq (s_asg (e_flt (α := List Int) (js := [2]) (fun m => tupI m) (closeO (mat n tl)) (fun m => tupI m) (i_list_ (e_new (f_slL ?_)))))
    repeat' walk_at "wp"
    refine ⟨nm, tl, n, rfl, r, ?_⟩
    repeat' walk_at "wp"
    refine ⟨(subS n).drop 1, by rw [cut_from (by decide), List.map_drop]; rfl, by omega, fun m hm => g_name ?_, ?_⟩
    · have h2 := so m (List.mem_of_mem_drop hm)
      repeat' walk_at "wp"
      refine ⟨nm, tl, n, _, m, rfl, .inr rfl, r, by omega, h2.2.2.2, _, rfl, rfl, fun _ => ?_⟩
      repeat' walk_at "wp"
      rfl
    · refine s_ret (e_flt (α := List Int) (js := [2]) (fun m => tupI m) (fun a => !((((subS n).drop 1).filter (closeO (mat n tl))).any fun o => decide (a ≠ o) && a.all fun x => o.contains x)) (fun m => tupI m) (i_list_ (e_var rfl ⟨_, rfl, _, rfl, by omega, fun m hm => g_name ?_, q⟩)))
      have hm2 := so m (List.mem_of_mem_drop (List.mem_filter.mp hm).1)
      refine t_not (t_test (e_cb (a_cons ?_)))
      refine e_mapA (α := List Int) (js := [3]) (fun m => tupI m) (fun o => .bool (decide (m ≠ o) && m.all fun x => o.contains x)) (i_list_ (e_var rfl ⟨_, rfl, ((subS n).drop 1).filter (closeO (mat n tl)), rfl, by omega, fun o ho => g_name ?_, ?_⟩))
      · have h2 := so o (List.mem_of_mem_drop (List.mem_filter.mp ho).1)
        refine e_andV (e_op (e_var rfl (e_var rfl (od_neD_ (sh_row m) (sh_row o) ?_))))
        rw [FwN.eqv_row]
        refine ⟨_, rfl, iteB (fun e => ?_) (fun e => ?_)⟩
        · have e3 : decide (m ≠ o) = true := by simpa using e
          have e4 : PyData.bool (decide (m ≠ o) && m.all fun x => o.contains x) = PyData.bool (m.all fun x => o.contains x) := by rw [e3, Bool.true_and]
          refine e_cb (a_cons ?_)
          refine e_mapA (α := Int) (js := [4]) .int (fun x => .bool (o.contains x)) (i_tup_ (e_var rfl ⟨_, rfl, m, rfl, by omega, fun x hx => g_name ?_, a_nil (cb_allF e4.symm)⟩))
          repeat' walk_at "wp"
          exact od_inTI rfl
        · have e3 : decide (m ≠ o) = false := by simpa using e
          show _ = PyData.bool (decide (m ≠ o) && m.all fun x => o.contains x)
          rw [e3, Bool.false_and]
      · refine a_nil (cb_anyF ⟨_, rfl, rfl, fun _ => ?_⟩)
        exact e_var rfl rfl
⟩
theorem has__law_greatest (D : Dn K mg "_law_greatest" s__law_greatest) (tx : Tx K mg) (h__law_is_close : Has P w K mg base "_law_is_close" ["_law_model_here", "_law_some"] 2 (SpF K pre__law_is_close)) (h__law_subsets : Has P w K mg base "_law_subsets" ["_law_many_here"] 1 (SpF K pre__law_subsets)) (h__law_many : Has P w K mg base "_law_many" ["_law_model_here"] 1 (SpF K pre__law_many)) : Has P w K mg base "_law_greatest" ["_law_model_here"] 3 (SpF K pre__law_greatest) := has_of D (fun _ _ _ _ _ _ us hl => match us, hl with | [_], _ => rfl) (ok__law_greatest tx h__law_is_close h__law_subsets h__law_many)

theorem ok__law_is_fitted (tx : Tx K mg) (h__law_greatest : Has P w K mg base "_law_greatest" ["_law_model_here"] 3 (SpF K pre__law_greatest)) : ∀ f fd, FnP K "_law_is_fitted" s__law_is_fitted f fd → FnOk P w K mg base CX0 4 f fd ["_law_model_here"] (SpF K pre__law_is_fitted) := fun f fd F =>
  F.ok sc__law_is_fitted (fun vs H Q E s => lenF (fun ds Φ h => by
    obtain ⟨_, _, _, rfl, _⟩ := h; rfl) s) fun cdv A outer s H vs Q E hr h => ⟨_, PSs.nox (pss_one (ps_ret (pe_and (pe_cmpR (op_eqD (hu64 hr)) (pe_ix ix_tup (pv 0) pe_int (fun _ _ => rfl)) (pe_tup pa_nil) (nomark _)) (pe_one (pe_callB (id := "all") (cr_all rfl) (by rfl) tx.all (by decide +kernel) (pa_cons (pe_lc (own := [("_law_one", 1)]) (g := gName 1) (by rfl) sc__law_is_fitted.nd (pi_list (pe_callH h__law_greatest (hr.mono (by decide)) (by rfl) (pa_cons (pv 0) pa_nil))) (blkOk_by (N := N__law_is_fitted) (sc := defScope s__law_is_fitted) (by decide +kernel)) (fun _ _ _ _ _ => (pg_name (i := 1) sc__law_is_fitted.nd rfl (by first | exact Or.inl rfl | exact Or.inr rfl))) (fun _ _ _ _ _ => pts_nil) (fun _ _ _ _ _ => (pe_cmpR (r := FwWd.rInD K false) (FwWd.op_inD (hu65 hr)) (pv 1) (pe_ix (r := rIxT K) ix_tup (pv 0) pe_int (fun _ _ => rfl)) (by rfl)))) pa_nil)))))),
  bodyF h fun ds Φ hp => by
    obtain ⟨nm, tl, n, rfl, r, q⟩ := hp
    have r4 := r.four
    repeat' walk_at "wp"
    refine od_ixT_ (d := .tuple []) rfl ?_
    repeat' walk_at "wp"
    refine od_eqD_ (by decide) (by decide) ?_
    rw [eqv_nil]
    repeat' walk_at "wp"
    refine e_mapA (α := List Int) (js := [1]) (fun m => tupI m) (fun m => .bool (tl.contains m)) (i_list_ ?_)
    repeat' walk_at "wp"
    refine ⟨nm, tl, n, rfl, r, _, rfl, greatO (mat n tl) n, rfl, ?_, fun m hm => g_name ?_, ?_⟩
    · have h1 : (greatO (mat n tl) n).length ≤ (subS n).length := by
        unfold greatO
        refine Nat.le_trans (List.length_filter_le _ _) (Nat.le_trans (List.length_filter_le _ _) ?_)
        rw [List.length_drop]
        omega
      have := subS_len n r4
      omega
    · repeat' walk_at "wp"
      refine od_ixT_ (d := rowsT tl) rfl ?_
      exact od_inTR rfl
    · exact a_nil (cb_allF q)
⟩
theorem has__law_is_fitted (D : Dn K mg "_law_is_fitted" s__law_is_fitted) (tx : Tx K mg) (h__law_greatest : Has P w K mg base "_law_greatest" ["_law_model_here"] 3 (SpF K pre__law_greatest)) : Has P w K mg base "_law_is_fitted" ["_law_model_here"] 4 (SpF K pre__law_is_fitted) := has_of D (fun _ _ _ _ _ _ us hl => match us, hl with | [_], _ => rfl) (ok__law_is_fitted tx h__law_greatest)

theorem ok__law_orders (tx : Tx K mg) : ∀ f fd, FnP K "_law_orders" s__law_orders f fd → FnOk P w K mg base CX0 1 f fd ["_law_many_here"] (SpF K pre__law_orders) := fun f fd F =>
  F.ok sc__law_orders (fun vs H Q E s => lenF (fun ds Φ h => by
    obtain ⟨_, rfl, _⟩ := h; rfl) s) fun cdv A outer s H vs Q E hr h => ⟨_, PSs.nox (pss_cons (ps_set (i := 1) sc__law_orders.nd rfl (.inl rfl) (pe_lst (pa_cons (pe_tup pa_nil) pa_nil)))
    (pss_cons (ps_for PassesOwn.never rfl (pi_range1 (by rfl) tx.range (pa_cons (pv 0) pa_nil)) (pg_name (i := 2) sc__law_orders.nd rfl (.inl rfl)) (pss_cons (ps_set (i := 3) sc__law_orders.nd rfl (.inl rfl) (pe_lst pa_nil))
    (pss_cons (ps_for PassesOwn.never rfl (pi_list (pv 1)) (pg_name (i := 4) sc__law_orders.nd rfl (.inr rfl)) (pss_one (ps_expr (pe_bm PySem.F.plainAttrs_list PySem.F.slot_list_extend PySem.F.type_list_extend mt_extend (pv 3) (pa_cons (pe_lc (own := [("_law_at", 5)]) (g := gName 5) (by rfl) sc__law_orders.nd (pi_range1 (by rfl) tx.range (pa_cons (pv 0) pa_nil)) (blkOk_by (N := N__law_orders) (sc := defScope s__law_orders) (by decide +kernel)) (fun _ _ _ _ _ => (pg_name (i := 5) sc__law_orders.nd rfl (by first | exact Or.inl rfl | exact Or.inr rfl))) (fun _ _ _ _ _ => (pts_one (pt_cmpR (r := FwWd.rInD K true) (FwWd.op_notInD (hu65 hr)) (pv 5) (pv 4) (by rfl)))) (fun _ _ _ _ _ => (pe_op (r := rCatA K) op_catA (pv 4) (pe_tup (pa_cons (pv 5) pa_nil))))) pa_nil)))))
    (pss_one (ps_set (i := 1) sc__law_orders.nd rfl (.inl rfl) (pv 3))))))
    (pss_one (ps_ret (pv 1))))),
  bodyF h fun ds Φ hp => by
    obtain ⟨n, rfl, h1, h4, q⟩ := hp
    repeat' walk_at "wp"
    refine s_for (js := [2]) (i_rng1 ?_)
    repeat' walk_at "wp"
    refine ⟨fun i e => i ≤ n ∧ ∃ s2 s3 s4 s5, e = [.dat (.int (n : Nat)), .dat (rowsL (ordO n i)), s2, s3, s4, s5], ⟨by omega, _, _, _, _, rfl⟩, fun i x e hx => ?_, fun e => ?_⟩
    · rintro ⟨hi0, s2, s3, s4, s5, rfl⟩
      have hi : i < n := by
        have := (List.getElem?_eq_some_iff.mp hx).1
        rw [rng_len] at this
        omega
      refine g_name (s_seq (s_own ?_))
      repeat' walk_at "wp"
      have o1 := ordO_ok h4 (show i ≤ n by omega)
      have o2 := ordO_ok h4 (show i + 1 ≤ n by omega)
      refine s_for (js := [4]) (i_list_ (e_var rfl ⟨_, rfl, fun j e => ∃ s4 s5, e = [.dat (.int (n : Nat)), .dat (rowsL (ordO n i)), .dat x, .own ((ordStep n ((ordO n i).take j)).map fun m => tupI m), s4, s5], ⟨_, _, rfl⟩, fun j y e hy => ?_, fun e => ?_⟩))
      · rintro ⟨s4, s5, rfl⟩
        rw [List.getElem?_map] at hy
        obtain ⟨a, ha, rfl⟩ := Option.map_eq_some_iff.mp hy
        have a1 := (o1.2 a (List.mem_of_getElem? ha)).1
        have b1 := ordS_len n (ordO n i) j
        have b2 : (ordStep n (ordO n i)).length ≤ 24 := o2.1
        refine g_name (s_ext (i := 3) rfl (f_flt (α := Int) (js := [5]) .int (fun c => !a.contains c) (fun c => tupI (a ++ [c])) (i_rng1 (a_cons (e_var rfl (a_nil ⟨_, rfl, by omega, by omega, nn n, rng_nn n, by rw [nn_len]; omega, fun c hc => g_name ?_, ?_⟩))))))
        · repeat' walk_at "wp"
          refine od_niTI ⟨_, rfl, rfl, fun _ => ?_⟩
          repeat' walk_at "wp"
          refine od_catT_ (by rw [List.length_map]; show a.length + 1 ≤ _; omega) ?_
          exact row_app a c
        · refine ⟨?_, .dat (tupI a), s5, ?_⟩
          · have b3 := List.length_filter_le (fun c => !a.contains c) (nn n)
            rw [nn_len] at b3
            rw [List.length_map, List.length_map]
            omega
          · rw [List.take_add_one, ha]
            show _ = [_, _, _, Slot.own (List.map _ (List.flatMap _ (_ ++ [a]))), _, _]
            rw [List.flatMap_append, List.map_append, List.flatMap_singleton, List.map_map]
            rfl
      · rintro ⟨s4, s5, rfl⟩
        rw [List.length_map, List.take_length]
        refine s_pub (i := 3) rfl (s_asg (e_var rfl ⟨by omega, _, _, _, _, rfl⟩))
    · rintro ⟨_, s2, s3, s4, s5, rfl⟩
      rw [rng_len, Int.toNat_natCast]
      repeat' walk_at "wp"
      exact q
⟩
theorem has__law_orders (D : Dn K mg "_law_orders" s__law_orders) (tx : Tx K mg) : Has P w K mg base "_law_orders" ["_law_many_here"] 1 (SpF K pre__law_orders) := has_of D (fun _ _ _ _ _ _ us hl => match us, hl with | [_], _ => rfl) (ok__law_orders tx)

theorem ok__law_is_sequence (tx : Tx K mg) (h__law_is_close : Has P w K mg base "_law_is_close" ["_law_model_here", "_law_some"] 2 (SpF K pre__law_is_close)) (h__law_are_tied : Has P w K mg base "_law_are_tied" ["_law_model_here", "_law_one", "_law_other"] 1 (SpF K pre__law_are_tied)) : ∀ f fd, FnP K "_law_is_sequence" s__law_is_sequence f fd → FnOk P w K mg base CX0 3 f fd ["_law_model_here", "_law_row"] (SpF K pre__law_is_sequence) := fun f fd F =>
  F.ok sc__law_is_sequence (fun vs H Q E s => lenF (fun ds Φ h => by
    obtain ⟨_, _, _, _, rfl, _⟩ := h; rfl) s) fun cdv A outer s H vs Q E hr h => ⟨_, PSs.nox (pss_cons (ps_for PassesOwn.never rfl (FwE.pi_enumT (by rfl) tx.enumerate (pa_cons (pv 1) pa_nil)) (pg_tup (by rfl) (pgs_cons (pg_name (i := 2) sc__law_is_sequence.nd rfl (.inl rfl)) (pgs_cons (pg_name (i := 3) sc__law_is_sequence.nd rfl (.inr rfl)) pgs_nil))) (pss_one (ps_if (pt_not (pt_val (pe_callH h__law_is_close (hr.mono (by decide)) (by rfl) (pa_cons (pv 0) (pa_cons (pe_lc (own := [("_law_other", 4)]) (g := gName 4) (by rfl) sc__law_is_sequence.nd (pi_tup (pe_slice sl_tupA (pv 1) (po_some (pe_op op_add (pv 2) pe_int)) po_none)) (blkOk_by (N := N__law_is_sequence) (sc := defScope s__law_is_sequence) (by decide +kernel)) (fun _ _ _ _ _ => (pg_name (i := 4) sc__law_is_sequence.nd rfl (by first | exact Or.inl rfl | exact Or.inr rfl))) (fun _ _ _ _ _ => (pts_one (pt_val (pe_callH h__law_are_tied (hr.mono (by decide)) (by rfl) (pa_cons (pv 0) (pa_cons (pv 3) (pa_cons (pv 4) pa_nil))))))) (fun _ _ _ _ _ => (pv 4))) pa_nil))))) (pss_one (ps_ret pe_bl)) pss_nil)))
    (pss_one (ps_ret pe_bl))),
  bodyF h fun ds Φ hp => by
    obtain ⟨nm, tl, n, ns, rfl, r, hl, hn, q⟩ := hp
    have r4 := r.four
    refine s_seq (s_for (js := [2] ++ ([3] ++ [])) (i_enumT_ (a_cons (e_var rfl (a_nil ⟨_, rfl, ?_⟩)))))
    rw [enum_ints]
    refine ⟨fun i e => ∃ s2 s3 s4, e = [.dat (modelD nm tl), .dat (tupI ns), s2, s3, s4] ∧ ∀ a, a < i → closeO (mat n tl) ((ns.drop (a + 1)).filter fun o => tM (mat n tl) (at_ ns a) o) = true, ⟨_, _, _, rfl, fun a ha => absurd ha (Nat.not_lt_zero _)⟩, fun i y e hy => ?_, fun e => ?_⟩
    · rintro ⟨s2, s3, s4, rfl, inv⟩
      rw [List.getElem?_map] at hy
      obtain ⟨j, hj, rfl⟩ := Option.map_eq_some_iff.mp hy
      have hi : i < ns.length := by
        have := (List.getElem?_eq_some_iff.mp hj).1
        rwa [List.length_range] at this
      rw [List.getElem?_range hi] at hj
      cases hj
      refine g_tup_ [_, _] rfl rfl (g_cons (g_name (g_cons (g_name (g_nil ?_)))))
      have hin := at_in hi hn
      refine s_if (t_not (t_test (e_call ?_)))
      have dr : cutD (ns.map PyData.int) (some ((i : Int) + 1)) none = (ns.drop (i + 1)).map .int := by
        rw [cut_from (by omega), List.map_drop]
        congr 1
      refine a_cons (e_var rfl (a_cons (e_flt (α := Int) (js := [4]) .int (fun o => tM (mat n tl) (at_ ns i) o) .int (i_tup_ (e_slT_ (e_var rfl ?_))))))
      repeat' walk_at "wp"
      rw [dr]
      refine ⟨ns.drop (i + 1), rfl, by rw [List.length_drop]; omega, fun o ho => g_name ?_, ?_⟩
      · have ho2 := hn o (List.mem_of_mem_drop ho)
        repeat' walk_at "wp"
        refine ⟨nm, tl, n, at_ ns i, o, rfl, r, hin, ho2, _, rfl, rfl, fun _ => ?_⟩
        repeat' walk_at "wp"
        rfl
      · refine a_nil ⟨nm, tl, n, _, _, rfl, .inl rfl, r, ?_, fun c hc => hn c (List.mem_of_mem_drop (List.mem_filter.mp hc).1), _, rfl, ?_⟩
        · have h1 := List.length_filter_le (fun o => tM (mat n tl) (at_ ns i) o) (ns.drop (i + 1))
          rw [List.length_drop] at h1
          omega
        refine iteB (fun e => ?_) (fun e => ?_)
        · repeat' walk_at "wp"
          have e2 : isSeqO (mat n tl) ns = false := by
            cases hz : isSeqO (mat n tl) ns with
            | false => rfl
            | true =>
              unfold isSeqO at hz
              have h5 := List.all_eq_true.mp hz i (List.mem_range.mpr hi)
              rw [h5] at e
              cases e
          rw [e2] at q
          exact q
        · repeat' walk_at "wp"
          intro a ha
          by_cases h3 : a < i
          · exact inv a h3
          · have h4 : a = i := by omega
            subst h4
            rw [Bool.not_eq_false'] at e
            exact e
    · rintro ⟨s2, s3, s4, rfl, inv⟩
      rw [List.length_map, List.length_range] at inv
      repeat' walk_at "wp"
      have e : isSeqO (mat n tl) ns = true := by
        unfold isSeqO
        rw [List.all_eq_true]
        intro a ha
        exact inv a (List.mem_range.mp ha)
      rw [e] at q
      exact q
⟩
theorem has__law_is_sequence (D : Dn K mg "_law_is_sequence" s__law_is_sequence) (tx : Tx K mg) (h__law_is_close : Has P w K mg base "_law_is_close" ["_law_model_here", "_law_some"] 2 (SpF K pre__law_is_close)) (h__law_are_tied : Has P w K mg base "_law_are_tied" ["_law_model_here", "_law_one", "_law_other"] 1 (SpF K pre__law_are_tied)) : Has P w K mg base "_law_is_sequence" ["_law_model_here", "_law_row"] 3 (SpF K pre__law_is_sequence) := has_of D (fun _ _ _ _ _ _ us hl => match us, hl with | [_, _], _ => rfl) (ok__law_is_sequence tx h__law_is_close h__law_are_tied)

theorem ok__law_sequence (tx : Tx K mg) (h__law_orders : Has P w K mg base "_law_orders" ["_law_many_here"] 1 (SpF K pre__law_orders)) (h__law_is_sequence : Has P w K mg base "_law_is_sequence" ["_law_model_here", "_law_row"] 3 (SpF K pre__law_is_sequence)) (h__law_many : Has P w K mg base "_law_many" ["_law_model_here"] 1 (SpF K pre__law_many)) : ∀ f fd, FnP K "_law_sequence" s__law_sequence f fd → FnOk P w K mg base CX0 4 f fd ["_law_model_here"] (SpF K pre__law_sequence) := fun f fd F =>
  F.ok sc__law_sequence (fun vs H Q E s => lenF (fun ds Φ h => by
    obtain ⟨_, _, _, rfl, _⟩ := h; rfl) s) fun cdv A outer s H vs Q E hr h => ⟨_, PSs.nox (pss_cons (ps_setLc (i := 1)  (own := [("_law_row", 2)]) (g := gName 2) (by rfl) sc__law_sequence.nd rfl rfl (sw_true rfl rfl rfl (by decide +kernel)) (pi_list (pe_callH h__law_orders (hr.mono (by decide)) (by rfl) (pa_cons (pe_callH h__law_many (hr.mono (by decide)) (by rfl) (pa_cons (pv 0) pa_nil)) pa_nil))) (blkOk_by (N := N__law_sequence) (sc := defScope s__law_sequence) (by decide +kernel)) (fun _ _ _ _ _ => (pg_name (i := 2) sc__law_sequence.nd rfl (by first | exact Or.inl rfl | exact Or.inr rfl))) (fun _ _ _ _ _ => (pts_one (pt_val (pe_callH h__law_is_sequence (hr.mono (by decide)) (by rfl) (pa_cons (pv 0) (pa_cons (pv 2) pa_nil)))))) (fun _ _ _ _ _ => (pv 2)))
    (pss_one (ps_ret (pe_ifExp (pt_cmpR (op_neD (hu64 hr)) (pv 1) (pe_lst pa_nil) (nomark _)) (pe_callB (id := "min") (FwSJ.cr_minD (hu64 hr) rfl) (by rfl) tx.min (by decide +kernel) (pa_cons (pv 1) pa_nil)) pe_non)))),
  bodyF h fun ds Φ hp => by
    obtain ⟨nm, tl, n, rfl, r, q⟩ := hp
    have r1 := r.one
    have r4 := r.four
    have oo := ordO_ok r4 (Nat.le_refl n)
    refine s_seq (s_asg (e_flt (α := List Int) (js := [2]) (fun m => tupI m) (isSeqO (mat n tl)) (fun m => tupI m) (i_list_ ?_)))
    repeat' walk_at "wp"
    refine ⟨nm, tl, n, rfl, r, ?_⟩
    repeat' walk_at "wp"
    refine ⟨fun m hm => g_name ?_, ?_⟩
    · have h2 := oo.2 m hm
      repeat' walk_at "wp"
      refine ⟨nm, tl, n, m, rfl, r, by omega, h2.2, _, rfl, rfl, fun _ => ?_⟩
      repeat' walk_at "wp"
      rfl
    · have q2 := q
      unfold seqO at q2
      cases hf : (ordO n n).filter (isSeqO (mat n tl)) with
      | nil =>
        rw [hf] at q2
        refine s_ret (e_if (t_test (e_op (e_var rfl (e_lst (a_nil ⟨by decide, od_neD_ (sh_rowsL []) (sh_rowsL []) ⟨_, rfl, ?_⟩⟩))))))
        refine iteF' rfl ?_
        repeat' walk_at "wp"
        exact q2
      | cons m ms =>
        rw [hf] at q2
        refine s_ret (e_if (t_test (e_op (e_var rfl (e_lst (a_nil ⟨by decide, od_neD_ (sh_rowsL (m :: ms)) (sh_rowsL []) ⟨_, rfl, ?_⟩⟩))))))
        rw [ne_nil_rows]
        refine iteT' rfl ?_
        refine e_cb (a_cons (e_var rfl (a_nil (cb_minD (d := tupI m) (ds := ms.map fun m => tupI m) ?_ ?_ ?_ ?_))))
        · exact ⟨FwN.alike_rows (m :: ms), fun d hd => by obtain ⟨m2, _, rfl⟩ := List.mem_map.mp (show d ∈ (m :: ms).map (fun m => tupI m) from hd); exact fun z => nomatch z⟩
        · have := depth_rows (m :: ms)
          exact Nat.le_trans this (by decide)
        · exact FwN.noDict_rows (m :: ms)
        · rw [minD_rows]
          exact q2
⟩
theorem has__law_sequence (D : Dn K mg "_law_sequence" s__law_sequence) (tx : Tx K mg) (h__law_orders : Has P w K mg base "_law_orders" ["_law_many_here"] 1 (SpF K pre__law_orders)) (h__law_is_sequence : Has P w K mg base "_law_is_sequence" ["_law_model_here", "_law_row"] 3 (SpF K pre__law_is_sequence)) (h__law_many : Has P w K mg base "_law_many" ["_law_model_here"] 1 (SpF K pre__law_many)) : Has P w K mg base "_law_sequence" ["_law_model_here"] 4 (SpF K pre__law_sequence) := has_of D (fun _ _ _ _ _ _ us hl => match us, hl with | [_], _ => rfl) (ok__law_sequence tx h__law_orders h__law_is_sequence h__law_many)

theorem ok__law_is_hole (tx : Tx K mg) (h__law_are_tied : Has P w K mg base "_law_are_tied" ["_law_model_here", "_law_one", "_law_other"] 1 (SpF K pre__law_are_tied)) : ∀ f fd, FnP K "_law_is_hole" s__law_is_hole f fd → FnOk P w K mg base CX0 2 f fd ["_law_model_here", "_law_row"] (SpF K pre__law_is_hole) := fun f fd F =>
  F.ok sc__law_is_hole (fun vs H Q E s => lenF (fun ds Φ h => by
    obtain ⟨_, _, _, _, rfl, _⟩ := h; rfl) s) fun cdv A outer s H vs Q E hr h => ⟨_, PSs.nox (pss_cons (ps_set (i := 2) sc__law_is_hole.nd rfl (.inl rfl) (pe_callB (id := "len") call_len_seq (by rfl) tx.len (by decide +kernel) (pa_cons (pv 1) pa_nil)))
    (pss_cons (ps_if (PW.pt (pw_or (pt_cmpR op_lt (pv 2) pe_int (nomark _)) (pw_or1 (pt_cmpR op_ne (FwSI.pe_lenSetT (by rfl) (by rfl) tx.len (by rfl) tx.set (pv 1)) (pv 2) (nomark _))))) (pss_one (ps_ret pe_bl)) pss_nil)
    (pss_cons (ps_for PassesOwn.never rfl (pi_range1 (by rfl) tx.range (pa_cons (pv 2) pa_nil)) (pg_name (i := 3) sc__law_is_hole.nd rfl (.inl rfl)) (pss_one (ps_for PassesOwn.never rfl (pi_range2 (by rfl) tx.range (pa_cons (pe_op op_add (pv 3) pe_int) (pa_cons (pv 2) pa_nil))) (pg_name (i := 4) sc__law_is_hole.nd rfl (.inl rfl)) (pss_cons (ps_set (i := 5) sc__law_is_hole.nd rfl (.inl rfl) (pe_or (pe_cmpR op_eq (pv 4) (pe_op op_add (pv 3) pe_int) (nomark _)) (pe_one (pe_cmpR (op_eqD (hu64 hr)) (pe_tup (pa_cons (pv 3) (pa_cons (pv 4) pa_nil))) (pe_tup (pa_cons pe_int (pa_cons (pe_op op_sub (pv 2) pe_int) pa_nil))) (nomark _)))))
    (pss_one (ps_if (pt_cmpR op_ne (pe_callH h__law_are_tied (hr.mono (by decide)) (by rfl) (pa_cons (pv 0) (pa_cons (pe_ix ix_tup (pv 1) (pv 3) (fun _ _ => rfl)) (pa_cons (pe_ix ix_tup (pv 1) (pv 4) (fun _ _ => rfl)) pa_nil)))) (pv 5) (nomark _)) (pss_one (ps_ret pe_bl)) pss_nil))))))
    (pss_one (ps_ret pe_bl))))),
  bodyF h fun ds Φ hp => by
    obtain ⟨nm, tl, n, ns, rfl, r, hl, nd, hn, q⟩ := hp
    refine s_seq (s_asg (e_cb (a_cons (e_var rfl (a_nil (cb_len_ (.inl rfl) ?_))))))
    rw [List.length_map]
    refine s_seq (s_if (t_or (t_test (e_op (e_var rfl (e_int ?_))))))
    repeat' walk_at "wp"
    refine iteP (fun h => ?_) (fun h => ?_)
    · repeat' walk_at "wp"
      have e : isHoleO (mat n tl) ns = false := by
        unfold isHoleO
        rw [decide_eq_false (by omega), Bool.false_and]
      rw [e] at q
      exact q
    refine t_test (e_op (e_lenSetT (e_var rfl ⟨ns, rfl, nd, by omega, e_var rfl ?_⟩)))
    repeat' walk_at "wp"
    refine s_for (js := [3]) (i_rng1 (a_cons (e_var rfl (a_nil ⟨_, rfl, by omega, by omega, fun i e => ∃ s3 s4 s5, e = [.dat (modelD nm tl), .dat (tupI ns), .dat (.int (ns.length : Nat)), s3, s4, s5] ∧ ∀ a, a < i → ∀ b, a + 1 + b < ns.length → chkO (mat n tl) ns a b = true, ⟨_, _, _, rfl, fun a ha => absurd ha (Nat.not_lt_zero _)⟩, fun i x e hx => ?_, fun e => ?_⟩))))
    · rintro ⟨s3, s4, s5, rfl, inv⟩
      have hi : i < ns.length := by
        have := (List.getElem?_eq_some_iff.mp hx).1
        rw [rng_len] at this
        omega
      have hx2 : x = .int (i : Nat) := by
        rw [rng_get (by omega)] at hx
        rw [← Option.some.inj hx]
        simp
      subst hx2
      refine g_name (s_for (js := [4]) (i_rng2 ?_))
      repeat' walk_at "wp"
      refine ⟨fun j e => ∃ s4 s5, e = [.dat (modelD nm tl), .dat (tupI ns), .dat (.int (ns.length : Nat)), .dat (.int (i : Nat)), s4, s5] ∧ ∀ b, b < j → chkO (mat n tl) ns i b = true, ⟨_, _, rfl, fun a ha => absurd ha (Nat.not_lt_zero _)⟩, fun j y e hy => ?_, fun e => ?_⟩
      · rintro ⟨s4, s5, rfl, inv2⟩
        have hj : i + 1 + j < ns.length := by
          have := (List.getElem?_eq_some_iff.mp hy).1
          rw [rng_len] at this
          omega
        have hy2 : y = .int ((i + 1 + j : Nat) : Int) := by
          rw [rng_get (by omega)] at hy
          rw [← Option.some.inj hy]
          congr 1
        subst hy2
        refine g_name ?_
        refine s_seq (s_cut (fun e => e = [.dat (modelD nm tl), .dat (tupI ns), .dat (.int (ns.length : Nat)), .dat (.int (i : Nat)), .dat (.int ((i + 1 + j : Nat) : Int)), .dat (.bool (decide (j = 0) || (decide (i = 0) && decide (i + 1 + j = ns.length - 1))))]) (s_asg (e_orV ?_)) ?_)
        · repeat' walk_at "wp"
          refine iteP (fun h5 => ?_) (fun h5 => ?_)
          · have h6 : decide (j = 0) = true := decide_eq_true (by omega)
            rw [h6]
            rfl
          · have h6 : decide (j = 0) = false := decide_eq_false (by omega)
            rw [h6, Bool.false_or]
            repeat' walk_at "wp"
            refine od_eqD_ (sh_row [(i : Int), ((i + 1 + j : Nat) : Int)]) (sh_row [0, (ns.length : Int) - 1]) ?_
            rw [show PyData.eqv (.tuple [.int (i : Int), .int ((i + 1 + j : Nat) : Int)]) (.tuple [.int 0, .int ((ns.length : Int) - 1)]) = (decide (i = 0) && decide (i + 1 + j = ns.length - 1)) from (FwN.eqv_row [(i : Int), ((i + 1 + j : Nat) : Int)] [0, (ns.length : Int) - 1]).trans (by
              rw [Bool.eq_iff_iff]
              simp only [List.cons.injEq, and_true, decide_eq_true_eq, Bool.and_eq_true]
              omega)]
            rfl
        rintro e rfl
        repeat' walk_at "wp"
        refine od_ixT_ (FwN.at_nat (j := i) (by rw [List.length_map]; omega)) ?_
        repeat' walk_at "wp"
        refine od_ixT_ (FwN.at_nat (j := i + 1 + j) (by rw [List.length_map]; omega)) ?_
        repeat' walk_at "wp"
        refine ⟨nm, tl, n, at_ ns i, at_ ns (i + 1 + j), by rw [at_map hi, at_map (by omega)], r, at_in hi hn, at_in (by omega) hn, ?_⟩
        repeat' walk_at "wp"
        refine FwWd.od_neB ⟨_, rfl, ?_⟩
        refine iteB (fun e => ?_) (fun e => ?_)
        · repeat' walk_at "wp"
          have e2 : chkO (mat n tl) ns i j = false := by
            unfold chkO
            rw [Bool.not_eq_true', decide_eq_false_iff_not] at e
            exact beq_eq_false_iff_ne.mpr e
          have e3 : isHoleO (mat n tl) ns = false := by
            cases hz : isHoleO (mat n tl) ns with
            | false => rfl
            | true =>
              unfold isHoleO at hz
              rw [Bool.and_eq_true] at hz
              have h5 := List.all_eq_true.mp (List.all_eq_true.mp hz.2 i (List.mem_range.mpr hi)) j (List.mem_range.mpr (by omega))
              unfold chkO at e2
              rw [h5] at e2
              cases e2
          rw [e3] at q
          exact q
        · repeat' walk_at "wp"
          intro b hb
          by_cases h3 : b < j
          · exact inv2 b h3
          · have h4 : b = j := by omega
            subst h4
            unfold chkO
            rw [Bool.not_eq_false', decide_eq_true_eq] at e
            rw [e]
            exact beq_self_eq_true _
      · rintro ⟨s4, s5, rfl, inv2⟩
        rw [rng_len] at inv2
        refine ⟨_, _, _, rfl, fun a ha b hb => ?_⟩
        by_cases h3 : a < i
        · exact inv a h3 b hb
        · have h4 : a = i := by omega
          subst h4
          exact inv2 b (by omega)
    · rintro ⟨s3, s4, s5, rfl, inv⟩
      rw [rng_len] at inv
      repeat' walk_at "wp"
      have e : isHoleO (mat n tl) ns = true := by
        unfold isHoleO
        rw [decide_eq_true (by omega), Bool.true_and, List.all_eq_true]
        intro a ha
        rw [List.all_eq_true]
        intro b hb
        have h1 := List.mem_range.mp ha
        have h2 := List.mem_range.mp hb
        exact inv a (by omega) b (by omega)
      rw [e] at q
      exact q
⟩
theorem has__law_is_hole (D : Dn K mg "_law_is_hole" s__law_is_hole) (tx : Tx K mg) (h__law_are_tied : Has P w K mg base "_law_are_tied" ["_law_model_here", "_law_one", "_law_other"] 1 (SpF K pre__law_are_tied)) : Has P w K mg base "_law_is_hole" ["_law_model_here", "_law_row"] 2 (SpF K pre__law_is_hole) := has_of D (fun _ _ _ _ _ _ us hl => match us, hl with | [_, _], _ => rfl) (ok__law_is_hole tx h__law_are_tied)

theorem ok__law_web_right (tx : Tx K mg) (h__law_many : Has P w K mg base "_law_many" ["_law_model_here"] 1 (SpF K pre__law_many)) (h_web_of : Has P w K mg base "web_of" ["model"] 9 (SpN K pre_web_of)) (h__law_pick : Has P w K mg base "_law_pick" ["_law_pot_here", "_law_some"] 2 (SpG K pre__law_pick)) (h__law_subsets : Has P w K mg base "_law_subsets" ["_law_many_here"] 1 (SpF K pre__law_subsets)) (h__law_greatest : Has P w K mg base "_law_greatest" ["_law_model_here"] 3 (SpF K pre__law_greatest)) (h__law_are_tied : Has P w K mg base "_law_are_tied" ["_law_model_here", "_law_one", "_law_other"] 1 (SpF K pre__law_are_tied)) (h_is_close : Has P w K mg base "is_close" ["model", "names"] 9 (SpF K pre_is_close)) (h_is_fitted : Has P w K mg base "is_fitted" ["model"] 9 (SpF K pre_is_fitted)) (h__law_is_fitted : Has P w K mg base "_law_is_fitted" ["_law_model_here"] 4 (SpF K pre__law_is_fitted)) (h_friends : Has P w K mg base "friends" ["model", "position"] 9 (SpF K pre_friends)) (h__law_is_close : Has P w K mg base "_law_is_close" ["_law_model_here", "_law_some"] 2 (SpF K pre__law_is_close)) (hk_web_of : HasK P w K mg base "web_of" ["model"] ["model"] 9 (SpN K pre_web_of) (onlyK same1)) (hk_greatest : HasK P w K mg base "greatest" ["model"] ["model"] 9 (SpF K pre_greatest) (onlyK same1)) (hk_is_close : HasK P w K mg base "is_close" ["model", "names"] ["names", "model"] 9 (SpF K pre_is_close) (onlyK swap2)) (hk_friends : HasK P w K mg base "friends" ["model", "position"] ["position", "model"] 9 (SpF K pre_friends) (onlyK swap2)) : ∀ f fd, FnP K "_law_web_right" s__law_web_right f fd → FwG.FnG P w K mg base CX0 10 f fd ["_law_pot_here", "_law_model_here"] (SpG K pre__law_web_right) := fun f fd F =>
  FwG.okG F sc__law_web_right (fun vs H Q E s => lenG (fun ds Φ h => by
    obtain ⟨_, _, _, rfl, _⟩ := h; rfl) s) fun cdv A outer s H vs Q E gA hr h => ⟨_, PSs.nox (pss_cons (ps_set (i := 2) sc__law_web_right.nd rfl (.inl rfl) (pe_callH h__law_many (hr.mono (by decide)) (by rfl) (pa_cons (pv 1) pa_nil)))
    (pss_cons (ps_set (i := 3) sc__law_web_right.nd rfl (.inl rfl) (pe_lst pa_nil))
    (pss_cons (ps_for PassesOwn.never rfl (pi_range1 (by rfl) tx.range (pa_cons (pv 2) pa_nil)) (pg_name (i := 4) sc__law_web_right.nd rfl (.inr rfl)) (pss_one (ps_expr (pe_bm PySem.F.plainAttrs_list PySem.F.slot_list_extend PySem.F.type_list_extend mt_extend (pv 3) (pa_cons (pe_lc (own := [("_law_other", 9)]) (g := gName 9) (by rfl) sc__law_web_right.nd (pi_range2 (by rfl) tx.range (pa_cons (pe_op op_add (pv 4) pe_int) (pa_cons (pv 2) pa_nil))) (blkOk_by (N := N__law_web_right) (sc := defScope s__law_web_right) (by decide +kernel)) (fun _ _ _ _ _ => (pg_name (i := 9) sc__law_web_right.nd rfl (by first | exact Or.inl rfl | exact Or.inr rfl))) (fun _ _ _ _ _ => (pts_one (pt_val (pe_callH h__law_are_tied (hr.mono (by decide)) (by rfl) (pa_cons (pv 1) (pa_cons (pv 4) (pa_cons (pv 9) pa_nil))))))) (fun _ _ _ _ _ => (pe_tup (pa_cons (pv 4) (pa_cons (pv 9) pa_nil))))) pa_nil)))))
    (pss_cons (ps_set (i := 5) sc__law_web_right.nd rfl (.inl rfl) (pe_callH h_web_of (hr.mono (by decide)) (by rfl) (pa_cons (pv 1) pa_nil)))
    (pss_cons (ps_if (PW.pt (pw_or (pt_cmpR op_ne (pe_callB (id := "repr") (Fw.call_reprA gA (hu61 hr)) (by rfl) tx.repr (by decide +kernel) (pa_cons (pv 5) pa_nil)) (pe_callB (id := "repr") (Fw.call_reprA gA (hu61 hr)) (by rfl) tx.repr (by decide +kernel) (pa_cons (pv 3) pa_nil)) (nomark _)) (pw_or1 (pt_cmpR op_ne (pe_callB (id := "repr") (Fw.call_reprA gA (hu61 hr)) (by rfl) tx.repr (by decide +kernel) (pa_cons (pe_callHK hk_greatest (hr.mono (by decide)) (by rfl) (pk_cons (pv 1) pk_nil)) pa_nil)) (pe_callB (id := "repr") (Fw.call_reprA gA (hu61 hr)) (by rfl) tx.repr (by decide +kernel) (pa_cons (pe_callH h__law_greatest (hr.mono (by decide)) (by rfl) (pa_cons (pv 1) pa_nil)) pa_nil)) (nomark _))))) (pss_one (ps_ret pe_bl)) pss_nil)
    (pss_cons (ps_for PassesOwn.never rfl (pi_range1 (by rfl) tx.range (pa_cons (pv 2) pa_nil)) (pg_name (i := 4) sc__law_web_right.nd rfl (.inr rfl)) (pss_cons (ps_setLc (i := 6)  (own := [("_law_other", 9)]) (g := gName 9) (by rfl) sc__law_web_right.nd rfl rfl (sw_true rfl rfl rfl (by decide +kernel)) (pi_range1 (by rfl) tx.range (pa_cons (pv 2) pa_nil)) (blkOk_by (N := N__law_web_right) (sc := defScope s__law_web_right) (by decide +kernel)) (fun _ _ _ _ _ => (pg_name (i := 9) sc__law_web_right.nd rfl (by first | exact Or.inl rfl | exact Or.inr rfl))) (fun _ _ _ _ _ => (pts_one (pt_val (pe_callH h__law_are_tied (hr.mono (by decide)) (by rfl) (pa_cons (pv 1) (pa_cons (pv 4) (pa_cons (pv 9) pa_nil))))))) (fun _ _ _ _ _ => (pv 9)))
    (pss_one (ps_if (pt_cmpR op_ne (pe_callB (id := "repr") (Fw.call_reprA gA (hu61 hr)) (by rfl) tx.repr (by decide +kernel) (pa_cons (pe_lst (pa_cons (pe_callH h_friends (hr.mono (by decide)) (by rfl) (pa_cons (pv 1) (pa_cons (pv 4) pa_nil))) (pa_cons (pe_callHK hk_friends (hr.mono (by decide)) (by rfl) (pk_cons (pv 4) (pk_cons (pv 1) pk_nil))) pa_nil))) pa_nil)) (pe_callB (id := "repr") (Fw.call_reprA gA (hu61 hr)) (by rfl) tx.repr (by decide +kernel) (pa_cons (pe_lst (pa_cons (pv 6) (pa_cons (pv 6) pa_nil))) pa_nil)) (nomark _)) (pss_one (ps_ret pe_bl)) pss_nil))))
    (pss_cons (ps_set (i := 7) sc__law_web_right.nd rfl (.inl rfl) (pe_callH h__law_pick (hr.mono (by decide)) (by rfl) (pa_cons (pv 0) (pa_cons (pe_callH h__law_subsets (hr.mono (by decide)) (by rfl) (pa_cons (pv 2) pa_nil)) pa_nil))))
    (pss_cons (ps_set (i := 8) sc__law_web_right.nd rfl (.inl rfl) (pe_revL (pe_callTy call_list_of (by rfl) tx.list (by decide +kernel) (pa_cons (pv 7) pa_nil))))
    (pss_cons (ps_if (pt_cmpR op_ne (pe_callB (id := "repr") (Fw.call_reprA gA (hu61 hr)) (by rfl) tx.repr (by decide +kernel) (pa_cons (pe_lst (pa_cons (pe_callH h_is_close (hr.mono (by decide)) (by rfl) (pa_cons (pv 1) (pa_cons (pv 7) pa_nil))) (pa_cons (pe_callHK hk_is_close (hr.mono (by decide)) (by rfl) (pk_cons (pv 8) (pk_cons (pv 1) pk_nil))) pa_nil))) pa_nil)) (pe_callB (id := "repr") (Fw.call_reprA gA (hu61 hr)) (by rfl) tx.repr (by decide +kernel) (pa_cons (pe_op op_rep (pe_lst (pa_cons (pe_callH h__law_is_close (hr.mono (by decide)) (by rfl) (pa_cons (pv 1) (pa_cons (pv 7) pa_nil))) pa_nil)) pe_int) pa_nil)) (nomark _)) (pss_one (ps_ret pe_bl)) pss_nil)
    (pss_cons (ps_expr (pe_bm PySem.F.plainAttrs_list PySem.F.slot_list_append PySem.F.type_list_append mt_append (pv 5) (pa_cons pe_non pa_nil)))
    (pss_one (ps_ret (pe_and (pe_cmpR (op_eqD (hu64 hr)) (pe_callHK hk_web_of (hr.mono (by decide)) (by rfl) (pk_cons (pv 1) pk_nil)) (pv 3) (nomark _)) (pe_one (pe_cmpR op_eq (pe_callB (id := "repr") (Fw.call_reprA gA (hu61 hr)) (by rfl) tx.repr (by decide +kernel) (pa_cons (pe_callH h_is_fitted (hr.mono (by decide)) (by rfl) (pa_cons (pv 1) pa_nil)) pa_nil)) (pe_callB (id := "repr") (Fw.call_reprA gA (hu61 hr)) (by rfl) tx.repr (by decide +kernel) (pa_cons (pe_callH h__law_is_fitted (hr.mono (by decide)) (by rfl) (pa_cons (pv 1) pa_nil)) pa_nil)) (nomark _)))))))))))))))),
  bodyG h fun q ds Φ hp => by
    obtain ⟨nm, tl, n, rfl, r, q⟩ := hp
    have r1 := r.one
    have r4 := r.four
    have F := same_f (same_mat tl r1 r4)
    have sl := subS_len n r4
    have so := subS_ok n r4
    generalize hM : mat n tl = M at F
    have tw : Tm (rowsL (webO M n)) 2 48 := tm_rows (n := 2) (N := 16) (fun m hm => web_tm r4 m hm) (web_len M r4)
    have tg : Tm (rowsL (greatO M n)) 2 100 := (tm_rows (n := 4) (N := 16) (fun m hm => by have h2 := so m (great_mem hm); exact ⟨fun c hc => by have := h2.2.2.2 c hc; omega, h2.1⟩) (Nat.le_trans (great_len2 M n) sl)).mono (Nat.le_refl _) (by decide)
    repeat' walk_at "wp"
    refine ⟨nm, tl, n, rfl, r, ?_⟩
    refine s_seq (s_own (a_nil ⟨by decide, ?_⟩))
    refine s_seq (s_cut (fun e => ∃ s4 s9 : Slot, e = [.pot, .dat (modelD nm tl), .dat (.int n), .own ((webO M n).map fun m => tupI m), s4, .no, .no, .no, .no, s9]) (s_for (js := [4]) (i_rng1 (a_cons (e_var rfl (a_nil ⟨_, rfl, by omega, by omega, fun i e => ∃ s4 s9 : Slot, e = [.pot, .dat (modelD nm tl), .dat (.int n), .own ((dueO M n i).map fun m => tupI m), s4, .no, .no, .no, .no, s9], ⟨_, _, rfl⟩, fun i x e hx => ?_, fun e => ?_⟩))))) ?_)
    · rintro ⟨s4, s9, rfl⟩
      have hi : i < n := by
        have := (List.getElem?_eq_some_iff.mp hx).1
        rw [rng_len] at this
        omega
      have hx2 : x = .int (i : Nat) := by
        rw [rng_get (by omega)] at hx
        rw [← Option.some.inj hx]
        simp
      subst hx2
      have dl := due_len M n i r4 hi
      refine g_name (s_ext (i := 3) rfl (f_flt (α := Int) (js := [9]) .int (fun b => tM M (i : Int) b) (fun b => tupI [(i : Int), b]) (i_rng2 ?_)))
      repeat' walk_at "wp"
      refine ⟨above n i, rng_above n i hi, by rw [above_len]; omega, fun b hb => g_name ?_, ?_⟩
      · have hb2 := above_in hb
        repeat' walk_at "wp"
        refine ⟨nm, tl, n, (i : Int), b, rfl, r, ⟨by omega, by omega⟩, hb2, ?_⟩
        rw [hM]
        refine ⟨_, rfl, rfl, fun _ => ?_⟩
        repeat' walk_at "wp"
        rfl
      · refine ⟨?_, .dat (.int (i : Nat)), s9, ?_⟩
        · have b3 := List.length_filter_le (fun b => tM M (i : Int) b) (above n i)
          rw [above_len] at b3
          rw [List.length_map, List.length_map]
          omega
        · rw [due_step M n i r4 hi, List.map_append, List.map_map]
          rfl
    · rintro ⟨s4, s9, rfl⟩
      rw [rng_len]
      exact ⟨s4, s9, by rw [show ((n : Int)).toNat = n from by omega, due_all]⟩
    rintro e ⟨s4, s9, rfl⟩
    refine s_seq (s_cut (fun e => e = [.pot, .dat (modelD nm tl), .dat (.int n), .own ((webO M n).map fun m => tupI m), s4, .own ((webO M n).map fun m => tupI m), .no, .no, .no, s9]) (s_ownF (f_call (a_cons (e_var rfl (a_nil ⟨nm, tl, n, rfl, r, ?_⟩))))) ?_)
    · rw [hM, F.web]
      rfl
    rintro e rfl
    refine s_seq (s_cut (fun e => e = [.pot, .dat (modelD nm tl), .dat (.int n), .own ((webO M n).map fun m => tupI m), s4, .own ((webO M n).map fun m => tupI m), .no, .no, .no, s9]) (s_if ?_) ?_)
    · refine t_own (i := 3) rfl (t_own (i := 5) rfl ?_)
      refine t_or (t_test (e_op (e_cb (a_cons (e_var rfl ?_)))))
      refine a_nil (cb_reprA (.inl tw.nd) tw.sh (Nat.le_trans tw.dp (by decide)) (tw.fits (by decide)) ?_)
      refine e_cb (a_cons (e_var rfl ?_))
      refine a_nil (cb_reprA (.inl tw.nd) tw.sh (Nat.le_trans tw.dp (by decide)) (tw.fits (by decide)) ?_)
      repeat' walk_at "wp"
      refine iteND rfl ?_
      repeat' walk_at "wp"
      refine ⟨nm, tl, n, rfl, r, ?_⟩
      rw [hM, F.great]
      refine a_nil (cb_reprA (.inl tg.nd) tg.sh (Nat.le_trans tg.dp (by decide)) (tg.fits (by decide)) ?_)
      repeat' walk_at "wp"
      refine ⟨nm, tl, n, rfl, r, ?_⟩
      rw [hM]
      refine a_nil (cb_reprA (.inl tg.nd) tg.sh (Nat.le_trans tg.dp (by decide)) (tg.fits (by decide)) ?_)
      repeat' walk_at "wp"
      refine iteND rfl ?_
      exact s_next rfl
    rintro e rfl
    refine s_seq (s_cut (fun e => ∃ s4 s6 s9 : Slot, e = [.pot, .dat (modelD nm tl), .dat (.int n), .own ((webO M n).map fun m => tupI m), s4, .own ((webO M n).map fun m => tupI m), s6, .no, .no, s9]) (s_for (js := [4]) (i_rng1 (a_cons (e_var rfl (a_nil ⟨_, rfl, by omega, by omega, fun i e => ∃ s4 s6 s9 : Slot, e = [.pot, .dat (modelD nm tl), .dat (.int n), .own ((webO M n).map fun m => tupI m), s4, .own ((webO M n).map fun m => tupI m), s6, .no, .no, s9], ⟨_, _, _, rfl⟩, fun i x e hx => ?_, fun e h => h⟩))))) ?_)
    · rintro ⟨s4, s6, s9, rfl⟩
      have hi : i < n := by
        have := (List.getElem?_eq_some_iff.mp hx).1
        rw [rng_len] at this
        omega
      have hx2 : x = .int (i : Nat) := by
        rw [rng_get (by omega)] at hx
        rw [← Option.some.inj hx]
        simp
      subst hx2
      have hin : InR n (i : Int) := ⟨by omega, by omega⟩
      have fl := fr_len M n (i : Int)
      have tf : Tm (listI (fr M n (i : Int))) 1 4 := tm_list (n := 4) (b := 0) (k := 0) (fun x hx => by
        obtain ⟨c, hc, rfl⟩ := List.mem_map.mp hx
        have := fr_in hc
        exact tm_int (by omega) (by omega)) (by rw [List.length_map]; omega)
      have t2 : Tm (.list [listI (fr M n (i : Int)), listI (fr M n (i : Int))]) 2 10 := tm_list (n := 2) (b := 4) (k := 1) (fun x hx => by
        simp only [List.mem_cons, List.not_mem_nil, or_false] at hx
        rcases hx with rfl | rfl <;> exact tf) (Nat.le_refl 2)
      refine g_name (s_seq (s_asg (e_flt (α := Int) (js := [9]) .int (fun b => tM M (i : Int) b) .int (i_rng1 (a_cons (e_var rfl (a_nil ⟨_, rfl, by omega, by omega, nn n, rng_nn n, by rw [nn_len]; omega, fun b hb => g_name ?_, ?_⟩)))))))
      · repeat' walk_at "wp"
        refine ⟨nm, tl, n, (i : Int), b, rfl, r, hin, nn_in.mp hb, ?_⟩
        rw [hM]
        refine ⟨_, rfl, rfl, fun _ => ?_⟩
        repeat' walk_at "wp"
        rfl
      · refine s_if (t_test (e_op (e_cb (a_cons (e_lst ?_)))))
        repeat' walk_at "wp"
        refine ⟨nm, tl, n, (i : Int), rfl, r, hin, ?_⟩
        rw [hM]
        refine a_cons (e_callSw (a_cons (e_var rfl (a_cons (e_var rfl (a_nil ⟨_, _, rfl, nm, tl, n, (i : Int), rfl, r, hin, ?_⟩))))))
        rw [hM]
        refine a_nil ⟨show 2 ≤ 100000 by decide, a_nil (cb_reprA (.inl t2.nd) t2.sh (Nat.le_trans t2.dp (by decide)) (t2.fits (by decide)) ?_)⟩
        refine e_cb (a_cons (e_lst (a_cons (e_var rfl (a_cons (e_var rfl (a_nil ⟨show 2 ≤ 100000 by decide, ?_⟩)))))))
        refine a_nil (cb_reprA (d := .list [listI (fr M n (i : Int)), listI (fr M n (i : Int))]) (.inl t2.nd) t2.sh (Nat.le_trans t2.dp (by decide)) (t2.fits (by decide)) ?_)
        repeat' walk_at "wp"
        refine iteND rfl ?_
        exact s_next ⟨_, _, _, rfl⟩
    rintro e ⟨s4, s6, s9, rfl⟩
    refine s_seq (s_cut (fun e => ∃ ns ∈ subS n, e = [.pot, .dat (modelD nm tl), .dat (.int n), .own ((webO M n).map fun m => tupI m), s4, .own ((webO M n).map fun m => tupI m), s6, .dat (tupI ns), .no, s9]) (s_asg ?_) ?_)
    · refine e_callP rfl (a_cons (e_call (a_cons (e_var rfl (a_nil ⟨n, rfl, r1, r4, a_nil ⟨(subS n).map fun m => tupI m, rfl, ?_, ?_, fun x hx => ?_⟩⟩)))))
      · rw [List.length_map]
        exact subS_pos n r4
      · rw [List.length_map]
        omega
      · obtain ⟨ns, hns, rfl⟩ := List.mem_map.mp hx
        exact ⟨ns, hns, rfl⟩
    rintro e ⟨ns, hns, rfl⟩
    have ok := so ns hns
    have fc := F.close ns hns
    refine s_seq (s_cut (fun e => e = [.pot, .dat (modelD nm tl), .dat (.int n), .own ((webO M n).map fun m => tupI m), s4, .own ((webO M n).map fun m => tupI m), s6, .dat (tupI ns), .dat (listI ns.reverse), s9]) (s_asg (e_new (f_revL (e_new (f_list (e_var rfl ⟨_, .inl rfl, _, rfl, ?_⟩)))))) ?_)
    · rw [← List.map_reverse]
      rfl
    rintro e rfl
    have tb : Tm (.list [.bool (closeO M ns), .bool (closeO M ns)]) 1 2 := tm_list (n := 2) (b := 0) (k := 0) (fun x hx => by
      simp only [List.mem_cons, List.not_mem_nil, or_false] at hx
      rcases hx with rfl | rfl <;> exact tm_bool) (Nat.le_refl 2)
    refine s_seq (s_cut (fun e => e = [.pot, .dat (modelD nm tl), .dat (.int n), .own ((webO M n).map fun m => tupI m), s4, .own ((webO M n).map fun m => tupI m), s6, .dat (tupI ns), .dat (listI ns.reverse), s9]) (s_if ?_) ?_)
    · refine t_test (e_op (e_cb (a_cons (e_lst (a_cons (e_call ?_))))))
      refine a_cons (e_var rfl (a_cons (e_var rfl (a_nil ⟨nm, tl, n, _, ns, rfl, .inr rfl, r, by omega, ok.2.1, ok.2.2.2, ?_⟩))))
      rw [hM, fc.1]
      refine a_cons (e_callSw (a_cons (e_var rfl (a_cons (e_var rfl (a_nil ⟨_, _, rfl, nm, tl, n, _, ns.reverse, rfl, .inl rfl, r, by rw [List.length_reverse]; omega, List.pairwise_reverse.mpr (ok.2.1.imp fun h => Ne.symm h), fun c hc => ok.2.2.2 c (List.mem_reverse.mp hc), ?_⟩))))))
      rw [hM, fc.2]
      refine a_nil ⟨show 2 ≤ 100000 by decide, a_nil (cb_reprA (.inl tb.nd) tb.sh (Nat.le_trans tb.dp (by decide)) (tb.fits (by decide)) ?_)⟩
      refine e_cb (a_cons (e_repL (a_cons (e_call (a_cons (e_var rfl (a_cons (e_var rfl (a_nil ⟨nm, tl, n, _, ns, rfl, .inr rfl, r, by omega, ok.2.2.2, ?_⟩)))))))))
      rw [hM]
      refine a_nil ⟨show 1 ≤ 100 by decide, e_int ⟨2, rfl, by decide, by decide, ?_⟩⟩
      refine a_nil (cb_reprA (d := .list [.bool (closeO M ns), .bool (closeO M ns)]) (.inl tb.nd) tb.sh (Nat.le_trans tb.dp (by decide)) (tb.fits (by decide)) ?_)
      repeat' walk_at "wp"
      refine iteND rfl ?_
      exact s_next rfl
    rintro e rfl
    refine s_seq (s_cut (fun e => e = [.pot, .dat (modelD nm tl), .dat (.int n), .own ((webO M n).map fun m => tupI m), s4, .own ((webO M n).map (fun m => tupI m) ++ [.none]), s6, .dat (tupI ns), .dat (listI ns.reverse), s9]) (s_app2 (i := 5) rfl (e_non ⟨by rw [List.length_map]; have := web_len M r4; omega, rfl⟩)) ?_)
    rintro e rfl
    refine s_pub (i := 3) rfl (s_ret (e_andV (e_op (e_new (f_callS1 (a_cons (e_var rfl (a_nil ⟨nm, tl, n, rfl, r, ?_⟩))))))))
    rw [hM, F.web]
    refine e_var rfl (od_eqD_ (sh_rowsL _) (sh_rowsL _) ⟨_, rfl, ?_⟩)
    rw [show PyData.eqv (.list ((webO M n).map fun m => tupI m)) (.list ((webO M n).map fun m => tupI m)) = true from (eqvAll_rows (webO M n) (webO M n)).trans (decide_eq_true rfl)]
    refine (show WpE K _ _ _ _ from e_op (e_cb (a_cons (e_call (a_cons (e_var rfl (a_nil ⟨nm, tl, n, rfl, r, ?_⟩)))))))
    rw [hM, F.fit]
    refine a_nil (cb_reprA (.inl rfl) rfl (Nat.zero_le _) (tm_bool.fits (by decide)) ?_)
    refine e_cb (a_cons (e_call (a_cons (e_var rfl (a_nil ⟨nm, tl, n, rfl, r, ?_⟩)))))
    rw [hM]
    refine a_nil (cb_reprA (.inl rfl) rfl (Nat.zero_le _) (tm_bool.fits (by decide)) ?_)
    repeat' walk_at "wp"
    have eq1 : decide ((PyData.bool (fitO M n tl)).shown = (PyData.bool (fitO M n tl)).shown) = true := decide_eq_true rfl
    rw [eq1]
    exact q
⟩
theorem has__law_web_right (D : Dn K mg "_law_web_right" s__law_web_right) (tx : Tx K mg) (h__law_many : Has P w K mg base "_law_many" ["_law_model_here"] 1 (SpF K pre__law_many)) (h_web_of : Has P w K mg base "web_of" ["model"] 9 (SpN K pre_web_of)) (h__law_pick : Has P w K mg base "_law_pick" ["_law_pot_here", "_law_some"] 2 (SpG K pre__law_pick)) (h__law_subsets : Has P w K mg base "_law_subsets" ["_law_many_here"] 1 (SpF K pre__law_subsets)) (h__law_greatest : Has P w K mg base "_law_greatest" ["_law_model_here"] 3 (SpF K pre__law_greatest)) (h__law_are_tied : Has P w K mg base "_law_are_tied" ["_law_model_here", "_law_one", "_law_other"] 1 (SpF K pre__law_are_tied)) (h_is_close : Has P w K mg base "is_close" ["model", "names"] 9 (SpF K pre_is_close)) (h_is_fitted : Has P w K mg base "is_fitted" ["model"] 9 (SpF K pre_is_fitted)) (h__law_is_fitted : Has P w K mg base "_law_is_fitted" ["_law_model_here"] 4 (SpF K pre__law_is_fitted)) (h_friends : Has P w K mg base "friends" ["model", "position"] 9 (SpF K pre_friends)) (h__law_is_close : Has P w K mg base "_law_is_close" ["_law_model_here", "_law_some"] 2 (SpF K pre__law_is_close)) (hk_web_of : HasK P w K mg base "web_of" ["model"] ["model"] 9 (SpN K pre_web_of) (onlyK same1)) (hk_greatest : HasK P w K mg base "greatest" ["model"] ["model"] 9 (SpF K pre_greatest) (onlyK same1)) (hk_is_close : HasK P w K mg base "is_close" ["model", "names"] ["names", "model"] 9 (SpF K pre_is_close) (onlyK swap2)) (hk_friends : HasK P w K mg base "friends" ["model", "position"] ["position", "model"] 9 (SpF K pre_friends) (onlyK swap2)) : HasG P w K mg base "_law_web_right" ["_law_pot_here", "_law_model_here"] 10 (SpG K pre__law_web_right) := hasG_of D (fun _ _ _ _ _ _ us hl => match us, hl with | [_, _], _ => rfl) (ok__law_web_right tx h__law_many h_web_of h__law_pick h__law_subsets h__law_greatest h__law_are_tied h_is_close h_is_fitted h__law_is_fitted h_friends h__law_is_close hk_web_of hk_greatest hk_is_close hk_friends)

theorem ok__law_right (tx : Tx K mg) (h__law_model : Has P w K mg base "_law_model" ["_law_pot_here"] 4 (SpG K pre__law_model)) (h__law_web_right : HasG P w K mg base "_law_web_right" ["_law_pot_here", "_law_model_here"] 10 (SpG K pre__law_web_right)) (h__law_sequence : Has P w K mg base "_law_sequence" ["_law_model_here"] 4 (SpF K pre__law_sequence)) (h_sequence : Has P w K mg base "sequence" ["model"] 9 (SpF K pre_sequence)) (h_is_sequence : Has P w K mg base "is_sequence" ["model", "value"] 9 (SpF K pre_is_sequence)) (h__law_is_hole : Has P w K mg base "_law_is_hole" ["_law_model_here", "_law_row"] 2 (SpF K pre__law_is_hole)) (h_is_hole : Has P w K mg base "is_hole" ["model", "value"] 9 (SpF K pre_is_hole)) (hk_hole : HasK P w K mg base "hole" ["model"] ["model"] 9 (SpF K pre_hole) (onlyK same1)) (hk_sequence : HasK P w K mg base "sequence" ["model"] ["model"] 9 (SpF K pre_sequence) (onlyK same1)) : ∀ f fd, FnP K "_law_right" s__law_right f fd → FwG.FnG P w K mg base CX0 11 f fd ["_law_pot_here"] (SpG K pre__law_right) := fun f fd F =>
  FwG.okG F sc__law_right (fun vs H Q E s => lenG (fun ds Φ h => by
    obtain ⟨rfl, _⟩ := h; rfl) s) fun cdv A outer s H vs Q E gA hr h => ⟨_, PSs.nox (pss_cons (ps_for PassesOwn.never rfl (pi_range1 (by rfl) tx.range (pa_cons pe_int pa_nil)) (pg_name (i := 1) sc__law_right.nd rfl (.inl rfl)) (pss_cons (ps_set (i := 2) sc__law_right.nd rfl (.inl rfl) (pe_callH h__law_model (hr.mono (by decide)) (by rfl) (pa_cons (pv 0) pa_nil)))
    (pss_cons (ps_if (pt_not (pt_val (pe_callHG h__law_web_right gA (hr.mono (by decide)) (by rfl) (pa_cons (pv 0) (pa_cons (pv 2) pa_nil))))) (pss_one (ps_ret pe_bl)) pss_nil)
    (pss_cons (ps_par3 (i := 3) (j := 4) (l := 5) (by rfl) sc__law_right.nd rfl rfl rfl (by decide) (by decide) (by decide) rfl rfl rfl (pa_cons (pe_callH h__law_sequence (hr.mono (by decide)) (by rfl) (pa_cons (pv 2) pa_nil)) (pa_cons (pe_callH h_sequence (hr.mono (by decide)) (by rfl) (pa_cons (pv 2) pa_nil)) (pa_cons (pe_callHK hk_hole (hr.mono (by decide)) (by rfl) (pk_cons (pv 2) pk_nil)) pa_nil))) (by rfl))
    (pss_cons (ps_if (PW.pt (pw_or (pt_cmpR op_ne (pe_callB (id := "repr") (Fw.call_reprA gA (hu61 hr)) (by rfl) tx.repr (by decide +kernel) (pa_cons (pv 4) pa_nil)) (pe_callB (id := "repr") (Fw.call_reprA gA (hu61 hr)) (by rfl) tx.repr (by decide +kernel) (pa_cons (pv 3) pa_nil)) (nomark _)) (pw_or (pt_cmpR (op_neD (hu64 hr)) (pe_callHK hk_sequence (hr.mono (by decide)) (by rfl) (pk_cons (pv 2) pk_nil)) (pv 3) (nomark _)) (pw_or1 (pt_cmpR op_ne (pe_cmpR op_isN (pv 5) pe_non (nomark _)) (pe_cmpR op_notN (pv 3) pe_non (nomark _)) (nomark _)))))) (pss_one (ps_ret pe_bl)) pss_nil)
    (pss_cons (ps_if (PW.pt (pw_and (pt_cmpR op_notN (pv 3) pe_non (nomark _)) (pw_and1 (pt_cmpR op_notBl (pe_callH h_is_sequence (hr.mono (by decide)) (by rfl) (pa_cons (pv 2) (pa_cons (pv 3) pa_nil))) pe_bl (nomark _))))) (pss_one (ps_ret pe_bl)) pss_nil)
    (pss_one (ps_if (PW.pt (pw_and (pt_cmpR op_notN (pv 5) pe_non (nomark _)) (pw_and1 (PW.pt (pw_or (pt_not (pt_val (pe_callB (id := "isinstance") call_isi (by rfl) tx.isinstance (by decide +kernel) (pa_cons (pv 5) (pa_cons (pe_bltn (v := .ty "tuple") (by rfl) tx.tuple (by decide +kernel) rfl) pa_nil))))) (pw_or (pt_not (pt_val (pe_callH h__law_is_hole (hr.mono (by decide)) (by rfl) (pa_cons (pv 2) (pa_cons (pv 5) pa_nil))))) (pw_or1 (pt_cmpR op_notBl (pe_callH h_is_hole (hr.mono (by decide)) (by rfl) (pa_cons (pv 2) (pa_cons (pv 5) pa_nil))) pe_bl (nomark _))))))))) (pss_one (ps_ret pe_bl)) pss_nil))))))))
    (pss_one (ps_ret pe_bl))),
  bodyG h fun q ds Φ hp => by
    obtain ⟨rfl, q⟩ := hp
    refine s_seq (s_for (js := [1]) (i_rng1 ?_))
    repeat' walk_at "wp"
    refine ⟨fun i e => ∃ s1 s2 s3 s4 s5 : Slot, e = [.pot, s1, s2, s3, s4, s5], ⟨_, _, _, _, _, rfl⟩, fun i x e hx => ?_, fun e => ?_⟩
    · rintro ⟨s1, s2, s3, s4, s5, rfl⟩
      refine g_name ?_
      refine s_seq (s_cut (fun e => ∃ nm tl n, IsMod nm tl n ∧ e = [.pot, .dat x, .dat (modelD nm tl), s3, s4, s5]) (s_asg (e_callP rfl (a_nil ⟨rfl, fun nm tl n r => ⟨nm, tl, n, r, rfl⟩⟩))) ?_)
      rintro e ⟨nm, tl, n, r, rfl⟩
      have r1 := r.one
      have r4 := r.four
      have F := same_f (same_mat tl r1 r4)
      generalize hM : mat n tl = M at F
      refine s_seq (s_cut (fun e => e = [.pot, .dat x, .dat (modelD nm tl), s3, s4, s5]) (s_if (t_not (t_test (e_callP rfl (a_cons (e_var rfl (a_nil ⟨nm, tl, n, rfl, r, ?_⟩))))))) ?_)
      · exact ⟨_, rfl, iteNT (s_next rfl)⟩
      rintro e rfl
      have td : Tm (optD (seqO M n)) 1 4 := opt_tm F r4
      refine s_seq (s_cut (fun e => e = [.pot, .dat x, .dat (modelD nm tl), .dat (optD (seqO M n)), .dat (optD (seqO M n)), .dat (optD (holeP M n))]) (s_par3 (a_cons (e_call (a_cons (e_var rfl (a_nil ⟨nm, tl, n, rfl, r, ?_⟩)))))) ?_)
      · rw [hM]
        refine a_cons (e_call (a_cons (e_var rfl (a_nil ⟨nm, tl, n, rfl, r, ?_⟩))))
        rw [hM, F.seq]
        refine a_cons (e_callS1 (a_cons (e_var rfl (a_nil ⟨nm, tl, n, rfl, r, ?_⟩))))
        rw [hM]
        exact a_nil ⟨_, _, _, rfl, rfl⟩
      rintro e rfl
      refine s_seq (s_cut (fun e => e = [.pot, .dat x, .dat (modelD nm tl), .dat (optD (seqO M n)), .dat (optD (seqO M n)), .dat (optD (holeP M n))]) (s_if (t_or (t_test (e_op (e_cb (a_cons (e_var rfl (a_nil (cb_reprA (.inl td.nd) td.sh (Nat.le_trans td.dp (by decide)) (td.fits (by decide)) ?_))))))))) ?_)
      · refine e_cb (a_cons (e_var rfl (a_nil (cb_reprA (.inl td.nd) td.sh (Nat.le_trans td.dp (by decide)) (td.fits (by decide)) ?_))))
        repeat' walk_at "wp"
        refine iteND rfl ?_
        refine t_or (t_test (e_op (e_callS1 (a_cons (e_var rfl (a_nil ⟨nm, tl, n, rfl, r, ?_⟩))))))
        rw [hM, F.seq]
        refine e_var rfl (od_neD_ (td.shaped (by decide)) (td.shaped (by decide)) ⟨_, rfl, ?_⟩)
        rw [eqv_opt]
        refine iteF' rfl ?_
        refine t_test (e_op (e_op (e_var rfl (e_non (od_isN ?_)))))
        refine e_op (e_var rfl (e_non (od_notN (FwWd.od_neB ⟨_, rfl, ?_⟩))))
        refine iteF' ?_ (s_next rfl)
        have h1 := F.hole
        rw [F.seq] at h1
        rw [isNo_opt, isNo_opt, h1]
        cases (seqO M n) <;> rfl
      rintro e rfl
      refine s_seq (s_cut (fun e => e = [.pot, .dat x, .dat (modelD nm tl), .dat (optD (seqO M n)), .dat (optD (seqO M n)), .dat (optD (holeP M n))]) (s_if ?_) ?_)
      · refine t_and (t_test (e_op (e_var rfl (e_non (od_notN ⟨_, rfl, ?_⟩)))))
        rw [isNo_opt]
        cases hs : seqO M n with
        | none => exact iteF' rfl (s_next rfl)
        | some s =>
          have h2 := F.seqOk s (F.seq.trans hs)
          refine iteT' rfl ?_
          refine t_test (e_op (e_call (a_cons (e_var rfl (a_cons (e_var rfl (a_nil ⟨nm, tl, n, s, rfl, r, h2.2.1, h2.2.2.1, h2.2.2.2, ?_⟩)))))))
          rw [hM, h2.1]
          exact e_bl (od_notB ⟨_, rfl, iteF' rfl (s_next rfl)⟩)
      rintro e rfl
      refine s_if ?_
      refine t_and (t_test (e_op (e_var rfl (e_non (od_notN ⟨_, rfl, ?_⟩)))))
      rw [isNo_opt]
      cases hs : holeP M n with
      | none => exact iteF' rfl (s_next ⟨_, _, _, _, _, rfl⟩)
      | some s =>
        have h2 := F.holeOk s hs
        have h3 : s.length ≤ 4 := (arr_ok n r4 s (List.mem_of_find?_eq_some hs)).1
        refine iteT' rfl ?_
        refine t_or (t_not (t_test ?_))
        repeat' walk_at "wp"
        refine ⟨nm, tl, n, s, rfl, r, h3, h2.2.2.1, h2.2.2.2, ?_⟩
        rw [hM, h2.1]
        refine ⟨_, rfl, iteNT ?_⟩
        refine (show WpT K _ _ _ _ from t_test (e_op (e_call (a_cons (e_var rfl (a_cons (e_var rfl (a_nil ⟨nm, tl, n, s, rfl, r, h3, h2.2.2.1, h2.2.2.2, ?_⟩))))))))
        rw [hM, h2.2.1]
        exact e_bl (od_notB ⟨_, rfl, iteF' rfl (s_next ⟨_, _, _, _, _, rfl⟩)⟩)
    · rintro ⟨s1, s2, s3, s4, s5, rfl⟩
      repeat' walk_at "wp"
      exact q
⟩
theorem has__law_right (D : Dn K mg "_law_right" s__law_right) (tx : Tx K mg) (h__law_model : Has P w K mg base "_law_model" ["_law_pot_here"] 4 (SpG K pre__law_model)) (h__law_web_right : HasG P w K mg base "_law_web_right" ["_law_pot_here", "_law_model_here"] 10 (SpG K pre__law_web_right)) (h__law_sequence : Has P w K mg base "_law_sequence" ["_law_model_here"] 4 (SpF K pre__law_sequence)) (h_sequence : Has P w K mg base "sequence" ["model"] 9 (SpF K pre_sequence)) (h_is_sequence : Has P w K mg base "is_sequence" ["model", "value"] 9 (SpF K pre_is_sequence)) (h__law_is_hole : Has P w K mg base "_law_is_hole" ["_law_model_here", "_law_row"] 2 (SpF K pre__law_is_hole)) (h_is_hole : Has P w K mg base "is_hole" ["model", "value"] 9 (SpF K pre_is_hole)) (hk_hole : HasK P w K mg base "hole" ["model"] ["model"] 9 (SpF K pre_hole) (onlyK same1)) (hk_sequence : HasK P w K mg base "sequence" ["model"] ["model"] 9 (SpF K pre_sequence) (onlyK same1)) : HasG P w K mg base "_law_right" ["_law_pot_here"] 11 (SpG K pre__law_right) := hasG_of D (fun _ _ _ _ _ _ us hl => match us, hl with | [_], _ => rfl) (ok__law_right tx h__law_model h__law_web_right h__law_sequence h_sequence h_is_sequence h__law_is_hole h_is_hole hk_hole hk_sequence)

theorem ok_law (tx : Tx K mg) (h__law_right : HasG P w K mg base "_law_right" ["_law_pot_here"] 11 (SpG K pre__law_right)) (h__law_pot : Has P w K mg base "_law_pot" ["_law_script", "_law_k"] 1 (SpN K pre__law_pot)) : ∀ f fd, FnP K "law" s_law f fd → FwG.FnG P w K mg base CX0 12 f fd ["_law_script"] (SpF K pre_law) := fun f fd F =>
  FwG.okG F sc_law (fun vs H Q E s => lenF (fun ds Φ h => by
    obtain ⟨_, rfl, _⟩ := h; rfl) s) fun cdv A outer s H vs Q E gA hr h => ⟨_, PSs.nox (pss_one (ps_ret (pe_callHG h__law_right gA (hr.mono (by decide)) (by rfl) (pa_cons (pe_callH h__law_pot (hr.mono (by decide)) (by rfl) (pa_cons (pv 0) (pa_cons pe_int pa_nil))) pa_nil)))),
  bodyF h fun ds Φ hp => by
    obtain ⟨ns, rfl, nl, q⟩ := hp
    refine s_ret (e_callPot (f_call ?_))
    repeat' walk_at "wp"
    intro a b hab
    exact ⟨a, b, rfl, hab, rfl, q⟩
⟩
theorem has_law (D : Dn K mg "law" s_law) (tx : Tx K mg) (h__law_right : HasG P w K mg base "_law_right" ["_law_pot_here"] 11 (SpG K pre__law_right)) (h__law_pot : Has P w K mg base "_law_pot" ["_law_script", "_law_k"] 1 (SpN K pre__law_pot)) : HasG P w K mg base "law" ["_law_script"] 12 (SpF K pre_law) := hasG_of D (fun _ _ _ _ _ _ us hl => match us, hl with | [_], _ => rfl) (ok_law tx h__law_right h__law_pot)
end
end K66
section
set_option maxHeartbeats 0
namespace K66
open PySem PySem.Spec PyProof.Rows L2 Evl Fw
theorem vals_swap2 {zs : List V} {ws : List Value} (h : Vals zs ws) : Vals (swap2 zs) (swap2 ws) := by
  cases h with
  | nil => exact .nil
  | cons a t =>
    cases t with
    | nil => exact .nil
    | cons b t =>
      cases t with
      | nil => exact .cons b (.cons a .nil)
      | cons _ _ => exact .nil
theorem facts {P : Program} {w : World} {K : PySem.W.Frag} {h : Heap} {mg : Str → Option Value} {fl : Addr} (X : K.In h) (G : h.Ns mainGlobals mg) (hfa : mg ("law" : Str) = some (.ref fl)) (c : He.SaysD fa fn K) (cx : ex K = true) :
    ∃ fd : FuncData, (∀ (s : Shared) (v : Value), BindsTo s fd ⟨[v], []⟩ [("_law_script", v)]) ∧ ∀ base : Heap, K.In base → base.Ns mainGlobals mg → FwG.FnG P w K mg base CX0 12 fl fd ["_law_script"] (SpF K pre_law) := by
  have tx : Tx K mg := {
    isinstance := He.free_ok X G (c.fact 61 (f := .free "isinstance") rfl)
    int := He.free_ok X G (c.fact 62 (f := .free "int") rfl)
    bool := He.free_ok X G (c.fact 63 (f := .free "bool") rfl)
    tuple := He.free_ok X G (c.fact 64 (f := .free "tuple") rfl)
    len := He.free_ok X G (c.fact 65 (f := .free "len") rfl)
    all := He.free_ok X G (c.fact 66 (f := .free "all") rfl)
    any := He.free_ok X G (c.fact 67 (f := .free "any") rfl)
    zip := He.free_ok X G (c.fact 68 (f := .free "zip") rfl)
    abs := He.free_ok X G (c.fact 69 (f := .free "abs") rfl)
    list := He.free_ok X G (c.fact 70 (f := .free "list") rfl)
    repr := He.free_ok X G (c.fact 71 (f := .free "repr") rfl)
    range := He.free_ok X G (c.fact 72 (f := .free "range") rfl)
    max := He.free_ok X G (c.fact 73 (f := .free "max") rfl)
    min := He.free_ok X G (c.fact 74 (f := .free "min") rfl)
    divmod := He.free_ok X G (c.fact 75 (f := .free "divmod") rfl)
    str := He.free_ok X G (c.fact 76 (f := .free "str") rfl)
    sorted := He.free_ok X G (c.fact 77 (f := .free "sorted") rfl)
    enumerate := He.free_ok X G (c.fact 78 (f := .free "enumerate") rfl)
    set := He.free_ok X G (c.fact 79 (f := .free "set") rfl)
    MOST_NAMES := He.int_ok X G (c.fact 80 (f := .int "MOST_NAMES" 4) rfl)
    MOST_VALUES := He.int_ok X G (c.fact 81 (f := .int "MOST_VALUES" 6) rfl)
    MOST_LETTERS := He.int_ok X G (c.fact 82 (f := .int "MOST_LETTERS" 8) rfl)
    MOST_PLACES := He.int_ok X G (c.fact 83 (f := .int "MOST_PLACES" 64) rfl)
    MOST_MODEL_CELLS := He.int_ok X G (c.fact 84 (f := .int "MOST_MODEL_CELLS" 16) rfl)
    MOST_TOLD := He.int_ok X G (c.fact 85 (f := .int "MOST_TOLD" 16) rfl)
    ROW_WORDS := FwWd.tupB_ok X G cx
    LEAST_HOLE := He.int_ok X G (c.fact 86 (f := .int "LEAST_HOLE" 4) rfl) }
  have D_is_integer : Dn K mg "is_integer" s_is_integer := by
    obtain ⟨fd, F⟩ := c.def_ 0 (d := d_is_integer) rfl
    exact ⟨_, fd, F, He.glo_ok X G (c.fact 0 (f := .glo "is_integer") rfl)⟩
  have D_is_count : Dn K mg "is_count" s_is_count := by
    obtain ⟨fd, F⟩ := c.def_ 1 (d := d_is_count) rfl
    exact ⟨_, fd, F, He.glo_ok X G (c.fact 1 (f := .glo "is_count") rfl)⟩
  have D_is_count_to : Dn K mg "is_count_to" s_is_count_to := by
    obtain ⟨fd, F⟩ := c.def_ 2 (d := d_is_count_to) rfl
    exact ⟨_, fd, F, He.glo_ok X G (c.fact 2 (f := .glo "is_count_to") rfl)⟩
  have D_are_counts : Dn K mg "are_counts" s_are_counts := by
    obtain ⟨fd, F⟩ := c.def_ 3 (d := d_are_counts) rfl
    exact ⟨_, fd, F, He.glo_ok X G (c.fact 3 (f := .glo "are_counts") rfl)⟩
  have D_is_listed : Dn K mg "is_listed" s_is_listed := by
    obtain ⟨fd, F⟩ := c.def_ 4 (d := d_is_listed) rfl
    exact ⟨_, fd, F, He.glo_ok X G (c.fact 4 (f := .glo "is_listed") rfl)⟩
  have D_is_rising : Dn K mg "is_rising" s_is_rising := by
    obtain ⟨fd, F⟩ := c.def_ 5 (d := d_is_rising) rfl
    exact ⟨_, fd, F, He.glo_ok X G (c.fact 5 (f := .glo "is_rising") rfl)⟩
  have D_is_small_letter : Dn K mg "is_small_letter" s_is_small_letter := by
    obtain ⟨fd, F⟩ := c.def_ 6 (d := d_is_small_letter) rfl
    exact ⟨_, fd, F, He.glo_ok X G (c.fact 6 (f := .glo "is_small_letter") rfl)⟩
  have D_is_digit : Dn K mg "is_digit" s_is_digit := by
    obtain ⟨fd, F⟩ := c.def_ 7 (d := d_is_digit) rfl
    exact ⟨_, fd, F, He.glo_ok X G (c.fact 7 (f := .glo "is_digit") rfl)⟩
  have D_is_of_word : Dn K mg "is_of_word" s_is_of_word := by
    obtain ⟨fd, F⟩ := c.def_ 8 (d := d_is_of_word) rfl
    exact ⟨_, fd, F, He.glo_ok X G (c.fact 8 (f := .glo "is_of_word") rfl)⟩
  have D_is_value_word : Dn K mg "is_value_word" s_is_value_word := by
    obtain ⟨fd, F⟩ := c.def_ 9 (d := d_is_value_word) rfl
    exact ⟨_, fd, F, He.glo_ok X G (c.fact 9 (f := .glo "is_value_word") rfl)⟩
  have D_is_name_word : Dn K mg "is_name_word" s_is_name_word := by
    obtain ⟨fd, F⟩ := c.def_ 10 (d := d_is_name_word) rfl
    exact ⟨_, fd, F, He.glo_ok X G (c.fact 10 (f := .glo "is_name_word") rfl)⟩
  have D_are_unlike : Dn K mg "are_unlike" s_are_unlike := by
    obtain ⟨fd, F⟩ := c.def_ 11 (d := d_are_unlike) rfl
    exact ⟨_, fd, F, He.glo_ok X G (c.fact 11 (f := .glo "are_unlike") rfl)⟩
  have D_is_name : Dn K mg "is_name" s_is_name := by
    obtain ⟨fd, F⟩ := c.def_ 12 (d := d_is_name) rfl
    exact ⟨_, fd, F, He.glo_ok X G (c.fact 12 (f := .glo "is_name") rfl)⟩
  have D_are_names : Dn K mg "are_names" s_are_names := by
    obtain ⟨fd, F⟩ := c.def_ 13 (d := d_are_names) rfl
    exact ⟨_, fd, F, He.glo_ok X G (c.fact 13 (f := .glo "are_names") rfl)⟩
  have D_how_many_places : Dn K mg "how_many_places" s_how_many_places := by
    obtain ⟨fd, F⟩ := c.def_ 14 (d := d_how_many_places) rfl
    exact ⟨_, fd, F, He.glo_ok X G (c.fact 14 (f := .glo "how_many_places") rfl)⟩
  have D_is_place : Dn K mg "is_place" s_is_place := by
    obtain ⟨fd, F⟩ := c.def_ 15 (d := d_is_place) rfl
    exact ⟨_, fd, F, He.glo_ok X G (c.fact 15 (f := .glo "is_place") rfl)⟩
  have D_are_voids : Dn K mg "are_voids" s_are_voids := by
    obtain ⟨fd, F⟩ := c.def_ 16 (d := d_are_voids) rfl
    exact ⟨_, fd, F, He.glo_ok X G (c.fact 16 (f := .glo "are_voids") rfl)⟩
  have D_is_told_sum : Dn K mg "is_told_sum" s_is_told_sum := by
    obtain ⟨fd, F⟩ := c.def_ 17 (d := d_is_told_sum) rfl
    exact ⟨_, fd, F, He.glo_ok X G (c.fact 17 (f := .glo "is_told_sum") rfl)⟩
  have D_are_told : Dn K mg "are_told" s_are_told := by
    obtain ⟨fd, F⟩ := c.def_ 18 (d := d_are_told) rfl
    exact ⟨_, fd, F, He.glo_ok X G (c.fact 18 (f := .glo "are_told") rfl)⟩
  have D_is_model : Dn K mg "is_model" s_is_model := by
    obtain ⟨fd, F⟩ := c.def_ 19 (d := d_is_model) rfl
    exact ⟨_, fd, F, He.glo_ok X G (c.fact 19 (f := .glo "is_model") rfl)⟩
  have D_check_model : Dn K mg "check_model" s_check_model := by
    obtain ⟨fd, F⟩ := c.def_ 20 (d := d_check_model) rfl
    exact ⟨_, fd, F, He.glo_ok X G (c.fact 20 (f := .glo "check_model") rfl)⟩
  have D_names_of : Dn K mg "names_of" s_names_of := by
    obtain ⟨fd, F⟩ := c.def_ 21 (d := d_names_of) rfl
    exact ⟨_, fd, F, He.glo_ok X G (c.fact 21 (f := .glo "names_of") rfl)⟩
  have D_are_tied : Dn K mg "are_tied" s_are_tied := by
    obtain ⟨fd, F⟩ := c.def_ 22 (d := d_are_tied) rfl
    exact ⟨_, fd, F, He.glo_ok X G (c.fact 22 (f := .glo "are_tied") rfl)⟩
  have D_friends_of : Dn K mg "friends_of" s_friends_of := by
    obtain ⟨fd, F⟩ := c.def_ 23 (d := d_friends_of) rfl
    exact ⟨_, fd, F, He.glo_ok X G (c.fact 23 (f := .glo "friends_of") rfl)⟩
  have D_is_close_lot : Dn K mg "is_close_lot" s_is_close_lot := by
    obtain ⟨fd, F⟩ := c.def_ 24 (d := d_is_close_lot) rfl
    exact ⟨_, fd, F, He.glo_ok X G (c.fact 24 (f := .glo "is_close_lot") rfl)⟩
  have D_web_of : Dn K mg "web_of" s_web_of := by
    obtain ⟨fd, F⟩ := c.def_ 25 (d := d_web_of) rfl
    exact ⟨_, fd, F, He.glo_ok X G (c.fact 25 (f := .glo "web_of") rfl)⟩
  have D_friends : Dn K mg "friends" s_friends := by
    obtain ⟨fd, F⟩ := c.def_ 26 (d := d_friends) rfl
    exact ⟨_, fd, F, He.glo_ok X G (c.fact 26 (f := .glo "friends") rfl)⟩
  have D_is_close : Dn K mg "is_close" s_is_close := by
    obtain ⟨fd, F⟩ := c.def_ 27 (d := d_is_close) rfl
    exact ⟨_, fd, F, He.glo_ok X G (c.fact 27 (f := .glo "is_close") rfl)⟩
  have D_greatest_lots : Dn K mg "greatest_lots" s_greatest_lots := by
    obtain ⟨fd, F⟩ := c.def_ 28 (d := d_greatest_lots) rfl
    exact ⟨_, fd, F, He.glo_ok X G (c.fact 28 (f := .glo "greatest_lots") rfl)⟩
  have D_is_greatest : Dn K mg "is_greatest" s_is_greatest := by
    obtain ⟨fd, F⟩ := c.def_ 29 (d := d_is_greatest) rfl
    exact ⟨_, fd, F, He.glo_ok X G (c.fact 29 (f := .glo "is_greatest") rfl)⟩
  have D_greatest : Dn K mg "greatest" s_greatest := by
    obtain ⟨fd, F⟩ := c.def_ 30 (d := d_greatest) rfl
    exact ⟨_, fd, F, He.glo_ok X G (c.fact 30 (f := .glo "greatest") rfl)⟩
  have D_is_fitted : Dn K mg "is_fitted" s_is_fitted := by
    obtain ⟨fd, F⟩ := c.def_ 31 (d := d_is_fitted) rfl
    exact ⟨_, fd, F, He.glo_ok X G (c.fact 31 (f := .glo "is_fitted") rfl)⟩
  have D_sequence_of : Dn K mg "sequence_of" s_sequence_of := by
    obtain ⟨fd, F⟩ := c.def_ 32 (d := d_sequence_of) rfl
    exact ⟨_, fd, F, He.glo_ok X G (c.fact 32 (f := .glo "sequence_of") rfl)⟩
  have D_friends_among : Dn K mg "friends_among" s_friends_among := by
    obtain ⟨fd, F⟩ := c.def_ 33 (d := d_friends_among) rfl
    exact ⟨_, fd, F, He.glo_ok X G (c.fact 33 (f := .glo "friends_among") rfl)⟩
  have D_sequence : Dn K mg "sequence" s_sequence := by
    obtain ⟨fd, F⟩ := c.def_ 34 (d := d_sequence) rfl
    exact ⟨_, fd, F, He.glo_ok X G (c.fact 34 (f := .glo "sequence") rfl)⟩
  have D_arrangements : Dn K mg "arrangements" s_arrangements := by
    obtain ⟨fd, F⟩ := c.def_ 35 (d := d_arrangements) rfl
    exact ⟨_, fd, F, He.glo_ok X G (c.fact 35 (f := .glo "arrangements") rfl)⟩
  have D_is_ring : Dn K mg "is_ring" s_is_ring := by
    obtain ⟨fd, F⟩ := c.def_ 36 (d := d_is_ring) rfl
    exact ⟨_, fd, F, He.glo_ok X G (c.fact 36 (f := .glo "is_ring") rfl)⟩
  have D_hole : Dn K mg "hole" s_hole := by
    obtain ⟨fd, F⟩ := c.def_ 37 (d := d_hole) rfl
    exact ⟨_, fd, F, He.glo_ok X G (c.fact 37 (f := .glo "hole") rfl)⟩
  have D_are_names_of : Dn K mg "are_names_of" s_are_names_of := by
    obtain ⟨fd, F⟩ := c.def_ 38 (d := d_are_names_of) rfl
    exact ⟨_, fd, F, He.glo_ok X G (c.fact 38 (f := .glo "are_names_of") rfl)⟩
  have D_is_sequence : Dn K mg "is_sequence" s_is_sequence := by
    obtain ⟨fd, F⟩ := c.def_ 39 (d := d_is_sequence) rfl
    exact ⟨_, fd, F, He.glo_ok X G (c.fact 39 (f := .glo "is_sequence") rfl)⟩
  have D_is_hole : Dn K mg "is_hole" s_is_hole := by
    obtain ⟨fd, F⟩ := c.def_ 40 (d := d_is_hole) rfl
    exact ⟨_, fd, F, He.glo_ok X G (c.fact 40 (f := .glo "is_hole") rfl)⟩
  have D__law_pot : Dn K mg "_law_pot" s__law_pot := by
    obtain ⟨fd, F⟩ := c.def_ 41 (d := d__law_pot) rfl
    exact ⟨_, fd, F, He.glo_ok X G (c.fact 41 (f := .glo "_law_pot") rfl)⟩
  have D__law_draw : Dn K mg "_law_draw" s__law_draw := by
    obtain ⟨fd, F⟩ := c.def_ 42 (d := d__law_draw) rfl
    exact ⟨_, fd, F, He.glo_ok X G (c.fact 42 (f := .glo "_law_draw") rfl)⟩
  have D__law_pick : Dn K mg "_law_pick" s__law_pick := by
    obtain ⟨fd, F⟩ := c.def_ 43 (d := d__law_pick) rfl
    exact ⟨_, fd, F, He.glo_ok X G (c.fact 43 (f := .glo "_law_pick") rfl)⟩
  have D__law_sizes : Dn K mg "_law_sizes" s__law_sizes := by
    obtain ⟨fd, F⟩ := c.def_ 44 (d := d__law_sizes) rfl
    exact ⟨_, fd, F, He.glo_ok X G (c.fact 44 (f := .glo "_law_sizes") rfl)⟩
  have D__law_subsets : Dn K mg "_law_subsets" s__law_subsets := by
    obtain ⟨fd, F⟩ := c.def_ 45 (d := d__law_subsets) rfl
    exact ⟨_, fd, F, He.glo_ok X G (c.fact 45 (f := .glo "_law_subsets") rfl)⟩
  have D__law_kept : Dn K mg "_law_kept" s__law_kept := by
    obtain ⟨fd, F⟩ := c.def_ 46 (d := d__law_kept) rfl
    exact ⟨_, fd, F, He.glo_ok X G (c.fact 46 (f := .glo "_law_kept") rfl)⟩
  have D__law_told : Dn K mg "_law_told" s__law_told := by
    obtain ⟨fd, F⟩ := c.def_ 47 (d := d__law_told) rfl
    exact ⟨_, fd, F, He.glo_ok X G (c.fact 47 (f := .glo "_law_told") rfl)⟩
  have D__law_model : Dn K mg "_law_model" s__law_model := by
    obtain ⟨fd, F⟩ := c.def_ 48 (d := d__law_model) rfl
    exact ⟨_, fd, F, He.glo_ok X G (c.fact 48 (f := .glo "_law_model") rfl)⟩
  have D__law_many : Dn K mg "_law_many" s__law_many := by
    obtain ⟨fd, F⟩ := c.def_ 49 (d := d__law_many) rfl
    exact ⟨_, fd, F, He.glo_ok X G (c.fact 49 (f := .glo "_law_many") rfl)⟩
  have D__law_are_tied : Dn K mg "_law_are_tied" s__law_are_tied := by
    obtain ⟨fd, F⟩ := c.def_ 50 (d := d__law_are_tied) rfl
    exact ⟨_, fd, F, He.glo_ok X G (c.fact 50 (f := .glo "_law_are_tied") rfl)⟩
  have D__law_is_close : Dn K mg "_law_is_close" s__law_is_close := by
    obtain ⟨fd, F⟩ := c.def_ 51 (d := d__law_is_close) rfl
    exact ⟨_, fd, F, He.glo_ok X G (c.fact 51 (f := .glo "_law_is_close") rfl)⟩
  have D__law_greatest : Dn K mg "_law_greatest" s__law_greatest := by
    obtain ⟨fd, F⟩ := c.def_ 52 (d := d__law_greatest) rfl
    exact ⟨_, fd, F, He.glo_ok X G (c.fact 52 (f := .glo "_law_greatest") rfl)⟩
  have D__law_is_fitted : Dn K mg "_law_is_fitted" s__law_is_fitted := by
    obtain ⟨fd, F⟩ := c.def_ 53 (d := d__law_is_fitted) rfl
    exact ⟨_, fd, F, He.glo_ok X G (c.fact 53 (f := .glo "_law_is_fitted") rfl)⟩
  have D__law_orders : Dn K mg "_law_orders" s__law_orders := by
    obtain ⟨fd, F⟩ := c.def_ 54 (d := d__law_orders) rfl
    exact ⟨_, fd, F, He.glo_ok X G (c.fact 54 (f := .glo "_law_orders") rfl)⟩
  have D__law_is_sequence : Dn K mg "_law_is_sequence" s__law_is_sequence := by
    obtain ⟨fd, F⟩ := c.def_ 55 (d := d__law_is_sequence) rfl
    exact ⟨_, fd, F, He.glo_ok X G (c.fact 55 (f := .glo "_law_is_sequence") rfl)⟩
  have D__law_sequence : Dn K mg "_law_sequence" s__law_sequence := by
    obtain ⟨fd, F⟩ := c.def_ 56 (d := d__law_sequence) rfl
    exact ⟨_, fd, F, He.glo_ok X G (c.fact 56 (f := .glo "_law_sequence") rfl)⟩
  have D__law_is_hole : Dn K mg "_law_is_hole" s__law_is_hole := by
    obtain ⟨fd, F⟩ := c.def_ 57 (d := d__law_is_hole) rfl
    exact ⟨_, fd, F, He.glo_ok X G (c.fact 57 (f := .glo "_law_is_hole") rfl)⟩
  have D__law_web_right : Dn K mg "_law_web_right" s__law_web_right := by
    obtain ⟨fd, F⟩ := c.def_ 58 (d := d__law_web_right) rfl
    exact ⟨_, fd, F, He.glo_ok X G (c.fact 58 (f := .glo "_law_web_right") rfl)⟩
  have D__law_right : Dn K mg "_law_right" s__law_right := by
    obtain ⟨fd, F⟩ := c.def_ 59 (d := d__law_right) rfl
    exact ⟨_, fd, F, He.glo_ok X G (c.fact 59 (f := .glo "_law_right") rfl)⟩
  obtain ⟨fd, F⟩ := c.def_ 60 (d := d_law) rfl
  have e := hfa.symm.trans (He.glo_ok X G (c.fact 60 (f := .glo "law") rfl))
  cases e
  have b := FunD.bindsA (ps := ["_law_script"]) F fun _ _ _ _ _ _ us hl => match us, hl with | [_], _ => rfl
  refine ⟨fd, fun s v => b s [v] rfl, fun base _ _ => ?_⟩
  have h_is_integer := has_is_integer (P := P) (w := w) (base := base) D_is_integer tx
  have h_is_count := has_is_count (P := P) (w := w) (base := base) D_is_count tx h_is_integer
  have h_is_count_to := has_is_count_to (P := P) (w := w) (base := base) D_is_count_to tx h_is_count
  have h_are_counts := has_are_counts (P := P) (w := w) (base := base) D_are_counts tx h_is_count_to
  have h_is_listed := has_is_listed (P := P) (w := w) (base := base) D_is_listed tx
  have h_is_rising := has_is_rising (P := P) (w := w) (base := base) D_is_rising tx
  have h_is_small_letter := has_is_small_letter (P := P) (w := w) (base := base) D_is_small_letter tx
  have h_is_digit := has_is_digit (P := P) (w := w) (base := base) D_is_digit tx
  have h_is_of_word := has_is_of_word (P := P) (w := w) (base := base) D_is_of_word tx h_is_small_letter h_is_digit
  have h_is_value_word := has_is_value_word (P := P) (w := w) (base := base) D_is_value_word tx h_is_of_word
  have h_is_name_word := has_is_name_word (P := P) (w := w) (base := base) D_is_name_word tx h_is_value_word h_is_small_letter
  have h_are_unlike := has_are_unlike (P := P) (w := w) (base := base) D_are_unlike tx
  have h_is_name := has_is_name (P := P) (w := w) (base := base) D_is_name tx h_are_unlike h_is_name_word h_is_value_word
  have h_how_many_places := has_how_many_places (P := P) (w := w) (base := base) D_how_many_places tx
  have h_are_names := has_are_names (P := P) (w := w) (base := base) D_are_names tx h_are_unlike h_how_many_places h_is_name
  have h_is_place := has_is_place (P := P) (w := w) (base := base) D_is_place tx h_is_count_to
  have h_are_voids := has_are_voids (P := P) (w := w) (base := base) D_are_voids tx h_is_rising h_how_many_places h_is_place
  have h_is_told_sum := has_is_told_sum (P := P) (w := w) (base := base) D_is_told_sum tx h_is_rising h_is_count_to
  have h_are_told := has_are_told (P := P) (w := w) (base := base) D_are_told tx h_are_unlike h_is_told_sum
  have h_is_model := has_is_model (P := P) (w := w) (base := base) D_is_model tx h_are_voids h_are_told h_are_names
  have h_check_model := has_check_model (P := P) (w := w) (base := base) D_check_model tx h_is_model
  have h_names_of := has_names_of (P := P) (w := w) (base := base) D_names_of tx
  have h_are_tied := has_are_tied (P := P) (w := w) (base := base) D_are_tied tx
  have h_friends_of := has_friends_of (P := P) (w := w) (base := base) D_friends_of tx h_names_of h_are_tied
  have h_is_close_lot := has_is_close_lot (P := P) (w := w) (base := base) D_is_close_lot tx h_are_tied
  have h_web_of := has_web_of (P := P) (w := w) (base := base) D_web_of tx h_check_model h_names_of h_friends_of
  have hk_web_of : HasK P w K mg base "web_of" ["model"] ["model"] 9 (SpN K pre_web_of) (onlyK same1) := hasK_of same1 D_web_of (ok_web_of tx h_check_model h_names_of h_friends_of) (fun _ _ _ _ _ _ ws hl => match ws, hl with | [_], _ => rfl) (fun h => h) (by decide)
  have h_friends := has_friends (P := P) (w := w) (base := base) D_friends tx h_check_model h_friends_of h_is_count_to
  have hk_friends : HasK P w K mg base "friends" ["model", "position"] ["position", "model"] 9 (SpF K pre_friends) (onlyK swap2) := hasK_of swap2 D_friends (ok_friends tx h_check_model h_friends_of h_is_count_to) (fun _ _ _ _ _ _ ws hl => match ws, hl with | [_, _], _ => rfl | [], hl => nomatch hl | [_], hl => nomatch hl | _ :: _ :: _ :: _, hl => nomatch hl) (vals_swap2) (by decide)
  have h_is_close := has_is_close (P := P) (w := w) (base := base) D_is_close tx h_check_model h_is_close_lot h_are_unlike h_is_listed h_is_count_to
  have hk_is_close : HasK P w K mg base "is_close" ["model", "names"] ["names", "model"] 9 (SpF K pre_is_close) (onlyK swap2) := hasK_of swap2 D_is_close (ok_is_close tx h_check_model h_is_close_lot h_are_unlike h_is_listed h_is_count_to) (fun _ _ _ _ _ _ ws hl => match ws, hl with | [_, _], _ => rfl | [], hl => nomatch hl | [_], hl => nomatch hl | _ :: _ :: _ :: _, hl => nomatch hl) (vals_swap2) (by decide)
  have h_is_greatest := has_is_greatest (P := P) (w := w) (base := base) D_is_greatest tx h_is_close_lot h_names_of
  have h_greatest_lots := has_greatest_lots (P := P) (w := w) (base := base) D_greatest_lots tx h_names_of h_is_close_lot h_is_greatest
  have h_greatest := has_greatest (P := P) (w := w) (base := base) D_greatest tx h_check_model h_greatest_lots
  have hk_greatest : HasK P w K mg base "greatest" ["model"] ["model"] 9 (SpF K pre_greatest) (onlyK same1) := hasK_of same1 D_greatest (ok_greatest tx h_check_model h_greatest_lots) (fun _ _ _ _ _ _ ws hl => match ws, hl with | [_], _ => rfl) (fun h => h) (by decide)
  have h_is_fitted := has_is_fitted (P := P) (w := w) (base := base) D_is_fitted tx h_check_model h_greatest_lots
  have h_friends_among := has_friends_among (P := P) (w := w) (base := base) D_friends_among tx h_friends_of
  have h_sequence_of := has_sequence_of (P := P) (w := w) (base := base) D_sequence_of tx h_names_of h_is_close_lot h_friends_among
  have h_sequence := has_sequence (P := P) (w := w) (base := base) D_sequence tx h_check_model h_sequence_of
  have hk_sequence : HasK P w K mg base "sequence" ["model"] ["model"] 9 (SpF K pre_sequence) (onlyK same1) := hasK_of same1 D_sequence (ok_sequence tx h_check_model h_sequence_of) (fun _ _ _ _ _ _ ws hl => match ws, hl with | [_], _ => rfl) (fun h => h) (by decide)
  have h_arrangements := has_arrangements (P := P) (w := w) (base := base) D_arrangements tx
  have h_is_ring := has_is_ring (P := P) (w := w) (base := base) D_is_ring tx h_are_tied
  have h_hole := has_hole (P := P) (w := w) (base := base) D_hole tx h_check_model h_arrangements h_names_of h_is_ring
  have hk_hole : HasK P w K mg base "hole" ["model"] ["model"] 9 (SpF K pre_hole) (onlyK same1) := hasK_of same1 D_hole (ok_hole tx h_check_model h_arrangements h_names_of h_is_ring) (fun _ _ _ _ _ _ ws hl => match ws, hl with | [_], _ => rfl) (fun h => h) (by decide)
  have h_are_names_of := has_are_names_of (P := P) (w := w) (base := base) D_are_names_of tx h_are_unlike h_are_counts
  have h_is_sequence := has_is_sequence (P := P) (w := w) (base := base) D_is_sequence tx h_check_model h_are_names_of h_is_close_lot h_friends_among
  have h_is_hole := has_is_hole (P := P) (w := w) (base := base) D_is_hole tx h_check_model h_are_names_of h_is_ring
  have h__law_pot := has__law_pot (P := P) (w := w) (base := base) D__law_pot tx
  have h__law_draw := has__law_draw (P := P) (w := w) (base := base) D__law_draw tx
  have h__law_pick := has__law_pick (P := P) (w := w) (base := base) D__law_pick tx h__law_draw
  have h__law_sizes := has__law_sizes (P := P) (w := w) (base := base) D__law_sizes tx h__law_pick
  have h__law_subsets := has__law_subsets (P := P) (w := w) (base := base) D__law_subsets tx
  have h__law_kept := has__law_kept (P := P) (w := w) (base := base) D__law_kept tx
  have h__law_told := has__law_told (P := P) (w := w) (base := base) D__law_told tx h__law_pick h__law_kept h__law_draw h__law_subsets
  have h__law_model := has__law_model (P := P) (w := w) (base := base) D__law_model tx h__law_sizes h__law_told
  have h__law_many := has__law_many (P := P) (w := w) (base := base) D__law_many tx
  have h__law_are_tied := has__law_are_tied (P := P) (w := w) (base := base) D__law_are_tied tx
  have h__law_is_close := has__law_is_close (P := P) (w := w) (base := base) D__law_is_close tx h__law_are_tied
  have h__law_greatest := has__law_greatest (P := P) (w := w) (base := base) D__law_greatest tx h__law_is_close h__law_subsets h__law_many
  have h__law_is_fitted := has__law_is_fitted (P := P) (w := w) (base := base) D__law_is_fitted tx h__law_greatest
  have h__law_orders := has__law_orders (P := P) (w := w) (base := base) D__law_orders tx
  have h__law_is_sequence := has__law_is_sequence (P := P) (w := w) (base := base) D__law_is_sequence tx h__law_is_close h__law_are_tied
  have h__law_sequence := has__law_sequence (P := P) (w := w) (base := base) D__law_sequence tx h__law_orders h__law_is_sequence h__law_many
  have h__law_is_hole := has__law_is_hole (P := P) (w := w) (base := base) D__law_is_hole tx h__law_are_tied
  have h__law_web_right := has__law_web_right (P := P) (w := w) (base := base) D__law_web_right tx h__law_many h_web_of h__law_pick h__law_subsets h__law_greatest h__law_are_tied h_is_close h_is_fitted h__law_is_fitted h_friends h__law_is_close hk_web_of hk_greatest hk_is_close hk_friends
  have h__law_right := has__law_right (P := P) (w := w) (base := base) D__law_right tx h__law_model h__law_web_right h__law_sequence h_sequence h_is_sequence h__law_is_hole h_is_hole hk_hole hk_sequence
  exact ok_law tx h__law_right h__law_pot _ fd F
end K66
open PySem PySem.W PySem.Calls PyProof.Rows
set_option maxRecDepth 100000 in
set_option maxHeartbeats 0 in
theorem PySem.Challenge.cw_sumroads_k66_whole_ties_sequences_holes_holds : PySem.Challenge.rw_sumroads_k66_whole_ties_sequences_holes.Holds := by
  w_on; o_law
  refine HandSHeadRun.head_imp (r := OpenLaw.row PySem.Challenge.rw_sumroads_k66_whole_ties_sequences_holes) (q := view (OpenLaw.row PySem.Challenge.rw_sumroads_k66_whole_ties_sequences_holes).prog [79]) (H := K66.hk) (ob := K66.ob) (M := 4000) (loose := K66.loose) (d := HandSHeadRun.topDef (OpenLaw.row PySem.Challenge.rw_sumroads_k66_whole_ties_sequences_holes).prog 79) (kwd := []) K66.ob_eq K66.run (by kernel_rfl) (by kernel_rfl) (by kernel_rfl) (by rfl) (by first | assumption | decide +kernel) (by decide +kernel) ⟨rfl, rfl, rfl, rfl, rfl, by decide +kernel⟩ ?hw ?hc
  case hw => w_witness2
  case hc =>
    refine FwG.walkG (l := PySem.Challenge.rw_sumroads_k66_whole_ties_sequences_holes) (n := 63) (k := 12) (x := "_law_script") rfl (by decide) (by kernel_rfl) ⟨rfl, by decide, by decide⟩ ?F
    intro w mg fa h Y G hmg0
    obtain ⟨K, KX, c, cx⟩ := Y
    have hmg : mg ("law" : PySem.Str) = some (.ref fa) := by
      have e : (HandSHeadRun.topDef (OpenLaw.row PySem.Challenge.rw_sumroads_k66_whole_ties_sequences_holes).prog 79).name = ("law" : PySem.Str) := by kernel_rfl
      rw [← e]
      exact hmg0
    obtain ⟨fd, hb, hF⟩ := K66.facts (P := (PySem.Challenge.rw_sumroads_k66_whole_ties_sequences_holes).prog) (w := w) KX G hmg c cx
    exact ⟨K, fd, Fw.SpF K Fw.pre_law, KX, hb, fun H a ns hl _ hS => Fw.lawProm hl hS, hF⟩
end
