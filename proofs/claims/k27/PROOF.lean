import PyProof.Rows.All
import Wide.All
import OpenK.AllK
import Wide.FinOn
import KE.KStateDown
import HandS.ForMost
import HandS.Evl
import HandS.Conv
import HandS.Zip
import HandS.TupAny
import HandS.TupMul
import HandS.Gcd
import HandS.IsInst
import HandS.Style
import HandS.RaiseMore
import HandS.Walk
import HandS.Wide
import HandS.WideBits
import HandS.Defaults
import KE.KDictKeyed
import HandS.HeadEnd
import HandS.MakeKwOnly
import HandS.Head0
import HandS.Head1
import HandS.Head2
import HandS.Head3
import HandS.HeadHook1
import HandS.HeadHook2
import KE.DataCmp
import KE.SortData
import KE.GoesDict
import HandS.DictComp
import HandS.TupLen
import KE.KTupSum
import KE.DataMinMax
import PyProof.Rows.RuleB_bool
import KE.GoesNew
import PyProof.Rows.SeqMore
import HandS.TupSets
import KE.DataAny
import KE.KDictSum
import KE.KDictCopyH
import HandS.WordsDict
import KE.KDictDisplayH
import HandS.Iter
import HandS.Text
import HandS.Comp
import HandS.Call
import PyProof.Rows.InDataRows
import KE.LtSeq
import PyProof.Rows.SetFrom
import PySem.Challenge.RW_sumroads_k27_any_value_as_road_or_closed
set_option Elab.async false
set_option linter.all false
set_option maxRecDepth 100000
set_option maxHeartbeats 4000000
/-! Fw0: what stands for a dict with rows as keys -/
namespace FwD
open PySem PySem.Spec PyProof.Rows L2
mutual
/-- an int tree as a key -/
def keyT : PyData → Option NestedKey
  | .int i => some (.num i)
  | .tuple ds => (keyTs ds).map .tup
  | _ => none
def keyTs : List PyData → Option (List NestedKey)
  | [] => some []
  | d :: ds => (keyT d).bind fun k => (keyTs ds).map fun ks => k :: ks
end
def entryW (w : World) (x : NestedKey × Addr × Value) : DictEntry := ⟨NestedKey.hash w x.1, .ref x.2.1, x.2.2⟩
def exact (l : Addr) (o : Obj) : HO := .ext fun h => h.get? l = some o
def EntV (Rk : PyData → Addr → Prop) (p : PyData × V) (q : NestedKey × Addr × Value) : Prop := keyT p.1 = some q.1 ∧ q.1.depth ≤ 8 ∧ Rk p.1 q.2.1 ∧ RelV p.2 q.2.2
def DicV (Rk : PyData → Addr → Prop) (H : Hp) (l : Addr) (kvs : List (PyData × V)) : Prop := ∃ (o : Obj) (es : Array DictEntry) (ep : Nat) (xs : List (NestedKey × Addr × Value)),
  H l = some (exact l o) ∧ (l == sysModules) = false ∧ o.ExactDict ∧ o.data = .dict es ep ∧ (∀ w, es.toList = xs.map (entryW w)) ∧ (xs.map (·.1)).Nodup ∧ kvs.length ≤ sizeLine ∧ Paired (EntV Rk) kvs xs
theorem paired_imp {α β : Type} {F G : α → β → Prop} (m : ∀ a b, F a b → G a b) : ∀ {l : List α} {r : List β}, Paired F l r → Paired G l r
  | _, _, .nil => .nil
  | _, _, .cons h t => .cons (m _ _ h) (paired_imp m t)
theorem DicV.mono {Rk Rk' : PyData → Addr → Prop} {H H' : Hp} {l : Addr} {kvs : List (PyData × V)} (D : DicV Rk H l kvs) (m : ∀ d a, Rk d a → Rk' d a) (e : ∀ o, H l = some o → H' l = some o) : DicV Rk' H' l kvs :=
  let ⟨o, es, ep, xs, e1, e2, e3, e4, e5, e6, e7, e8⟩ := D
  ⟨o, es, ep, xs, e _ e1, e2, e3, e4, e5, e6, e7, paired_imp (fun _ _ h => ⟨h.1, h.2.1, m _ _ h.2.2.1, h.2.2.2⟩) e8⟩
end FwD
namespace Fw
open PySem PySem.Spec PyProof.Rows L2 Evl
mutual
theorem dpm {K : PySem.W.Frag} {H H' : Hp} (e : Ex H H') : ∀ (d : PyData) {v : V}, Dp K H v d → Dp K H' v d
  | .none, _, h => by cases h; exact .non
  | .bool _, _, h => by cases h; exact .bl _
  | .int _, _, h => by cases h; exact .int _
  | .str _, _, h => by cases h; exact .str _
  | .list ds, _, h => by
    cases h with
    | lst h a => exact .lst (ex_l e h) (dpmAll e ds a)
  | .tuple ds, _, h => by
    cases h with
    | tup h a => exact .tup (ex_t e h) (dpmAll e ds a)
  | .dict _, _, h => by cases h
theorem dpmAll {K : PySem.W.Frag} {H H' : Hp} (e : Ex H H') : ∀ (ds : List PyData) {vs : List V}, DpAll K H vs ds → DpAll K H' vs ds
  | [], _, h => by cases h; exact .nil
  | d :: ds, _, h => by
    cases h with
    | cons h t => exact .cons (dpm e d h) (dpmAll e ds t)
end
end Fw
/-! Fw: weakest preconditions of the layer's readings over data (PyData), with a known heap beside the real one. -/
namespace Fw
open PySem PySem.Spec PyProof.Rows L2 Evl

/-- an object of the program as data: its class, its fields -/
def objD (C : Addr) (kvs : List (Str × PyData)) : PyData := .dict ((.none, .int (C : Nat)) :: kvs.map fun q => (.str q.1, q.2))
mutual
/-- a value stands for data; an empty dict too; an object that is never changed again -/
inductive Dx (K : PySem.W.Frag) (H : Hp) : V → PyData → Prop
  | non : Dx K H .non .none
  | bl (b : Bool) : Dx K H (.bl b) (.bool b)
  | int (n : Int) : Dx K H (.int n) (.int n)
  | str (t : Str) : Dx K H (.str t) (.str t)
  | lst {l : Addr} {vs : List V} {es : List PyData} (h : SqL K H l vs) (r : DxAll K H vs es) : Dx K H (.ref l) (.list es)
  | tup {l : Addr} {vs : List V} {es : List PyData} (h : SqT K H l vs) (r : DxAll K H vs es) : Dx K H (.ref l) (.tuple es)
  | dic {l : Addr} (h : H l = some (.dK [])) : Dx K H (.ref l) (.dict [])
  | obj {l C dx : Addr} {xs : List Str} {vs : List V} {es : List PyData} (h : H l = some (.ins C dx (xs.zip vs))) (n : xs.length = es.length) (r : DxAll K H vs es) : Dx K H (.ref l) (.dict ((.none, .int (C : Nat)) :: (xs.zip es).map fun q => (.str q.1, q.2)))
  | dct {l : Addr} {ks : List PyData} {vs : List V} {es : List PyData} (h : FwD.DicV (fun d a => Dp K H (.ref a) d) H l (ks.zip vs)) (ne : ks ≠ []) (n : ks.length = es.length) (r : DxAll K H vs es) : Dx K H (.ref l) (.dict (ks.zip es))
  | dc0 {l : Addr} (h : FwD.DicV (fun d a => Dp K H (.ref a) d) H l []) : Dx K H (.ref l) (.dict [(.none, .none)])
inductive DxAll (K : PySem.W.Frag) (H : Hp) : List V → List PyData → Prop
  | nil : DxAll K H [] []
  | cons {v : V} {vs : List V} {e : PyData} {es : List PyData} (h : Dx K H v e) (r : DxAll K H vs es) : DxAll K H (v :: vs) (e :: es)
end
theorem dct_ne {ks es : List PyData} (ne : ks ≠ []) (n : ks.length = es.length) : ∃ q r, ks.zip es = q :: r := by
  cases ks with
  | nil => exact absurd rfl ne
  | cons k ks =>
    cases es with
    | nil => cases n
    | cons e es => exact ⟨_, _, rfl⟩
mutual
theorem dp_dx {K : PySem.W.Frag} {H : Hp} : ∀ (d : PyData) {v : V}, Dp K H v d → Dx K H v d
  | .none, _, h => by cases h; exact .non
  | .bool _, _, h => by cases h; exact .bl _
  | .int _, _, h => by cases h; exact .int _
  | .str _, _, h => by cases h; exact .str _
  | .list ds, _, h => by
    cases h with
    | lst h a => exact .lst h (dpAll_dx ds a)
  | .tuple ds, _, h => by
    cases h with
    | tup h a => exact .tup h (dpAll_dx ds a)
  | .dict _, _, h => by cases h
theorem dpAll_dx {K : PySem.W.Frag} {H : Hp} : ∀ (ds : List PyData) {vs : List V}, DpAll K H vs ds → DxAll K H vs ds
  | [], _, h => by cases h; exact .nil
  | d :: ds, _, h => by
    cases h with
    | cons h t => exact .cons (dp_dx d h) (dpAll_dx ds t)
end
mutual
theorem dx_dp {K : PySem.W.Frag} {H : Hp} : ∀ (d : PyData) {v : V}, d.hasDict = false → Dx K H v d → Dp K H v d
  | .none, _, _, h => by cases h; exact .non
  | .bool _, _, _, h => by cases h; exact .bl _
  | .int _, _, _, h => by cases h; exact .int _
  | .str _, _, _, h => by cases h; exact .str _
  | .list ds, _, n, h => by
    cases h with
    | lst h a => exact .lst h (dxAll_dp ds n a)
  | .tuple ds, _, n, h => by
    cases h with
    | tup h a => exact .tup h (dxAll_dp ds n a)
  | .dict _, _, n, h => by cases n
theorem dxAll_dp {K : PySem.W.Frag} {H : Hp} : ∀ (ds : List PyData) {vs : List V}, PyData.hasDictAll ds = false → DxAll K H vs ds → DpAll K H vs ds
  | [], _, _, h => by cases h; exact .nil
  | d :: ds, _, n, h => by
    have n' : d.hasDict = false ∧ PyData.hasDictAll ds = false := by
      have e : (d.hasDict || PyData.hasDictAll ds) = false := n
      simpa using e
    cases h with
    | cons h t => exact .cons (dx_dp d n'.1 h) (dxAll_dp ds n'.2 t)
end
section
variable {K : PySem.W.Frag}
mutual
theorem dx_mono {H H' : Hp} (e : Ex H H') : ∀ {v : V} {d : PyData}, Dx K H v d → Dx K H' v d
  | _, _, .non => .non
  | _, _, .bl _ => .bl _
  | _, _, .int _ => .int _
  | _, _, .str _ => .str _
  | _, _, .lst h a => .lst (ex_l e h) (dxAll_mono e a)
  | _, _, .tup h a => .tup (ex_t e h) (dxAll_mono e a)
  | _, _, .dic h => .dic (e _ _ h)
  | _, _, .obj h n a => .obj (e _ _ h) n (dxAll_mono e a)
  | _, _, .dct h ne n a => .dct (h.mono (fun d _ q => dpm e d q) (e _)) ne n (dxAll_mono e a)
  | _, _, .dc0 h => .dc0 (h.mono (fun d _ q => dpm e d q) (e _))
theorem dxAll_mono {H H' : Hp} (e : Ex H H') : ∀ {vs : List V} {ds : List PyData}, DxAll K H vs ds → DxAll K H' vs ds
  | _, _, .nil => .nil
  | _, _, .cons h t => .cons (dx_mono e h) (dxAll_mono e t)
end
theorem dp_mono {H H' : Hp} (e : Ex H H') (d : PyData) {v : V} (h : Dx K H v d) : Dx K H' v d := dx_mono e h
theorem dpAll_mono {H H' : Hp} (e : Ex H H') (ds : List PyData) {vs : List V} (h : DxAll K H vs ds) : DxAll K H' vs ds := dxAll_mono e h
mutual
theorem dp_noDict {H : Hp} : ∀ (d : PyData) {v : V}, Dp K H v d → d.hasDict = false
  | .none, _, _ => rfl
  | .bool _, _, _ => rfl
  | .int _, _, _ => rfl
  | .str _, _, _ => rfl
  | .list ds, _, h => by
    cases h with
    | lst h a => exact dpAll_noDict ds a
  | .tuple ds, _, h => by
    cases h with
    | tup h a => exact dpAll_noDict ds a
  | .dict _, _, h => by cases h
theorem dpAll_noDict {H : Hp} : ∀ (ds : List PyData) {vs : List V}, DpAll K H vs ds → PyData.hasDictAll ds = false
  | [], _, _ => rfl
  | d :: ds, _, h => by
    cases h with
    | cons h t =>
      show (d.hasDict || PyData.hasDictAll ds) = false
      rw [dp_noDict d h, dpAll_noDict ds t]
      rfl
end
theorem dp_mono0 {H H' : Hp} (e : Ex H H') (d : PyData) {v : V} (h : Dp K H v d) : Dp K H' v d := dx_dp d (dp_noDict d h) (dp_mono e d (dp_dx d h))
theorem dpAll_len {H : Hp} : ∀ {vs : List V} {ds : List PyData}, DxAll K H vs ds → vs.length = ds.length
  | _, _, .nil => rfl
  | _, _, .cons _ t => by rw [List.length_cons, List.length_cons, dpAll_len t]
theorem dpAll_get {H : Hp} : ∀ {vs : List V} {ds : List PyData} {i : Nat} {d : PyData}, DxAll K H vs ds → ds[i]? = some d → ∃ v, vs[i]? = some v ∧ Dx K H v d
  | _, _, _, _, .nil, h => by simp at h
  | _, _, 0, _, .cons (v := v) h _, e => by
    have e' := Option.some.inj e
    subst e'
    exact ⟨v, rfl, h⟩
  | _, _, i + 1, _, .cons _ t, e => by
    obtain ⟨v, h1, h2⟩ := dpAll_get (i := i) t e
    exact ⟨v, h1, h2⟩
theorem dpAll_app {H : Hp} : ∀ {vs : List V} {ds : List PyData} {ws : List V} {es : List PyData}, DxAll K H vs ds → DxAll K H ws es → DxAll K H (vs ++ ws) (ds ++ es)
  | _, _, _, _, .nil, h => h
  | _, _, _, _, .cons h t, h2 => .cons h (dpAll_app t h2)
theorem dpAll_take {H : Hp} : ∀ (n : Nat) {vs : List V} {ds : List PyData}, DxAll K H vs ds → DxAll K H (vs.take n) (ds.take n)
  | 0, _, _, _ => .nil
  | _ + 1, _, _, .nil => .nil
  | n + 1, _, _, .cons h t => .cons h (dpAll_take n t)
theorem dpAll_drop {H : Hp} : ∀ (n : Nat) {vs : List V} {ds : List PyData}, DxAll K H vs ds → DxAll K H (vs.drop n) (ds.drop n)
  | 0, _, _, h => h
  | _ + 1, _, _, .nil => .nil
  | n + 1, _, _, .cons _ t => dpAll_drop n t
theorem dpAll_rev {H : Hp} : ∀ {vs : List V} {ds : List PyData}, DxAll K H vs ds → DxAll K H vs.reverse ds.reverse
  | _, _, .nil => .nil
  | _, _, .cons h t => by
    rw [List.reverse_cons, List.reverse_cons]
    exact dpAll_app (dpAll_rev t) (.cons h .nil)
theorem dpAll_set {H : Hp} {v : V} {d : PyData} (hv : Dx K H v d) : ∀ (n : Nat) {vs : List V} {ds : List PyData}, DxAll K H vs ds → DxAll K H (vs.set n v) (ds.set n d)
  | _, _, _, .nil => .nil
  | 0, _, _, .cons _ t => .cons hv t
  | n + 1, _, _, .cons h t => .cons h (dpAll_set hv n t)
theorem dpAll_rep {H : Hp} {vs : List V} {ds : List PyData} (h : DxAll K H vs ds) : ∀ n : Nat, DxAll K H (List.replicate n vs).flatten (List.replicate n ds).flatten
  | 0 => .nil
  | n + 1 => by
    rw [List.replicate_succ, List.replicate_succ, List.flatten_cons, List.flatten_cons]
    exact dpAll_app h (dpAll_rep h n)
theorem dpAll_ints {H : Hp} : ∀ {ns : List Int} {vs : List V}, DxAll K H vs (ns.map .int) → vs = ns.map V.int
  | [], _, h => by cases h; rfl
  | n :: ns, _, h => by
    cases h with
    | cons h t =>
      cases h
      rw [dpAll_ints t]
      rfl
theorem dpAll_bools {H : Hp} : ∀ {ns : List Bool} {vs : List V}, DxAll K H vs (ns.map .bool) → vs = ns.map V.bl
  | [], _, h => by cases h; rfl
  | n :: ns, _, h => by
    cases h with
    | cons h t =>
      cases h
      rw [dpAll_bools t]
      rfl
theorem dp_tup {H : Hp} {v : V} {ds : List PyData} (h : Dx K H v (.tuple ds)) : ∃ a xs, v = .ref a ∧ SqT K H a xs ∧ DxAll K H xs ds := by
  cases h with
  | tup h a => exact ⟨_, _, rfl, h, a⟩
theorem dp_lst {H : Hp} {v : V} {ds : List PyData} (h : Dx K H v (.list ds)) : ∃ a xs, v = .ref a ∧ SqL K H a xs ∧ DxAll K H xs ds := by
  cases h with
  | lst h a => exact ⟨_, _, rfl, h, a⟩
theorem dp_int {H : Hp} {v : V} {i : Int} (h : Dx K H v (.int i)) : v = .int i := by cases h; rfl
theorem dp_bl {H : Hp} {v : V} {i : Bool} (h : Dx K H v (.bool i)) : v = .bl i := by cases h; rfl
theorem dp_str {H : Hp} {v : V} {i : Str} (h : Dx K H v (.str i)) : v = .str i := by cases h; rfl
theorem dp_non {H : Hp} {v : V} (h : Dx K H v .none) : v = .non := by cases h; rfl

/-! ### data without lists -/
mutual
def flatD : PyData → Bool
  | .list _ => false
  | .dict _ => false
  | .tuple xs => flatAllD xs
  | _ => true
def flatAllD : List PyData → Bool
  | [] => true
  | x :: xs => flatD x && flatAllD xs
end
def del (H : Hp) (l : Addr) : Hp := fun a => if a = l then none else H a
theorem del_same {H : Hp} {l : Addr} : del H l l = none := if_pos rfl
theorem del_ne {H : Hp} {l a : Addr} (h : a ≠ l) : del H l a = H a := if_neg h
theorem sqT_del {H : Hp} {l a : Addr} {vs xs : List V} (hl : H l = some (.lst vs)) (h : SqT K H a xs) : SqT K (del H l) a xs := by
  have ne : ∀ {o : HO}, H a = some o → (∀ z, o ≠ .lst z) → a ≠ l := fun e n z => by
    rw [z, hl] at e
    exact n _ (Option.some.inj e).symm
  rcases h with (h | ⟨o, h⟩) | h
  · refine .inl (.inl ?_)
    rw [del_ne (ne h (fun _ q => nomatch q))]
    exact h
  · refine .inl (.inr ⟨o, ?_⟩)
    rw [del_ne (ne h (fun _ q => nomatch q))]
    exact h
  · exact .inr h
mutual
theorem dp_del {H : Hp} {l : Addr} {vs : List V} (hl : H l = some (.lst vs)) : ∀ (d : PyData) {v : V}, flatD d = true → Dx K H v d → Dx K (del H l) v d
  | .none, _, _, h => by cases h; exact .non
  | .bool _, _, _, h => by cases h; exact .bl _
  | .int _, _, _, h => by cases h; exact .int _
  | .str _, _, _, h => by cases h; exact .str _
  | .list ds, _, f, h => by cases f
  | .tuple ds, _, f, h => by
    cases h with
    | tup h a => exact .tup (sqT_del hl h) (dpAll_del hl ds (by simpa [flatD] using f) a)
  | .dict _, _, f, h => by cases f
theorem dpAll_del {H : Hp} {l : Addr} {vs : List V} (hl : H l = some (.lst vs)) : ∀ (ds : List PyData) {us : List V}, flatAllD ds = true → DxAll K H us ds → DxAll K (del H l) us ds
  | [], _, _, h => by cases h; exact .nil
  | d :: ds, _, f, h => by
    cases h with
    | cons h t =>
      have f' : flatD d = true ∧ flatAllD ds = true := by simpa [flatAllD] using f
      exact .cons (dp_del hl d f'.1 h) (dpAll_del hl ds f'.2 t)
end
end

/-! ### the state: the known heap, the real heap, one list of two ints that may change -/
def PotB (a b : Int) : Prop := 0 ≤ a ∧ 0 ≤ b ∧ b < 4294967296
def PotOk (Hk H : Hp) : Option Addr → Prop
  | none => True
  | some p => Hk p = none ∧ ∃ a b, H p = some (.lst [.int a, .int b]) ∧ PotB a b
structure Go (p : Option Addr) (Hk H Hk' H' : Hp) : Prop where
  kk : Ex Hk Hk'
  kr : Ex Hk' H'
  rr : ∀ a o, p ≠ some a → H a = some o → H' a = some o
  nk : ∀ a, H a ≠ none → Hk a = none → Hk' a = none
  po : PotOk Hk' H' p
section
variable {p : Option Addr} {Hk H Hk1 H1 Hk2 H2 : Hp}
theorem Go.refl (e : Ex Hk H) (po : PotOk Hk H p) : Go p Hk H Hk H := ⟨Ex.refl _, e, fun _ _ _ h => h, fun _ _ h => h, po⟩
theorem Go.live (g : Go p Hk H Hk1 H1) {a : Addr} (h1 : H a ≠ none) : H1 a ≠ none := fun z => by
  by_cases e : p = some a
  · subst e
    obtain ⟨_, _, _, h, _⟩ := g.po
    rw [z] at h
    cases h
  · cases q : H a with
    | none => exact h1 q
    | some o =>
      rw [g.rr a o e q] at z
      cases z
theorem Go.trans (g : Go p Hk H Hk1 H1) (g2 : Go p Hk1 H1 Hk2 H2) : Go p Hk H Hk2 H2 :=
  ⟨g.kk.trans g2.kk, g2.kr, fun a o n h => g2.rr a o n (g.rr a o n h), fun a h1 h2 => g2.nk a (g.live h1) (g.nk a h1 h2), g2.po⟩
theorem Go.new {q : Addr} {o : HO} (e : Ex Hk H) (po : PotOk Hk H p) (hq : H q = none) : Go p Hk H (upd Hk q o) (upd H q o) := by
  have hk : Hk q = none := fresh_back e hq
  refine ⟨Ex.new hk, fun a u h => ?_, fun a u _ h => ?_, fun a h1 h2 => ?_, ?_⟩
  · by_cases z : a = q
    · subst z
      rw [upd_same] at h
      rw [upd_same]
      exact h
    · rw [upd_ne z] at h
      rw [upd_ne z]
      exact e a u h
  · rw [upd_ne (ne_of_none h hq)]
    exact h
  · have z : a ≠ q := fun z => h1 (by rw [z]; exact hq)
    rw [upd_ne z]
    exact h2
  · cases p with
    | none => exact True.intro
    | some p =>
      obtain ⟨h1, a, b, h2, h3⟩ := po
      have z : p ≠ q := ne_of_none h2 hq
      refine ⟨?_, a, b, ?_, h3⟩
      · rw [upd_ne z]
        exact h1
      · rw [upd_ne z]
        exact h2
theorem Go.lift (po : PotOk Hk H p) (g : Go none Hk H Hk1 H1) : Go p Hk H Hk1 H1 :=
  ⟨g.kk, g.kr, fun a o _ h => g.rr a o (fun z => nomatch z) h, g.nk, by
    cases p with
    | none => exact True.intro
    | some p =>
      obtain ⟨h1, a, b, h2, h3⟩ := po
      exact ⟨g.nk p (fun z => by rw [z] at h2; cases h2) h1, a, b, g.rr p _ (fun z => nomatch z) h2, h3⟩⟩
end

/-! ### the slots -/
/-- a known thing that stays as it is -/
structure Ext where
  S : Hp → V → Prop
  mono : ∀ Hk Hk' v, Ex Hk Hk' → S Hk v → S Hk' v
/-- an own thing that is no list, and may change -/
structure Mov where
  S : Hp → Addr → HO → Prop
  mono : ∀ Hk Hk' l o, Ex Hk Hk' → S Hk l o → S Hk' l o
  nl : ∀ Hk l o, S Hk l o → ∀ vs, o ≠ .lst vs
/-- an own thing of several objects, that may change; no more than one of its kind stands in a def -/
structure Big where
  me : Addr
  as : List Addr
  S : Hp → Hp → Prop
  mono : ∀ Hk H Hk' H', Ex Hk Hk' → (∀ a ∈ as, H' a = H a) → S Hk H → S Hk' H'
inductive Slot where
  | no
  | pot
  | dat (d : PyData)
  | own (ds : List PyData)
  | ext (S : Ext)
  | mov (S : Mov)
  | big (B : Big)
def Slot.chg : Slot → Bool
  | .own _ => true
  | .mov _ => true
  | _ => false
def BigsOk (σ : List (Option V)) (env : List Slot) : Prop := ∀ (i j : Nat) (B : Big) (s : Slot) (l : Addr), env[i]? = some (.big B) → env[j]? = some s → s.chg = true → σ[j]? = some (some (.ref l)) → l ∉ B.as
def SlOk (K : PySem.W.Frag) (p : Option Addr) (H0 Hk H : Hp) (ov : Option V) : Slot → Prop
  | .no => True
  | .pot => ∃ a, p = some a ∧ ov = some (.ref a)
  | .dat d => ∃ v, ov = some v ∧ Dx K Hk v d
  | .own ds => ∃ l vs, ov = some (.ref l) ∧ H0 l = none ∧ Hk l = none ∧ p ≠ some l ∧ H l = some (.lst vs) ∧ DxAll K Hk vs ds
  | .ext S => ∃ v, ov = some v ∧ S.S Hk v
  | .mov S => ∃ l o, ov = some (.ref l) ∧ H0 l = none ∧ Hk l = none ∧ p ≠ some l ∧ H l = some o ∧ S.S Hk l o
  | .big B => ov = some (.ref B.me) ∧ (∀ a ∈ B.as, H0 a = none ∧ Hk a = none ∧ p ≠ some a ∧ H a ≠ none) ∧ B.S Hk H
structure En (K : PySem.W.Frag) (p : Option Addr) (H0 Hk H : Hp) (σ : List (Option V)) (env : List Slot) : Prop where
  len : σ.length = env.length
  slot : ∀ (i : Nat) (sl : Slot), env[i]? = some sl → ∃ ov, σ[i]? = some ov ∧ SlOk K p H0 Hk H ov sl
  apart : ∀ (i j : Nat) (l : Addr) (ds es : List PyData), env[i]? = some (.own ds) → env[j]? = some (.own es) → σ[i]? = some (some (.ref l)) → σ[j]? = some (some (.ref l)) → i = j
  bigs : BigsOk σ env
theorem bigs_set {σ : List (Option V)} {env : List Slot} {i : Nat} {ov : Option V} {sl : Slot} (h : BigsOk σ env) (hb : ∀ B, sl ≠ .big B) (hc : sl.chg = true → ∀ l, ov = some (V.ref l) → ∀ (k : Nat) (B : Big), env[k]? = some (.big B) → l ∉ B.as) : BigsOk (σ.set i ov) (env.set i sl) := by
  intro a b B s l e1 e2 c e3
  have f1 : env[a]? = some (.big B) := by
    by_cases z : i = a
    · subst z
      rw [List.getElem?_set] at e1
      simp only [if_true] at e1
      split at e1
      · exact absurd (Option.some.inj e1) (hb B)
      · cases e1
    · rwa [List.getElem?_set_ne z] at e1
  by_cases z : i = b
  · subst z
    rw [List.getElem?_set] at e2 e3
    simp only [if_true] at e2 e3
    split at e2
    · have e4 := Option.some.inj e2
      subst e4
      split at e3
      · exact hc c l (Option.some.inj e3) a B f1
      · cases e3
    · cases e2
  · rw [List.getElem?_set_ne z] at e2 e3
    exact h a b B s l f1 e2 c e3
theorem bigs_put {σ : List (Option V)} {env : List Slot} {i : Nat} {sl : Slot} (h : BigsOk σ env) (hb : ∀ B, sl ≠ .big B) (hc : sl.chg = true → ∀ l, σ[i]? = some (some (V.ref l)) → ∀ (k : Nat) (B : Big), env[k]? = some (.big B) → l ∉ B.as) : BigsOk σ (env.set i sl) := by
  intro a b B s l e1 e2 c e3
  have f1 : env[a]? = some (.big B) := by
    by_cases z : i = a
    · subst z
      rw [List.getElem?_set] at e1
      simp only [if_true] at e1
      split at e1
      · exact absurd (Option.some.inj e1) (hb B)
      · cases e1
    · rwa [List.getElem?_set_ne z] at e1
  by_cases z : i = b
  · subst z
    rw [List.getElem?_set] at e2
    simp only [if_true] at e2
    split at e2
    · have e4 := Option.some.inj e2
      subst e4
      exact hc c l e3 a B f1
    · cases e2
  · rw [List.getElem?_set_ne z] at e2
    exact h a b B s l f1 e2 c e3
section
variable {K : PySem.W.Frag} {p : Option Addr} {H0 Hk H Hk1 H1 : Hp} {σ : List (Option V)} {env : List Slot}
theorem SlOk.go (g : Go p Hk H Hk1 H1) {ov : Option V} : ∀ {sl : Slot}, SlOk K p H0 Hk H ov sl → SlOk K p H0 Hk1 H1 ov sl
  | .no, _ => True.intro
  | .pot, h => h
  | .dat d, h => let ⟨v, e, r⟩ := h; ⟨v, e, dp_mono g.kk d r⟩
  | .own ds, h => let ⟨l, vs, e, h0, hk, hp, hl, r⟩ := h
    ⟨l, vs, e, h0, g.nk l (fun z => by rw [z] at hl; cases hl) hk, hp, g.rr l _ hp hl, dpAll_mono g.kk ds r⟩
  | .ext S, h => let ⟨v, e, r⟩ := h; ⟨v, e, S.mono _ _ v g.kk r⟩
  | .mov S, h => let ⟨l, o, e, h0, hk, hp, hl, r⟩ := h
    ⟨l, o, e, h0, g.nk l (fun z => by rw [z] at hl; cases hl) hk, hp, g.rr l _ hp hl, S.mono _ _ l o g.kk r⟩
  | .big B, h => by
    obtain ⟨e, f, r⟩ := h
    have same : ∀ a ∈ B.as, H1 a = H a := fun a ha => by
      obtain ⟨_, _, hp, hl⟩ := f a ha
      cases q : H a with
      | none => exact absurd q hl
      | some o => exact g.rr a o hp q
    exact ⟨e, fun a ha => ⟨(f a ha).1, g.nk a (f a ha).2.2.2 (f a ha).2.1, (f a ha).2.2.1, by rw [same a ha]; exact (f a ha).2.2.2⟩, B.mono _ _ _ _ g.kk same r⟩
theorem En.big_live (h : En K p H0 Hk H σ env) {k : Nat} {B : Big} (e : env[k]? = some (.big B)) {a : Addr} (ha : a ∈ B.as) : H a ≠ none := by
  obtain ⟨ov, _, _, f, _⟩ := h.slot k _ e
  exact (f a ha).2.2.2
theorem En.go (h : En K p H0 Hk H σ env) (g : Go p Hk H Hk1 H1) : En K p H0 Hk1 H1 σ env :=
  ⟨h.len, fun i sl e => let ⟨ov, e1, r⟩ := h.slot i sl e; ⟨ov, e1, r.go g⟩, h.apart, h.bigs⟩
theorem En.set_any (h : En K p H0 Hk H σ env) {i : Nat} {ov : Option V} {sl : Slot} (r : SlOk K p H0 Hk H ov sl) (hn : ∀ ds, sl ≠ .own ds) (hb : ∀ B, sl ≠ .big B) (hc : sl.chg = true → ∀ l, ov = some (V.ref l) → ∀ (k : Nat) (B : Big), env[k]? = some (.big B) → l ∉ B.as) : En K p H0 Hk H (σ.set i ov) (env.set i sl) := by
  refine ⟨by rw [List.length_set, List.length_set, h.len], fun j s e => ?_, fun j k l ds es e1 e2 e3 e4 => ?_, bigs_set h.bigs hb hc⟩
  · by_cases z : i = j
    · subst z
      rw [List.getElem?_set] at e
      simp only [if_true] at e
      split at e
      · rename_i hlt
        have e' := Option.some.inj e
        subst e'
        exact ⟨ov, by rw [List.getElem?_set]; simp [h.len, hlt], r⟩
      · cases e
    · rw [List.getElem?_set_ne z] at e
      rw [List.getElem?_set_ne z]
      exact h.slot j s e
  · have n : ∀ {m : Nat} {ds : List PyData}, (env.set i sl)[m]? = some (.own ds) → i ≠ m ∧ env[m]? = some (.own ds) := fun {m ds} e => by
      by_cases z : i = m
      · subst z
        rw [List.getElem?_set] at e
        simp only [if_true] at e
        split at e
        · exact absurd (Option.some.inj e) (hn ds)
        · cases e
      · rw [List.getElem?_set_ne z] at e
        exact ⟨z, e⟩
    obtain ⟨n1, f1⟩ := n e1
    obtain ⟨n2, f2⟩ := n e2
    rw [List.getElem?_set_ne n1] at e3
    rw [List.getElem?_set_ne n2] at e4
    exact h.apart j k l ds es f1 f2 e3 e4
theorem En.set (h : En K p H0 Hk H σ env) {i : Nat} {v : V} {d : PyData} (r : Dx K Hk v d) : En K p H0 Hk H (σ.set i (some v)) (env.set i (.dat d)) :=
  h.set_any ⟨v, rfl, r⟩ (fun _ q => nomatch q) (fun _ q => nomatch q) (fun q => nomatch q)
theorem En.wipe1 (h : En K p H0 Hk H σ env) (i : Nat) : En K p H0 Hk H (σ.set i none) (env.set i .no) :=
  h.set_any True.intro (fun _ q => nomatch q) (fun _ q => nomatch q) (fun q => nomatch q)
/-- a new list that the def may change -/
theorem En.set_own (h : En K p H0 Hk H σ env) {i : Nat} {l : Addr} {vs : List V} {ds : List PyData} (h0 : H0 l = none) (hl : H l = none) (hk : Hk l = none) (hp : p ≠ some l) (r : DxAll K Hk vs ds) : En K p H0 Hk (upd H l (.lst vs)) (σ.set i (some (.ref l))) (env.set i (.own ds)) := by
  have old : ∀ {j : Nat} {s : Slot} {ov : Option V}, SlOk K p H0 Hk H ov s → SlOk K p H0 Hk (upd H l (.lst vs)) ov s := fun {j s ov} q => by
    cases s with
    | no => exact True.intro
    | pot => exact q
    | dat d => exact q
    | ext S => exact q
    | mov S =>
      obtain ⟨m, o, a1, a2, a3, a4, a5, a6⟩ := q
      refine ⟨m, o, a1, a2, a3, a4, ?_, a6⟩
      rw [upd_ne (ne_of_none a5 hl)]
      exact a5
    | own es =>
      obtain ⟨m, ws, a1, a2, a3, a4, a5, a6⟩ := q
      refine ⟨m, ws, a1, a2, a3, a4, ?_, a6⟩
      rw [upd_ne (ne_of_none a5 hl)]
      exact a5
    | big B =>
      obtain ⟨a1, a2, a3⟩ := q
      have ne : ∀ a ∈ B.as, a ≠ l := fun a ha z => (a2 a ha).2.2.2 (by rw [z]; exact hl)
      exact ⟨a1, fun a ha => by rw [upd_ne (ne a ha)]; exact a2 a ha, B.mono _ _ _ _ (Ex.refl _) (fun a ha => upd_ne (ne a ha)) a3⟩
  refine ⟨by rw [List.length_set, List.length_set, h.len], fun j s e => ?_, fun j k m ds' es e1 e2 e3 e4 => ?_, bigs_set h.bigs (fun _ q => nomatch q) (fun _ l' e k B hB ha => h.big_live hB ha (by cases e; exact hl))⟩
  · by_cases z : i = j
    · subst z
      rw [List.getElem?_set] at e
      simp only [if_true] at e
      split at e
      · rename_i hlt
        have e' := Option.some.inj e
        subst e'
        exact ⟨some (.ref l), by rw [List.getElem?_set]; simp [h.len, hlt], l, vs, rfl, h0, hk, hp, upd_same, r⟩
      · cases e
    · rw [List.getElem?_set_ne z] at e
      rw [List.getElem?_set_ne z]
      obtain ⟨ov, e1, q⟩ := h.slot j s e
      exact ⟨ov, e1, old (j := j) q⟩
  · -- the new one is no one of the old
    have live : ∀ {m' : Addr} {j : Nat} {ds : List PyData}, env[j]? = some (.own ds) → σ[j]? = some (some (.ref m')) → m' ≠ l := fun {m' j ds} e f => by
      obtain ⟨ov, g1, m2, ws, a1, a2, a3, a4, a5, a6⟩ := h.slot j _ e
      rw [f] at g1
      have g2 := Option.some.inj g1
      rw [← g2] at a1
      have g3 : m' = m2 := by
        have := Option.some.inj a1
        injection this
      rw [g3]
      exact ne_of_none a5 hl
    by_cases z : i = j
    · by_cases z2 : i = k
      · rw [← z, ← z2]
      · subst z
        rw [List.getElem?_set_ne z2] at e2 e4
        have hj : m = l := by
          rw [List.getElem?_set] at e3
          simp only [if_true] at e3
          split at e3
          · have := Option.some.inj (Option.some.inj e3)
            injection this with q
            exact q.symm
          · cases e3
        exact absurd hj (live e2 e4)
    · by_cases z2 : i = k
      · subst z2
        rw [List.getElem?_set_ne z] at e1 e3
        have hj : m = l := by
          rw [List.getElem?_set] at e4
          simp only [if_true] at e4
          split at e4
          · have := Option.some.inj (Option.some.inj e4)
            injection this with q
            exact q.symm
          · cases e4
        exact absurd hj (live e1 e3)
      · rw [List.getElem?_set_ne z] at e1 e3
        rw [List.getElem?_set_ne z2] at e2 e4
        exact h.apart j k m ds' es e1 e2 e3 e4
/-- a list made since: the def's own -/
theorem En.add_own (h : En K p H0 Hk H σ env) (h' : En K p H0 Hk1 H1 σ env) {i : Nat} {l : Addr} {vs : List V} {ds : List PyData} (h0 : H0 l = none) (hl : H l = none) (h1 : H1 l = some (.lst vs)) (hk : Hk1 l = none) (hp : p ≠ some l) (r : DxAll K Hk1 vs ds) : En K p H0 Hk1 H1 (σ.set i (some (.ref l))) (env.set i (.own ds)) := by
  have live : ∀ {m' : Addr} {j : Nat} {ds : List PyData}, env[j]? = some (.own ds) → σ[j]? = some (some (.ref m')) → m' ≠ l := fun {m' j ds} e f => by
    obtain ⟨ov, g1, m2, ws, a1, a2, a3, a4, a5, a6⟩ := h.slot j _ e
    rw [f] at g1
    have g2 := Option.some.inj g1
    rw [← g2] at a1
    have g3 : m' = m2 := by
      have := Option.some.inj a1
      injection this
    rw [g3]
    exact ne_of_none a5 hl
  have isl : ∀ {m : Addr}, (σ.set i (some (V.ref l)))[i]? = some (some (V.ref m)) → m = l := fun {m} e3 => by
    rw [List.getElem?_set] at e3
    simp only [if_true] at e3
    split at e3
    · have := Option.some.inj (Option.some.inj e3)
      injection this with q
      exact q.symm
    · cases e3
  refine ⟨by rw [List.length_set, List.length_set, h.len], fun j s e => ?_, fun j k m ds' es e1 e2 e3 e4 => ?_, bigs_set h'.bigs (fun _ q => nomatch q) (fun _ l' e k B hB ha => h.big_live hB ha (by cases e; exact hl))⟩
  · by_cases z : i = j
    · subst z
      rw [List.getElem?_set] at e
      simp only [if_true] at e
      split at e
      · rename_i hlt
        have e' := Option.some.inj e
        subst e'
        exact ⟨some (.ref l), by rw [List.getElem?_set]; simp [h.len, hlt], l, vs, rfl, h0, hk, hp, h1, r⟩
      · cases e
    · rw [List.getElem?_set_ne z] at e
      rw [List.getElem?_set_ne z]
      exact h'.slot j s e
  · by_cases z : i = j
    · by_cases z2 : i = k
      · rw [← z, ← z2]
      · subst z
        rw [List.getElem?_set_ne z2] at e2 e4
        exact absurd (isl e3) (live e2 e4)
    · by_cases z2 : i = k
      · subst z2
        rw [List.getElem?_set_ne z] at e1 e3
        exact absurd (isl e4) (live e1 e3)
      · rw [List.getElem?_set_ne z] at e1 e3
        rw [List.getElem?_set_ne z2] at e2 e4
        exact h.apart j k m ds' es e1 e2 e3 e4
/-- an own list is changed -/
theorem En.put_own (h : En K p H0 Hk H σ env) {i : Nat} {l : Addr} {ws : List V} {ds es : List PyData} (e : env[i]? = some (.own ds)) (f : σ[i]? = some (some (.ref l))) (r : DxAll K Hk ws es) : En K p H0 Hk (upd H l (.lst ws)) σ (env.set i (.own es)) := by
  obtain ⟨ov, g1, l2, vs2, a1, a2, a3, a4, a5, a6⟩ := h.slot i _ e
  rw [f] at g1
  have g2 := Option.some.inj g1
  rw [← g2] at a1
  have g3 : l = l2 := by
    have := Option.some.inj a1
    injection this
  subst g3
  have hlt : i < env.length := (List.getElem?_eq_some_iff.mp e).1
  refine ⟨by rw [List.length_set, h.len], fun j s e' => ?_, fun j k m ds' es' e1 e2 e3 e4 => ?_, bigs_put h.bigs (fun _ q => nomatch q) (fun _ l' e' k B hB => h.bigs k i B _ l' hB e rfl e')⟩
  · by_cases z : i = j
    · subst z
      rw [List.getElem?_set] at e'
      simp only [if_true, hlt] at e'
      have e'' := Option.some.inj e'
      subst e''
      exact ⟨_, f, l, ws, rfl, a2, a3, a4, upd_same, r⟩
    · rw [List.getElem?_set_ne z] at e'
      obtain ⟨ov', e1, q⟩ := h.slot j s e'
      refine ⟨ov', e1, ?_⟩
      cases s with
      | no => exact True.intro
      | pot => exact q
      | dat d => exact q
      | ext S => exact q
      | mov S =>
        obtain ⟨m, o, b1, b2, b3, b4, b5, b6⟩ := q
        refine ⟨m, o, b1, b2, b3, b4, ?_, b6⟩
        have hm : m ≠ l := fun y => by
          rw [y, a5] at b5
          exact S.nl _ _ _ b6 _ (Option.some.inj b5).symm
        rw [upd_ne hm]
        exact b5
      | big B =>
        obtain ⟨b1, b2, b3⟩ := q
        have nl : l ∉ B.as := h.bigs j i B _ l e' e rfl f
        have ne : ∀ a ∈ B.as, a ≠ l := fun a ha y => nl (by rw [← y]; exact ha)
        exact ⟨b1, fun a ha => by rw [upd_ne (ne a ha)]; exact b2 a ha, B.mono _ _ _ _ (Ex.refl _) (fun a ha => upd_ne (ne a ha)) b3⟩
      | own es2 =>
        obtain ⟨m, ws2, b1, b2, b3, b4, b5, b6⟩ := q
        refine ⟨m, ws2, b1, b2, b3, b4, ?_, b6⟩
        have hm : m ≠ l := fun y => z (h.apart i j l ds es2 e e' f (by rw [e1, b1, y]))
        rw [upd_ne hm]
        exact b5
  · have n : ∀ {m : Nat} {ds0 : List PyData}, (env.set i (.own es))[m]? = some (.own ds0) → ∃ ds1, env[m]? = some (.own ds1) := fun {m ds0} e => by
      by_cases z : i = m
      · subst z
        exact ⟨ds, by assumption⟩
      · rw [List.getElem?_set_ne z] at e
        exact ⟨_, e⟩
    obtain ⟨d1, f1⟩ := n e1
    obtain ⟨d2, f2⟩ := n e2
    exact h.apart j k m d1 d2 f1 f2 e3 e4
/-- an own list is known from now on -/
theorem En.publish (h : En K p H0 Hk H σ env) {i : Nat} {l : Addr} {vs : List V} {ds : List PyData} (e : env[i]? = some (.own ds)) (f : σ[i]? = some (some (.ref l))) (hk : Hk l = none) (hl : H l = some (.lst vs)) (r : DxAll K Hk vs ds) :
    En K p H0 (upd Hk l (.lst vs)) H σ (env.set i (.dat (.list ds))) := by
  have hlt : i < env.length := (List.getElem?_eq_some_iff.mp e).1
  have x : Ex Hk (upd Hk l (.lst vs)) := Ex.new hk
  refine ⟨by rw [List.length_set, h.len], fun j s e' => ?_, fun j k m ds' es' e1 e2 e3 e4 => ?_, bigs_put h.bigs (fun _ q => nomatch q) (fun q => nomatch q)⟩
  · by_cases z : i = j
    · subst z
      rw [List.getElem?_set] at e'
      simp only [if_true, hlt] at e'
      have e'' := Option.some.inj e'
      subst e''
      exact ⟨_, f, .ref l, rfl, .lst (SqL.of upd_same) (dpAll_mono x ds r)⟩
    · rw [List.getElem?_set_ne z] at e'
      obtain ⟨ov', e1, q⟩ := h.slot j s e'
      refine ⟨ov', e1, ?_⟩
      cases s with
      | no => exact True.intro
      | pot => exact q
      | dat d => exact let ⟨v, e, r⟩ := q; ⟨v, e, dp_mono x d r⟩
      | ext S => exact let ⟨v, e, r⟩ := q; ⟨v, e, S.mono _ _ v x r⟩
      | mov S =>
        obtain ⟨m, o, b1, b2, b3, b4, b5, b6⟩ := q
        have hm : m ≠ l := fun y => by
          rw [y, hl] at b5
          exact S.nl _ _ _ b6 _ (Option.some.inj b5).symm
        refine ⟨m, o, b1, b2, ?_, b4, b5, S.mono _ _ m o x b6⟩
        rw [upd_ne hm]
        exact b3
      | big B =>
        obtain ⟨b1, b2, b3⟩ := q
        have nl : l ∉ B.as := h.bigs j i B _ l e' e rfl f
        have ne : ∀ a ∈ B.as, a ≠ l := fun a ha y => nl (by rw [← y]; exact ha)
        exact ⟨b1, fun a ha => ⟨(b2 a ha).1, by rw [upd_ne (ne a ha)]; exact (b2 a ha).2.1, (b2 a ha).2.2⟩, B.mono _ _ _ _ x (fun a ha => rfl) b3⟩
      | own es2 =>
        obtain ⟨m, ws2, b1, b2, b3, b4, b5, b6⟩ := q
        have hm : m ≠ l := fun y => z (h.apart i j l ds es2 e e' f (by rw [e1, b1, y]))
        refine ⟨m, ws2, b1, b2, ?_, b4, b5, dpAll_mono x es2 b6⟩
        rw [upd_ne hm]
        exact b3
  · have n : ∀ {m : Nat} {ds0 : List PyData}, (env.set i (.dat (.list ds)))[m]? = some (.own ds0) → env[m]? = some (.own ds0) := fun {m ds0} e => by
      by_cases z : i = m
      · subst z
        rw [List.getElem?_set] at e
        simp only [if_true, hlt] at e
        cases (Option.some.inj e)
      · rw [List.getElem?_set_ne z] at e
        exact e
    exact h.apart j k m ds' es' (n e1) (n e2) e3 e4
/-- a new own thing that is no list -/
theorem En.set_mov (h : En K p H0 Hk H σ env) (h' : En K p H0 Hk1 H1 σ env) {i : Nat} {l : Addr} {o : HO} {S : Mov} (h0 : H0 l = none) (hl : H l = none) (h1 : H1 l = some o) (hk : Hk1 l = none) (hp : p ≠ some l) (r : S.S Hk1 l o) : En K p H0 Hk1 H1 (σ.set i (some (.ref l))) (env.set i (.mov S)) :=
  h'.set_any ⟨l, o, rfl, h0, hk, hp, h1, r⟩ (fun _ q => nomatch q) (fun _ q => nomatch q) (fun _ l' e k B hB ha => h.big_live hB ha (by cases e; exact hl))
/-- the only own thing of its kind -/
def OneMov (env : List Slot) (i : Nat) : Prop := ∀ j S, env[j]? = some (.mov S) → i = j
/-- it is changed -/
theorem En.put_mov (h : En K p H0 Hk H σ env) {i : Nat} {l : Addr} {o : HO} {S T : Mov} (one : OneMov env i) (e : env[i]? = some (.mov S)) (f : σ[i]? = some (some (.ref l))) (r : T.S Hk l o) : En K p H0 Hk (upd H l o) σ (env.set i (.mov T)) := by
  obtain ⟨ov, g1, l2, o2, a1, a2, a3, a4, a5, a6⟩ := h.slot i _ e
  rw [f] at g1
  have g2 := Option.some.inj g1
  rw [← g2] at a1
  have g3 : l = l2 := by
    have := Option.some.inj a1
    injection this
  subst g3
  have hlt : i < env.length := (List.getElem?_eq_some_iff.mp e).1
  refine ⟨by rw [List.length_set, h.len], fun j s e' => ?_, fun j k m ds' es' e1 e2 e3 e4 => ?_, bigs_put h.bigs (fun _ q => nomatch q) (fun _ l' e' k B hB => h.bigs k i B _ l' hB e rfl e')⟩
  · by_cases z : i = j
    · subst z
      rw [List.getElem?_set] at e'
      simp only [if_true, hlt] at e'
      have e'' := Option.some.inj e'
      subst e''
      exact ⟨_, f, l, o, rfl, a2, a3, a4, upd_same, r⟩
    · rw [List.getElem?_set_ne z] at e'
      obtain ⟨ov', e1, q⟩ := h.slot j s e'
      refine ⟨ov', e1, ?_⟩
      cases s with
      | no => exact True.intro
      | pot => exact q
      | dat d => exact q
      | ext S => exact q
      | mov S2 => exact absurd (one j S2 e') z
      | big B =>
        obtain ⟨b1, b2, b3⟩ := q
        have nl : l ∉ B.as := h.bigs j i B _ l e' e rfl f
        have ne : ∀ a ∈ B.as, a ≠ l := fun a ha y => nl (by rw [← y]; exact ha)
        exact ⟨b1, fun a ha => by rw [upd_ne (ne a ha)]; exact b2 a ha, B.mono _ _ _ _ (Ex.refl _) (fun a ha => upd_ne (ne a ha)) b3⟩
      | own es2 =>
        obtain ⟨m, ws2, b1, b2, b3, b4, b5, b6⟩ := q
        refine ⟨m, ws2, b1, b2, b3, b4, ?_, b6⟩
        have hm : m ≠ l := fun y => by
          rw [y, a5] at b5
          exact S.nl _ _ _ a6 _ (Option.some.inj b5)
        rw [upd_ne hm]
        exact b5
  · have n : ∀ {m : Nat} {ds0 : List PyData}, (env.set i (.mov T))[m]? = some (.own ds0) → env[m]? = some (.own ds0) := fun {m ds0} e => by
      by_cases z : i = m
      · subst z
        rw [List.getElem?_set] at e
        simp only [if_true, hlt] at e
        cases (Option.some.inj e)
      · rw [List.getElem?_set_ne z] at e
        exact e
    exact h.apart j k m ds' es' (n e1) (n e2) e3 e4
def wipeE (env : List Slot) : List Nat → List Slot
  | [] => env
  | v :: vs => (wipeE env vs).set v .no
theorem En.wipe (h : En K p H0 Hk H σ env) : ∀ vs : List Nat, En K p H0 Hk H (L2.wipe σ vs) (wipeE env vs)
  | [] => h
  | v :: vs => (En.wipe h vs).wipe1 v
end
end Fw
namespace Fw
open PySem PySem.Spec PyProof.Rows L2 Evl
theorem noDict_shaped {d : PyData} (h : SeqAt.shaped d = true) : d.hasDict = false := by
  unfold SeqAt.shaped at h
  rw [Bool.and_eq_true] at h
  exact PyData.hasDict_of_canLay d h.1
section
variable (K : PySem.W.Frag) (p : Option Addr)
def WpE (te : TE) (env : List Slot) (Φ : PyData → Prop) : Prop := ∀ (H0 : Hp) (σ : List (Option V)) (Hk H : Hp) (Q : VK), Ex Hk H → PotOk Hk H p → En K p H0 Hk H σ env →
  (∀ v d Hk' H', Go p Hk H Hk' H' → Dx K Hk' v d → Φ d → Q v H') → te σ H Q
def WpT (tt : TT) (env : List Slot) (Φ : Bool → Prop) : Prop := ∀ (H0 : Hp) (σ : List (Option V)) (Hk H : Hp) (Q : Bool → Hp → Prop), Ex Hk H → PotOk Hk H p → En K p H0 Hk H σ env →
  (∀ b Hk' H', Go p Hk H Hk' H' → Φ b → Q b H') → tt σ H Q
def WpA (ta : TA) (env : List Slot) (Φ : List PyData → Prop) : Prop := ∀ (H0 : Hp) (σ : List (Option V)) (Hk H : Hp) (Q : List V → Hp → Prop), Ex Hk H → PotOk Hk H p → En K p H0 Hk H σ env →
  (∀ vs ds Hk' H', Go p Hk H Hk' H' → DxAll K Hk' vs ds → Φ ds → Q vs H') → ta σ H Q
def WpO (to : TO) (env : List Slot) (Φ : Option Int → Prop) : Prop := ∀ (H0 : Hp) (σ : List (Option V)) (Hk H : Hp) (Q : Option Int → Hp → Prop), Ex Hk H → PotOk Hk H p → En K p H0 Hk H σ env →
  (∀ o Hk' H', Go p Hk H Hk' H' → Φ o → Q o H') → to σ H Q
/-- an operation on two values, a call of a built-in on values -/
def OpD (r : R2) (x y : PyData) (Φ : PyData → Prop) : Prop := ∀ (vx vy : V) (Hk H : Hp) (Q : VK), Ex Hk H → PotOk Hk H p → Dx K Hk vx x → Dx K Hk vy y →
  (∀ v d Hk' H', Go p Hk H Hk' H' → Dx K Hk' v d → Φ d → Q v H') → r vx vy H Q
def CbD (r : List V → Hp → VK → Prop) (xs : List PyData) (Φ : PyData → Prop) : Prop := ∀ (vs : List V) (Hk H : Hp) (Q : VK), Ex Hk H → PotOk Hk H p → DxAll K Hk vs xs →
  (∀ v d Hk' H', Go p Hk H Hk' H' → Dx K Hk' v d → Φ d → Q v H') → r vs H Q
def UnD (r : V → Hp → VK → Prop) (x : PyData) (Φ : PyData → Prop) : Prop := ∀ (vx : V) (Hk H : Hp) (Q : VK), Ex Hk H → PotOk Hk H p → Dx K Hk vx x →
  (∀ v d Hk' H', Go p Hk H Hk' H' → Dx K Hk' v d → Φ d → Q v H') → r vx H Q
def ItOk (J : It) (Hk : Hp) (xs : List PyData) : Prop := ∀ Hk1 H1, Ex Hk Hk1 → Ex Hk1 H1 → PotOk Hk1 H1 p →
  (∀ i, i < xs.length → J.go i H1) ∧ J.stop xs.length H1 ∧ ∀ i x H', i < xs.length → J.yld i H1 x H' → ∃ d Hk2, xs[i]? = some d ∧ Dx K Hk2 x d ∧ Go p Hk1 H1 Hk2 H'
def WpI (wi : TI) (env : List Slot) (Ψ : List PyData → Prop) : Prop := ∀ (H0 : Hp) (σ : List (Option V)) (Hk H : Hp) (R : It → Hp → Prop), Ex Hk H → PotOk Hk H p → En K p H0 Hk H σ env →
  (∀ J xs Hk' H', Go p Hk H Hk' H' → ItOk K p J Hk' xs → Ψ xs → R J H') → wi σ H R
/-- a target: only the slots js may change -/
def WpG (js : List Nat) (g : TG) (d : PyData) (env : List Slot) (Ψ : List Slot → Prop) : Prop := ∀ (H0 : Hp) (σ : List (Option V)) (Hk H : Hp) (v : V) (Q : List (Option V) → Hp → Prop), Ex Hk H → PotOk Hk H p → En K p H0 Hk H σ env → Dx K Hk v d →
  (∀ σ' env', En K p H0 Hk H σ' env' → (σ'.length = σ.length ∧ ∀ j, j ∉ js → σ'[j]? = σ[j]?) → Ψ env' → Q σ' H) → g v σ H Q
def WpGs (js : List Nat) (g : TGs) (ds : List PyData) (env : List Slot) (Ψ : List Slot → Prop) : Prop := ∀ (H0 : Hp) (σ : List (Option V)) (Hk H : Hp) (vs : List V) (Q : List (Option V) → Hp → Prop), Ex Hk H → PotOk Hk H p → En K p H0 Hk H σ env → DxAll K Hk vs ds →
  (∀ σ' env', En K p H0 Hk H σ' env' → (σ'.length = σ.length ∧ ∀ j, j ∉ js → σ'[j]? = σ[j]?) → Ψ env' → Q σ' H) → g vs σ H Q
structure Outs where
  nx : List Slot → Prop
  rt : PyData → Prop
  bk : List Slot → Prop
  ct : List Slot → Prop
  rf : List PyData → Prop := fun _ => False
structure EndsOk (H0 Hk0 : Hp) (D : Ends) (O : Outs) : Prop where
  nx : ∀ env σ Hk H, Go p Hk0 H0 Hk H → En K p H0 Hk H σ env → O.nx env → D.nx σ H
  rt : ∀ v d Hk H, Go p Hk0 H0 Hk H → Dx K Hk v d → O.rt d → D.rt v H
  bk : ∀ env σ Hk H, Go p Hk0 H0 Hk H → En K p H0 Hk H σ env → O.bk env → D.bk σ H
  ct : ∀ env σ Hk H, Go p Hk0 H0 Hk H → En K p H0 Hk H σ env → O.ct env → D.ct σ H
  rf : ∀ l vs ds Hk H, Go p Hk0 H0 Hk H → H0 l = none → Hk l = none → H l = some (.lst vs) → DxAll K Hk vs ds → O.rf ds → D.rt (.ref l) H
def WpS (ts : TS) (env : List Slot) (O : Outs) : Prop := ∀ (H0 Hk0 : Hp) (σ : List (Option V)) (Hk H : Hp) (D : Ends), Go p Hk0 H0 Hk H → En K p H0 Hk H σ env → EndsOk K p H0 Hk0 D O → ts D σ H
end

section
variable {K : PySem.W.Frag} {p : Option Addr} {env : List Slot} {Φ : PyData → Prop} {ta tb te : TE} {tt tu : TT}
theorem WpE.mono {Φ' : PyData → Prop} (h : WpE K p te env Φ) (m : ∀ d, Φ d → Φ' d) : WpE K p te env Φ' := fun H0 σ Hk H Q e po en q => h H0 σ Hk H Q e po en fun v d Hk' H' g r f => q v d Hk' H' g r (m d f)
theorem WpT.mono {Φ Φ' : Bool → Prop} (h : WpT K p tt env Φ) (m : ∀ d, Φ d → Φ' d) : WpT K p tt env Φ' := fun H0 σ Hk H Q e po en q => h H0 σ Hk H Q e po en fun v Hk' H' g f => q v Hk' H' g (m v f)
/-! ### expressions -/
theorem e_var {i : Nat} {d : PyData} (h : env[i]? = some (.dat d)) (q : Φ d) : WpE K p (tVar i) env Φ := fun H0 σ Hk H Q e po en k => by
  obtain ⟨ov, h1, v, h2, r⟩ := en.slot i _ h
  rw [h2] at h1
  exact ⟨v, h1, k v d Hk H (Go.refl e po) r q⟩
theorem e_c {v : V} {d : PyData} (hd : ∀ Hk, Dx K Hk v d) (q : Φ d) : WpE K p (tC v) env Φ := fun H0 σ Hk H Q e po en k => k v d Hk H (Go.refl e po) (hd Hk) q
theorem e_int {i : Int} (q : Φ (.int i)) : WpE K p (tC (.int i)) env Φ := e_c (fun _ => .int i) q
theorem e_bl {i : Bool} (q : Φ (.bool i)) : WpE K p (tC (.bl i)) env Φ := e_c (fun _ => .bl i) q
theorem e_str {i : Str} (q : Φ (.str i)) : WpE K p (tC (.str i)) env Φ := e_c (fun _ => .str i) q
theorem e_non (q : Φ .none) : WpE K p (tC .non) env Φ := e_c (fun _ => .non) q
theorem e_op {r : R2} (h : WpE K p ta env fun x => WpE K p tb env fun y => OpD K p r x y Φ) : WpE K p (tOp r ta tb) env Φ := fun H0 σ Hk H Q e po en k =>
  h H0 σ Hk H _ e po en fun vx x Hk1 H1 g1 rx h1 => h1 H0 σ Hk1 H1 _ g1.kr g1.po (en.go g1) fun vy y Hk2 H2 g2 ry h2 =>
    h2 vx vy Hk2 H2 Q g2.kr g2.po (dp_mono g2.kk x rx) ry fun v d Hk3 H3 g3 r f => k v d Hk3 H3 ((g1.trans g2).trans g3) r f
theorem e_un {r : V → Hp → VK → Prop} (h : WpE K p ta env fun x => UnD K p r x Φ) : WpE K p (tUn r ta) env Φ := fun H0 σ Hk H Q e po en k =>
  h H0 σ Hk H _ e po en fun vx x Hk1 H1 g1 rx h1 => h1 vx Hk1 H1 Q g1.kr g1.po rx fun v d Hk3 H3 g3 r f => k v d Hk3 H3 (g1.trans g3) r f
theorem e_if (h : WpT K p tt env fun b => if b = true then WpE K p ta env Φ else WpE K p tb env Φ) : WpE K p (tIf tt ta tb) env Φ := fun H0 σ Hk H Q e po en k =>
  h H0 σ Hk H _ e po en fun b Hk1 H1 g1 h1 => by
    cases b with
    | true => exact (show WpE K p ta env Φ from h1) H0 σ Hk1 H1 Q g1.kr g1.po (en.go g1) fun v d Hk3 H3 g3 r f => k v d Hk3 H3 (g1.trans g3) r f
    | false => exact (show WpE K p tb env Φ from h1) H0 σ Hk1 H1 Q g1.kr g1.po (en.go g1) fun v d Hk3 H3 g3 r f => k v d Hk3 H3 (g1.trans g3) r f
theorem e_andV (h : WpE K p ta env fun x => ∃ c, x = .bool c ∧ if c = true then WpE K p tb env Φ else Φ (.bool false)) : WpE K p (tAndV ta tb) env Φ := fun H0 σ Hk H Q e po en k =>
  h H0 σ Hk H _ e po en fun vx x Hk1 H1 g1 rx ⟨c, ex, h1⟩ => by
    subst ex
    rw [dp_bl rx]
    refine ⟨c, rfl, ?_⟩
    cases c with
    | true => exact (show WpE K p tb env Φ from h1) H0 σ Hk1 H1 Q g1.kr g1.po (en.go g1) fun v d Hk3 H3 g3 r f => k v d Hk3 H3 (g1.trans g3) r f
    | false => exact k _ _ _ _ g1 (.bl false) h1
theorem e_orV (h : WpE K p ta env fun x => ∃ c, x = .bool c ∧ if c = true then Φ (.bool true) else WpE K p tb env Φ) : WpE K p (tOrV ta tb) env Φ := fun H0 σ Hk H Q e po en k =>
  h H0 σ Hk H _ e po en fun vx x Hk1 H1 g1 rx ⟨c, ex, h1⟩ => by
    subst ex
    rw [dp_bl rx]
    refine ⟨c, rfl, ?_⟩
    cases c with
    | false => exact (show WpE K p tb env Φ from h1) H0 σ Hk1 H1 Q g1.kr g1.po (en.go g1) fun v d Hk3 H3 g3 r f => k v d Hk3 H3 (g1.trans g3) r f
    | true => exact k _ _ _ _ g1 (.bl true) h1
theorem e_notV (h : WpE K p ta env fun x => ∃ c, x = .bool c ∧ Φ (.bool !c)) : WpE K p (tNotV ta) env Φ := fun H0 σ Hk H Q e po en k =>
  h H0 σ Hk H _ e po en fun vx x Hk1 H1 g1 rx ⟨c, ex, h1⟩ => by
    subst ex
    rw [dp_bl rx]
    exact ⟨c, rfl, k _ _ _ _ g1 (.bl _) h1⟩
theorem e_tup {ta : TA} (h : WpA K p ta env fun ds => ds.length ≤ 100000 ∧ Φ (.tuple ds)) : WpE K p (tTup ta) env Φ := fun H0 σ Hk H Q e po en k =>
  h H0 σ Hk H _ e po en fun vs ds Hk1 H1 g1 r ⟨hz, f⟩ => ⟨sz_of (by rw [dpAll_len r]; exact hz), fun q hq =>
    k _ _ _ _ (g1.trans (Go.new g1.kr g1.po hq)) (.tup (SqT.of upd_same) (dpAll_mono (Ex.new (fresh_back g1.kr hq)) ds r)) f⟩
theorem e_lst {ta : TA} (h : WpA K p ta env fun ds => ds.length ≤ 100000 ∧ Φ (.list ds)) : WpE K p (tLst ta) env Φ := fun H0 σ Hk H Q e po en k =>
  h H0 σ Hk H _ e po en fun vs ds Hk1 H1 g1 r ⟨hz, f⟩ => ⟨sz_of (by rw [dpAll_len r]; exact hz), fun q hq =>
    k _ _ _ _ (g1.trans (Go.new g1.kr g1.po hq)) (.lst (SqL.of upd_same) (dpAll_mono (Ex.new (fresh_back g1.kr hq)) ds r)) f⟩
theorem e_cb {r : List V → Hp → VK → Prop} {ta : TA} (h : WpA K p ta env fun ds => CbD K p r ds Φ) : WpE K p (tCB r ta) env Φ := fun H0 σ Hk H Q e po en k =>
  h H0 σ Hk H _ e po en fun vs ds Hk1 H1 g1 rx h1 => h1 vs Hk1 H1 Q g1.kr g1.po rx fun v d Hk3 H3 g3 r f => k v d Hk3 H3 (g1.trans g3) r f
theorem e_sl {r : V → Option Int → Option Int → Hp → VK → Prop} {tl th : TO} (h : WpE K p te env fun x => WpO K p tl env fun l => WpO K p th env fun u => UnD K p (fun v => r v l u) x Φ) : WpE K p (tSl r te tl th) env Φ := fun H0 σ Hk H Q e po en k =>
  h H0 σ Hk H _ e po en fun vx x Hk1 H1 g1 rx h1 => h1 H0 σ Hk1 H1 _ g1.kr g1.po (en.go g1) fun l Hk2 H2 g2 h2 => h2 H0 σ Hk2 H2 _ g2.kr g2.po ((en.go g1).go g2) fun u Hk3 H3 g3 h3 =>
    h3 vx Hk3 H3 Q g3.kr g3.po (dp_mono g3.kk x (dp_mono g2.kk x rx)) fun v d Hk4 H4 g4 r f => k v d Hk4 H4 (((g1.trans g2).trans g3).trans g4) r f
theorem o_none {Φ : Option Int → Prop} (q : Φ none) : WpO K p tNoPart env Φ := fun H0 σ Hk H Q e po en k => k none Hk H (Go.refl e po) q
theorem o_some {Φ : Option Int → Prop} (h : WpE K p te env fun x => ∃ i, x = .int i ∧ Φ (some i)) : WpO K p (tPart te) env Φ := fun H0 σ Hk H Q e po en k =>
  h H0 σ Hk H _ e po en fun vx x Hk1 H1 g1 rx ⟨i, ex, f⟩ => by
    subst ex
    rw [dp_int rx]
    exact ⟨i, rfl, k _ _ _ g1 f⟩
theorem a_nil {Φ : List PyData → Prop} (q : Φ []) : WpA K p tNil env Φ := fun H0 σ Hk H Q e po en k => k [] [] Hk H (Go.refl e po) .nil q
theorem a_cons {tr : TA} {Φ : List PyData → Prop} (h : WpE K p te env fun x => WpA K p tr env fun ds => Φ (x :: ds)) : WpA K p (tCons te tr) env Φ := fun H0 σ Hk H Q e po en k =>
  h H0 σ Hk H _ e po en fun vx x Hk1 H1 g1 rx h1 => h1 H0 σ Hk1 H1 _ g1.kr g1.po (en.go g1) fun vs ds Hk2 H2 g2 r f => k _ _ _ _ (g1.trans g2) (.cons (dp_mono g2.kk x rx) r) f
/-! ### tests -/
theorem t_B {Φ : Bool → Prop} (h : WpE K p te env fun x => ∃ c, x = .bool c ∧ Φ c) : WpT K p (tB te) env Φ := fun H0 σ Hk H Q e po en k =>
  h H0 σ Hk H _ e po en fun vx x Hk1 H1 g1 rx ⟨c, ex, f⟩ => by
    subst ex
    rw [dp_bl rx]
    exact ⟨c, rfl, k _ _ _ g1 f⟩
theorem t_test {Φ : Bool → Prop} (h : WpE K p te env fun x => ∃ c, x = .bool c ∧ Φ c) : WpT K p (tTest te) env Φ := t_B h
theorem t_and {Φ : Bool → Prop} (h : WpT K p tt env fun c => if c = true then WpT K p tu env Φ else Φ false) : WpT K p (tAnd tt tu) env Φ := fun H0 σ Hk H Q e po en k =>
  h H0 σ Hk H _ e po en fun c Hk1 H1 g1 h1 => by
    cases c with
    | true => exact (show WpT K p tu env Φ from h1) H0 σ Hk1 H1 Q g1.kr g1.po (en.go g1) fun v Hk3 H3 g3 f => k v Hk3 H3 (g1.trans g3) f
    | false => exact k _ _ _ g1 h1
theorem t_or {Φ : Bool → Prop} (h : WpT K p tt env fun c => if c = true then Φ true else WpT K p tu env Φ) : WpT K p (tOr tt tu) env Φ := fun H0 σ Hk H Q e po en k =>
  h H0 σ Hk H _ e po en fun c Hk1 H1 g1 h1 => by
    cases c with
    | false => exact (show WpT K p tu env Φ from h1) H0 σ Hk1 H1 Q g1.kr g1.po (en.go g1) fun v Hk3 H3 g3 f => k v Hk3 H3 (g1.trans g3) f
    | true => exact k _ _ _ g1 h1
theorem t_not {Φ : Bool → Prop} (h : WpT K p tt env fun c => Φ (!c)) : WpT K p (tNot tt) env Φ := fun H0 σ Hk H Q e po en k => h H0 σ Hk H _ e po en fun c Hk1 H1 g1 h1 => k _ _ _ g1 h1
theorem t_yes {Φ : Bool → Prop} (q : Φ true) : WpT K p tYes env Φ := fun H0 σ Hk H Q e po en k => k true Hk H (Go.refl e po) q
theorem e_chain {r r' : R2} {tc : TE} (h : WpE K p ta env fun x => WpE K p tb env fun y => OpD K p r x y fun z => ∃ c, z = .bool c ∧ if c = true then WpE K p tc env fun w => OpD K p r' y w Φ else Φ (.bool false)) : WpE K p (tChain r r' ta tb tc) env Φ := fun H0 σ Hk H Q e po en k =>
  h H0 σ Hk H _ e po en fun vx x Hk1 H1 g1 rx h1 => h1 H0 σ Hk1 H1 _ g1.kr g1.po (en.go g1) fun vy y Hk2 H2 g2 ry h2 =>
    h2 vx vy Hk2 H2 _ g2.kr g2.po (dp_mono g2.kk x rx) ry fun v d Hk3 H3 g3 rz ⟨c, ex, h3⟩ => by
      subst ex
      rw [dp_bl rz]
      refine ⟨c, rfl, ?_⟩
      cases c with
      | false => exact k _ _ _ _ ((g1.trans g2).trans g3) (.bl false) h3
      | true =>
        exact (show WpE K p tc env _ from h3) H0 σ Hk3 H3 _ g3.kr g3.po (((en.go g1).go g2).go g3) fun vw w Hk4 H4 g4 rw' h4 =>
          h4 vy vw Hk4 H4 Q g4.kr g4.po (dp_mono g4.kk y (dp_mono g3.kk y ry)) rw' fun v d Hk5 H5 g5 r f => k v d Hk5 H5 ((((g1.trans g2).trans g3).trans g4).trans g5) r f
/-! ### operations on values -/
theorem op_I0 {x y : PyData} {f : Int → Int → V} {g : Int → Int → PyData} (hf : ∀ i j Hk, Dx K Hk (f i j) (g i j)) (h : ∃ i j, x = .int i ∧ y = .int j ∧ Φ (g i j)) : OpD K p (rI0 f) x y Φ := fun vx vy Hk H Q e po rx ry k => by
  obtain ⟨i, j, rfl, rfl, q⟩ := h
  rw [dp_int rx, dp_int ry]
  exact ⟨i, j, rfl, rfl, k _ _ _ _ (Go.refl e po) (hf i j Hk) q⟩
theorem op_I {x y : PyData} {C : Int → Int → Prop} {f : Int → Int → V} {g : Int → Int → PyData} (hf : ∀ i j Hk, Dx K Hk (f i j) (g i j)) (h : ∃ i j, x = .int i ∧ y = .int j ∧ C i j ∧ Φ (g i j)) : OpD K p (rI C f) x y Φ := fun vx vy Hk H Q e po rx ry k => by
  obtain ⟨i, j, rfl, rfl, c, q⟩ := h
  rw [dp_int rx, dp_int ry]
  exact ⟨i, j, rfl, rfl, c, k _ _ _ _ (Go.refl e po) (hf i j Hk) q⟩
theorem od_add {i j : Int} (h : Φ (.int (i + j))) : OpD K p (rI0 fun i j => V.int (i + j)) (.int i) (.int j) Φ := op_I0 (g := fun i j => .int (i + j)) (fun i j _ => .int _) ⟨i, j, rfl, rfl, h⟩
theorem od_sub {i j : Int} (h : Φ (.int (i - j))) : OpD K p (rI0 fun i j => V.int (i - j)) (.int i) (.int j) Φ := op_I0 (g := fun i j => .int (i - j)) (fun i j _ => .int _) ⟨i, j, rfl, rfl, h⟩
theorem od_mul {i j : Int} (c : CMul i j) (h : Φ (.int (i * j))) : OpD K p (rI CMul fun i j => V.int (i * j)) (.int i) (.int j) Φ := op_I (g := fun i j => .int (i * j)) (fun i j _ => .int _) ⟨i, j, rfl, rfl, c, h⟩
theorem od_mulW {i j : Int} (c : CMulW i j) (h : Φ (.int (i * j))) : OpD K p (rI CMulW fun i j => V.int (i * j)) (.int i) (.int j) Φ := op_I (g := fun i j => .int (i * j)) (fun i j _ => .int _) ⟨i, j, rfl, rfl, c, h⟩
theorem od_fdivN {i j : Int} (c : CDivN i j) (h : Φ (.int (i.fdiv j))) : OpD K p (rI CDivN fun i j => V.int (i.fdiv j)) (.int i) (.int j) Φ := op_I (g := fun i j => .int (i.fdiv j)) (fun i j _ => .int _) ⟨i, j, rfl, rfl, c, h⟩
theorem od_fdiv {i j : Int} (c : CDiv i j) (h : Φ (.int (i / j))) : OpD K p (rI CDiv fun i j => V.int (i / j)) (.int i) (.int j) Φ := op_I (g := fun i j => .int (i / j)) (fun i j _ => .int _) ⟨i, j, rfl, rfl, c, h⟩
theorem od_modN {i j : Int} (c : j ≠ 0) (h : Φ (.int (i.fmod j))) : OpD K p (rI (fun _ j => j ≠ 0) fun i j => V.int (i.fmod j)) (.int i) (.int j) Φ := op_I (g := fun i j => .int (i.fmod j)) (fun i j _ => .int _) ⟨i, j, rfl, rfl, c, h⟩
theorem od_mod {i j : Int} (c : 0 < j) (h : Φ (.int (i % j))) : OpD K p (rI (fun _ j => 0 < j) fun i j => V.int (i % j)) (.int i) (.int j) Φ := op_I (g := fun i j => .int (i % j)) (fun i j _ => .int _) ⟨i, j, rfl, rfl, c, h⟩
theorem od_pow {i j : Int} (c : CPow i j) (h : Φ (.int (i ^ j.toNat))) : OpD K p (rI CPow fun i j => V.int (i ^ j.toNat)) (.int i) (.int j) Φ := op_I (g := fun i j => .int (i ^ j.toNat)) (fun i j _ => .int _) ⟨i, j, rfl, rfl, c, h⟩
theorem od_lt {i j : Int} (h : Φ (.bool (decide (i < j)))) : OpD K p (rI0 fun i j => V.bl (decide (i < j))) (.int i) (.int j) Φ := op_I0 (g := fun i j => .bool (decide (i < j))) (fun i j _ => .bl _) ⟨i, j, rfl, rfl, h⟩
theorem od_le {i j : Int} (h : Φ (.bool (decide (i ≤ j)))) : OpD K p (rI0 fun i j => V.bl (decide (i ≤ j))) (.int i) (.int j) Φ := op_I0 (g := fun i j => .bool (decide (i ≤ j))) (fun i j _ => .bl _) ⟨i, j, rfl, rfl, h⟩
theorem od_gt {i j : Int} (h : Φ (.bool (decide (j < i)))) : OpD K p (rI0 fun i j => V.bl (decide (j < i))) (.int i) (.int j) Φ := op_I0 (g := fun i j => .bool (decide (j < i))) (fun i j _ => .bl _) ⟨i, j, rfl, rfl, h⟩
theorem od_ge {i j : Int} (h : Φ (.bool (decide (j ≤ i)))) : OpD K p (rI0 fun i j => V.bl (decide (j ≤ i))) (.int i) (.int j) Φ := op_I0 (g := fun i j => .bool (decide (j ≤ i))) (fun i j _ => .bl _) ⟨i, j, rfl, rfl, h⟩
theorem od_eqI {i j : Int} (h : Φ (.bool (decide (i = j)))) : OpD K p rEq (.int i) (.int j) Φ := fun vx vy Hk H Q e po rx ry k => by
  rw [dp_int rx, dp_int ry]
  refine ⟨rfl, k _ (.bool (decide (i = j))) _ _ (Go.refl e po) ?_ h⟩
  have : decide (V.int i = V.int j) = decide (i = j) := decide_eq_decide.mpr ⟨fun z => V.int.inj z, fun z => by rw [z]⟩
  rw [this]
  exact .bl _
theorem od_neI {i j : Int} (h : Φ (.bool (!decide (i = j)))) : OpD K p rNe (.int i) (.int j) Φ := fun vx vy Hk H Q e po rx ry k => by
  rw [dp_int rx, dp_int ry]
  refine ⟨rfl, k _ (.bool (!decide (i = j))) _ _ (Go.refl e po) ?_ h⟩
  have : decide (V.int i = V.int j) = decide (i = j) := decide_eq_decide.mpr ⟨fun z => V.int.inj z, fun z => by rw [z]⟩
  rw [this]
  exact .bl _
theorem od_eqS {i j : Str} (h : Φ (.bool (decide (i = j)))) : OpD K p rEq (.str i) (.str j) Φ := fun vx vy Hk H Q e po rx ry k => by
  rw [dp_str rx, dp_str ry]
  refine ⟨rfl, k _ (.bool (decide (i = j))) _ _ (Go.refl e po) ?_ h⟩
  have : decide (V.str i = V.str j) = decide (i = j) := decide_eq_decide.mpr ⟨fun z => V.str.inj z, fun z => by rw [z]⟩
  rw [this]
  exact .bl _
theorem od_neS {i j : Str} (h : Φ (.bool (!decide (i = j)))) : OpD K p rNe (.str i) (.str j) Φ := fun vx vy Hk H Q e po rx ry k => by
  rw [dp_str rx, dp_str ry]
  refine ⟨rfl, k _ (.bool (!decide (i = j))) _ _ (Go.refl e po) ?_ h⟩
  have : decide (V.str i = V.str j) = decide (i = j) := decide_eq_decide.mpr ⟨fun z => V.str.inj z, fun z => by rw [z]⟩
  rw [this]
  exact .bl _
theorem od_eqD {x y : PyData} (sx : SeqAt.shaped x = true) (sy : SeqAt.shaped y = true) (h : Φ (.bool (PyData.eqv x y))) : OpD K p (rEqD K) x y Φ := fun vx vy Hk H Q e po rx ry k =>
  ⟨x, y, dx_dp x (noDict_shaped sx) (dp_mono e x rx), dx_dp y (noDict_shaped sy) (dp_mono e y ry), sx, sy, k _ _ _ _ (Go.refl e po) (.bl _) h⟩
theorem od_neD {x y : PyData} (sx : SeqAt.shaped x = true) (sy : SeqAt.shaped y = true) (h : Φ (.bool (!PyData.eqv x y))) : OpD K p (rNeD K) x y Φ := fun vx vy Hk H Q e po rx ry k =>
  ⟨x, y, dx_dp x (noDict_shaped sx) (dp_mono e x rx), dx_dp y (noDict_shaped sy) (dp_mono e y ry), sx, sy, k _ _ _ _ (Go.refl e po) (.bl _) h⟩
theorem od_isB {a b : Bool} (h : Φ (.bool (decide (a = b)))) : OpD K p rIsB (.bool a) (.bool b) Φ := fun vx vy Hk H Q e po rx ry k => by
  rw [dp_bl rx, dp_bl ry]
  exact ⟨a, b, rfl, rfl, k _ _ _ _ (Go.refl e po) (.bl _) h⟩
theorem od_notB {a b : Bool} (h : Φ (.bool (!decide (a = b)))) : OpD K p rNotB (.bool a) (.bool b) Φ := fun vx vy Hk H Q e po rx ry k => by
  rw [dp_bl rx, dp_bl ry]
  exact ⟨a, b, rfl, rfl, k _ _ _ _ (Go.refl e po) (.bl _) h⟩
theorem ud_neg {i : Int} (h : Φ (.int (-i))) : UnD K p (rU fun i => V.int (-i)) (.int i) Φ := fun vx Hk H Q e po rx k => by
  rw [dp_int rx]
  exact ⟨i, rfl, k _ _ _ _ (Go.refl e po) (.int _) h⟩
theorem atI_map {α β : Type} {f : α → β} {xs : List α} {i : Int} {x : α} (h : atI xs i = some x) : atI (xs.map f) i = some (f x) := by
  unfold atI at h ⊢
  rw [List.length_map]
  cases q : ixN xs.length i with
  | none =>
    rw [q] at h
    cases h
  | some j =>
    rw [q] at h
    show (xs.map f)[j]? = some (f x)
    rw [List.getElem?_map, (show xs[j]? = some x from h)]
    rfl
theorem dpAll_at {Hk : Hp} {vs : List V} {ds : List PyData} {i : Int} {d : PyData} (r : DxAll K Hk vs ds) (h : atI ds i = some d) : ∃ v, atI vs i = some v ∧ Dx K Hk v d := by
  unfold atI at h ⊢
  rw [dpAll_len r]
  cases q : ixN ds.length i with
  | none =>
    rw [q] at h
    cases h
  | some j =>
    rw [q] at h
    exact dpAll_get r (show ds[j]? = some d from h)
theorem od_ixT {ds : List PyData} {i : Int} {d : PyData} (ha : atI ds i = some d) (h : Φ d) : OpD K p (rIxT K) (.tuple ds) (.int i) Φ := fun vx vy Hk H Q e po rx ry k => by
  obtain ⟨a, xs, rfl, hT, r⟩ := dp_tup rx
  rw [dp_int ry]
  obtain ⟨v, hv, rv⟩ := dpAll_at r ha
  exact ⟨a, xs, i, v, rfl, rfl, ex_t e hT, hv, k _ _ _ _ (Go.refl e po) rv h⟩
theorem od_ixL {ds : List PyData} {i : Int} {d : PyData} (ha : atI ds i = some d) (h : Φ d) : OpD K p (rIxL K) (.list ds) (.int i) Φ := fun vx vy Hk H Q e po rx ry k => by
  obtain ⟨a, xs, rfl, hT, r⟩ := dp_lst rx
  rw [dp_int ry]
  obtain ⟨v, hv, rv⟩ := dpAll_at r ha
  exact ⟨a, xs, i, v, rfl, rfl, ex_l e hT, hv, k _ _ _ _ (Go.refl e po) rv h⟩
theorem od_catT {ds es : List PyData} (hz : ds.length + es.length ≤ 100000) (h : Φ (.tuple (ds ++ es))) : OpD K p (rCatA K) (.tuple ds) (.tuple es) Φ := fun vx vy Hk H Q e po rx ry k => by
  obtain ⟨a, xs, rfl, hT, r⟩ := dp_tup rx
  obtain ⟨b, ys, rfl, hU, u⟩ := dp_tup ry
  have l1 := dpAll_len r
  have l2 := dpAll_len u
  refine ⟨a, b, xs, ys, rfl, rfl, ex_t e hT, ex_t e hU, sz_of (by omega), fun z => ?_, fun _ z => ?_, fun _ _ q hq => ?_⟩
  · have : ds = [] := List.length_eq_zero_iff.mp (by rw [← l1, z]; rfl)
    subst this
    exact k _ _ _ _ (Go.refl e po) ry h
  · have : es = [] := List.length_eq_zero_iff.mp (by rw [← l2, z]; rfl)
    subst this
    rw [List.append_nil] at h
    exact k _ _ _ _ (Go.refl e po) rx h
  · exact k _ _ _ _ (Go.new e po hq) (.tup (SqT.of upd_same) (dpAll_mono (Ex.new (fresh_back e hq)) _ (dpAll_app r u))) h
/-- what is cut out -/
def cutD (xs : List PyData) (lo hi : Option Int) : List PyData := (xs.drop (HT.sIx xs.length 0 lo)).take (HT.sIx xs.length xs.length hi - HT.sIx xs.length 0 lo)
theorem ud_slT {ds : List PyData} {lo hi : Option Int} (h : Φ (.tuple (cutD ds lo hi))) : UnD K p (fun v => rSlA K v lo hi) (.tuple ds) Φ := fun vx Hk H Q e po rx k => by
  obtain ⟨a, xs, rfl, hT, r⟩ := dp_tup rx
  have l1 := dpAll_len r
  refine ⟨a, xs, rfl, ex_t e hT, fun ⟨z1, z2⟩ => ?_, fun _ q hq => ?_⟩
  · have : cutD ds lo hi = ds := by
      unfold cutD
      rw [l1] at z1 z2
      rw [z1, z2, List.drop_zero, Nat.sub_zero]
      exact List.take_length
    rw [this] at h
    exact k _ _ _ _ (Go.refl e po) rx h
  · refine k _ _ _ _ (Go.new e po hq) (.tup (SqT.of upd_same) (dpAll_mono (Ex.new (fresh_back e hq)) _ ?_)) h
    unfold cutV cutD
    rw [l1]
    exact dpAll_take _ (dpAll_drop _ r)
theorem sqL_lst {Hk : Hp} {a : Addr} {xs : List V} (h : SqL K Hk a xs) : SqL K Hk a xs := h
/-! ### built-ins on values -/
theorem cb_len_tup {r : List V → Hp → VK → Prop} (hr : r = fun xs H Q => ∃ p ys, xs = [.ref p] ∧ (SqL K H p ys ∨ SqT K H p ys) ∧ Q (.int ys.length) H) {ds : List PyData} (h : Φ (.int ds.length)) : CbD K p r [.tuple ds] Φ := fun vs Hk H Q e po rx k => by
  subst hr
  cases rx with
  | cons rx rr =>
    cases rr
    obtain ⟨a, xs, rfl, hT, r⟩ := dp_tup rx
    refine ⟨a, xs, rfl, .inr (ex_t e hT), ?_⟩
    rw [dpAll_len r]
    exact k _ _ _ _ (Go.refl e po) (.int _) h
theorem cb_len_lst {r : List V → Hp → VK → Prop} (hr : r = fun xs H Q => ∃ p ys, xs = [.ref p] ∧ (SqL K H p ys ∨ SqT K H p ys) ∧ Q (.int ys.length) H) {ds : List PyData} (h : Φ (.int ds.length)) : CbD K p r [.list ds] Φ := fun vs Hk H Q e po rx k => by
  subst hr
  cases rx with
  | cons rx rr =>
    cases rr
    obtain ⟨a, xs, rfl, hT, r⟩ := dp_lst rx
    refine ⟨a, xs, rfl, .inl (ex_l e hT), ?_⟩
    rw [dpAll_len r]
    exact k _ _ _ _ (Go.refl e po) (.int _) h
theorem cb_sum {ns : List Int} (h : Φ (.int ns.sum)) : CbD K p (rSum K) [.list (ns.map .int)] Φ := fun vs Hk H Q e po rx k => by
  cases rx with
  | cons rx rr =>
    cases rr
    obtain ⟨a, xs, rfl, hT, r⟩ := dp_lst rx
    have := dpAll_ints r
    subst this
    exact ⟨a, ns, rfl, ex_l e hT, k _ _ _ _ (Go.refl e po) (.int _) h⟩
theorem cb_sumT {r : List V → Hp → VK → Prop} (ns : List Int) (h : Φ (.int ns.sum)) {x : PyData} (hx : x = .list (ns.map .int)) : CbD K p (rSum K) [x] Φ := by
  rw [hx]
  exact cb_sum h
theorem cb_all {bs : List Bool} (h : Φ (.bool (bs.all id))) : CbD K p (rAll K) [.list (bs.map .bool)] Φ := fun vs Hk H Q e po rx k => by
  cases rx with
  | cons rx rr =>
    cases rr
    obtain ⟨a, xs, rfl, hT, r⟩ := dp_lst rx
    have := dpAll_bools r
    subst this
    exact ⟨a, bs, rfl, ex_l e hT, k _ _ _ _ (Go.refl e po) (.bl _) h⟩
theorem cb_abs {i : Int} (h : Φ (.int (if i < 0 then -i else i))) : CbD K p (fun xs H Q => ∃ i, xs = [V.int i] ∧ Q (.int (if i < 0 then -i else i)) H) [.int i] Φ := fun vs Hk H Q e po rx k => by
  cases rx with
  | cons rx rr =>
    cases rr
    rw [dp_int rx]
    exact ⟨i, rfl, k _ _ _ _ (Go.refl e po) (.int _) h⟩
theorem cb_int {i : Int} (h : Φ (.int i)) : CbD K p (fun xs H Q => (∃ i, xs = [V.int i] ∧ Q (.int i) H) ∨ ∃ k, xs = [V.bl k] ∧ Q (.int (if k then 1 else 0)) H) [.int i] Φ := fun vs Hk H Q e po rx k => by
  cases rx with
  | cons rx rr =>
    cases rr
    rw [dp_int rx]
    exact .inl ⟨i, rfl, k _ _ _ _ (Go.refl e po) (.int _) h⟩
theorem cb_max2 {i j : Int} (h : Φ (.int (if j > i then j else i))) : CbD K p (fun xs H Q => ∃ i j, xs = [V.int i, V.int j] ∧ Q (.int (if j > i then j else i)) H) [.int i, .int j] Φ := fun vs Hk H Q e po rx k => by
  cases rx with
  | cons rx rr =>
    cases rr with
    | cons ry rr =>
      cases rr
      rw [dp_int rx, dp_int ry]
      exact ⟨i, j, rfl, k _ _ _ _ (Go.refl e po) (.int _) h⟩
theorem cb_gcd {i j : Int} (h : Φ (.int ((Nat.gcd i.natAbs j.natAbs : Nat) : Int))) : CbD K p rGcd [.int i, .int j] Φ := fun vs Hk H Q e po rx k => by
  cases rx with
  | cons rx rr =>
    cases rr with
    | cons ry rr =>
      cases rr
      rw [dp_int rx, dp_int ry]
      exact ⟨i, j, rfl, k _ _ _ _ (Go.refl e po) (.int _) h⟩
theorem cb_list {ds : List PyData} {x : PyData} (hx : x = .tuple ds ∨ x = .list ds) (h : Φ (.list ds)) : CbD K p (fun xs H Q => ∃ p ys, xs = [V.ref p] ∧ (SqL K H p ys ∨ SqT K H p ys) ∧ ∀ l, H l = none → Q (.ref l) (upd H l (.lst ys))) [x] Φ := fun vs Hk H Q e po rx k => by
  cases rx with
  | cons rx rr =>
    cases rr
    rcases hx with rfl | rfl
    · obtain ⟨a, xs, rfl, hT, r⟩ := dp_tup rx
      exact ⟨a, xs, rfl, .inr (ex_t e hT), fun q hq => k _ _ _ _ (Go.new e po hq) (.lst (SqL.of upd_same) (dpAll_mono (Ex.new (fresh_back e hq)) _ r)) h⟩
    · obtain ⟨a, xs, rfl, hT, r⟩ := dp_lst rx
      exact ⟨a, xs, rfl, .inl (ex_l e hT), fun q hq => k _ _ _ _ (Go.new e po hq) (.lst (SqL.of upd_same) (dpAll_mono (Ex.new (fresh_back e hq)) _ r)) h⟩
theorem cb_tuple {ds : List PyData} {x : PyData} (hx : x = .tuple ds ∨ x = .list ds) (h : Φ (.tuple ds)) : CbD K p (fun xs H Q => ∃ p ys, xs = [V.ref p] ∧ ((SqL K H p ys ∧ ∀ l, H l = none → Q (.ref l) (upd H l (.tup ys))) ∨ (SqT K H p ys ∧ Q (.ref p) H))) [x] Φ := fun vs Hk H Q e po rx k => by
  cases rx with
  | cons rx rr =>
    cases rr
    rcases hx with rfl | rfl
    · obtain ⟨a, xs, rfl, hT, r⟩ := dp_tup rx
      exact ⟨a, xs, rfl, .inr ⟨ex_t e hT, k _ _ _ _ (Go.refl e po) rx h⟩⟩
    · obtain ⟨a, xs, rfl, hT, r⟩ := dp_lst rx
      exact ⟨a, xs, rfl, .inl ⟨ex_l e hT, fun q hq => k _ _ _ _ (Go.new e po hq) (.tup (SqT.of upd_same) (dpAll_mono (Ex.new (fresh_back e hq)) _ r)) h⟩⟩
end
end Fw
/-! enumerate of a tuple; a tuple times 1; repr of data; a call by names alone -/
namespace FwE
open PySem PySem.Spec PyProof.Rows L2
section
variable {prog : Program} {w : World} {A : Around}
theorem tupDraws {it l : Addr} {items : Array Value} (hne : l ≠ it) (hh : A.handled = none) : Draws prog w A it [it, l] items.size (fun i x => items[i]? = some x) (fun i h => h.IsTupleIter it l i ∧ h.IsTuple l items) where
  live := fun i h st => by
    obtain ⟨⟨o, ho, _⟩, _⟩ := st
    exact ⟨o, ho⟩
  frame := fun i h h' st k => by
    obtain ⟨h1, o, ho, hc, n, hd⟩ := st
    exact ⟨h1.at fun o q => k it (by simp) o q, o, k l (by simp) _ ho, hc, n, hd⟩
  item := fun i s Q E hi st hQ => by
    obtain ⟨h1, h2⟩ := st
    have hx : items[i]? = some items[i] := by simp [hi]
    refine RZ.nextOf_tuple_item h1 h2 hx fun h' a sb => hQ items[i] h' s.toks hx ⟨a, ?_⟩ sb
    obtain ⟨o, ho, hc, n, hd⟩ := h2
    exact ⟨o, (sb.2 l hne).trans ho, hc, n, hd⟩
  done := fun s Q E st hE => RZ.nextOf_tuple_end hh st.1 st.2 (by simp) hE
theorem meetsNewT (l : Addr) (items : Array Value) (n : Nat) (dct : Option Addr) (sl : Array (Option Value)) :
    Meets (Builtin.«enumerate.__new__» ⟨[.type "enumerate", .ref l], []⟩) (fun _ R s =>
      s.heap.get? l = some { cls := .type "tuple", dict := dct, data := .seq items n, slots := sl } ∧ ∀ h', IsEnum h' (s.heap.objs.size + 1) s.heap.objs.size 0 .none → h'.IsTupleIter s.heap.objs.size l 0 →
        h'.objs.size = s.heap.objs.size + 2 → (∀ b o, s.heap.get? b = some o → h'.get? b = some o) → R (.ok (.ret (.ref (s.heap.objs.size + 1)))) { s with heap := h' }) :=
  .of_wp fun prog w A R s h => by
    obtain ⟨hp, g, d, tk, os⟩ := s
    obtain ⟨hl, h⟩ := h
    have hsub := sub_enumerate
    have hL : Heap.IsTuple (Shared.heap ⟨hp, g, d, tk, os⟩) l items := ⟨_, hl, rfl, n, rfl⟩
    have fin : R (.ok (.ret (.ref (hp.push { cls := .type "tuple_iterator", data := .fields #[.ref l, .int 0 0] }).objs.size)))
        ⟨(hp.push { cls := .type "tuple_iterator", data := .fields #[.ref l, .int 0 0] }).push { cls := .type "enumerate", data := .fields #[.none, .bool false, .ref hp.objs.size, rawInt 0, .none, .none] }, g, d, tk, os⟩ := by
      have hz : (hp.push { cls := .type "tuple_iterator", data := .fields #[.ref l, .int 0 0] }).objs.size = hp.objs.size + 1 := Heap.size_push ..
      have he : IsEnum ((hp.push { cls := .type "tuple_iterator", data := .fields #[.ref l, .int 0 0] }).push { cls := .type "enumerate", data := .fields #[.none, .bool false, .ref hp.objs.size, rawInt 0, .none, .none] }) (hp.objs.size + 1) hp.objs.size 0 .none := by
        have q := Heap.get?_push_size (hp.push { cls := .type "tuple_iterator", data := .fields #[.ref l, .int 0 0] }) (o := { cls := .type "enumerate", data := .fields #[.none, .bool false, .ref hp.objs.size, rawInt 0, .none, .none] }) rfl
        rw [hz] at q
        exact q
      rw [hz]
      exact h _ he ⟨_, Heap.get?_push_of_some _ (Heap.get?_push_size _ rfl), rfl, rfl⟩ (by rw [Heap.size_push, hz]) fun b o x => Heap.get?_push_of_some _ (Heap.get?_push_of_some _ x)
    wp_walk using AutoSeq1.wpAny_loadPart' hl
    refine wpAny_stack_any fun st => wpAny_pure ?_
    split
    · rename_i c _ _ _ _ _
      cases (c == Value.type "enumerate")
      all_goals
        wp_walk using AutoSeq1.wpAny_loadPart' hl, wpAny_pyIter_tuple hL
        exact ⟨_, rfl, fin⟩
    · wp_walk using AutoSeq1.wpAny_loadPart' hl, wpAny_pyIter_tuple hL
      exact ⟨_, rfl, fin⟩
theorem callEnumT {E : Value → Shared → Prop} {s : Shared} {l : Addr} {items : Array Value} {Q : Value → Shared → Prop} (hL : s.heap.IsTuple l items)
    (h : ∀ h', IsEnum h' (s.heap.objs.size + 1) s.heap.objs.size 0 .none → h'.IsTupleIter s.heap.objs.size l 0 → h'.objs.size = s.heap.objs.size + 2 → (∀ b o, s.heap.get? b = some o → h'.get? b = some o) → Q (.ref (s.heap.objs.size + 1)) { s with heap := h' }) :
    wpAny (model prog w) A (call (.type "enumerate") [.ref l]) Q E s := by
  obtain ⟨⟨c, dct, dt, sl⟩, hl, hc, n, hd⟩ := hL
  simp only at hc hd
  subst hc hd
  refine callType_new F.called_enumerate (by decide) (F.typeCall_enumerate_1 _) (F.newCall_enumerate_1 _) (fun obj => F.args_object_init_2 obj _) F.entry_enumerate_new (meetsNewT l items n dct sl) ⟨hl, fun h' a b c d => ?_⟩
  exact ⟨⟨_, a, rfl⟩, h h' a b c d⟩
end
/-- the tuple at a, each item in a new pair -/
def IteT (K : PySem.W.Frag) (a : Addr) : It :=
  ⟨fun i H => ∃ (xs : List V) (x : V), SqT K H a xs ∧ xs[i]? = some x, fun i H v H' => ∃ T x, v = .ref T ∧ H T = none ∧ H' = upd H T (.tup [.int (i : Nat), x]) ∧ ∀ xs, SqT K H a xs → xs[i]? = some x, fun i H => ∃ xs : List V, SqT K H a xs ∧ xs.length ≤ i⟩
theorem turnEnumT {P : Program} {w : World} {K : PySem.W.Frag} {elts : List Expr} {kk : Nat} {tpos : Pos} (a e it : Addr) (hae : a ≠ e) (hai : a ≠ it) :
    Turn P w K (.Tuple elts kk tpos) (IteT K a) [e, it] e (fun i h => (∃ old, IsEnum h e it ((i : Nat) : Int) old) ∧ h.IsTupleIter it a i ∧ e ≠ it) where
  mem := by simp
  obj := fun i h st b hb => by
    obtain ⟨⟨old, he⟩, ⟨o, ho, hc, hd⟩, _⟩ := st
    rcases (show b = e ∨ b = it by simpa using hb) with z | z
    · rw [z]; exact ⟨_, he, fun v q => nomatch q⟩
    · rw [z]; exact ⟨o, ho, fun v q => by rw [hd] at q; cases q⟩
  keep := fun i h h' st k => let ⟨⟨old, he⟩, hi, hne⟩ := st; ⟨⟨old, k e (by simp) _ he⟩, hi.at fun o q => k it (by simp) o q, hne⟩
  item := by
    intro X hP hw hK hc i pins s σ H E I hf st hg
    subst hP hw hK
    obtain ⟨⟨old, he⟩, hit, hne⟩ := st
    obtain ⟨xs, x, hq, hx⟩ := hg
    obtain ⟨its, rv, tp, hz⟩ := I.tuple hq
    obtain ⟨u, hu, ru⟩ := rv.get hx
    have hel : e < s.heap.objs.size := Heap.lt_size he
    have hil : it < s.heap.objs.size := by
      obtain ⟨_, q, _⟩ := hit
      exact Heap.lt_size q
    have hu' : its.toArray[i]? = some u := by simpa using hu
    have hlt : i < its.toArray.size := by
      have := (List.getElem?_eq_some_iff.mp hu).1
      simpa using this
    refine wpAny_pyNext_enum_itemD (tupDraws (items := its.toArray) hai (show X.A.in1.handled = none from I.ok.hd hc)) he ⟨hit, tp⟩ hlt hne (by simp [hne, Ne.symm hae]) fun x2 h' tk hx2 ho st2 hT hsz hk => ?_
    have ex : x2 = u := Option.some.inj (hx2.symm.trans hu')
    subst ex
    refine ⟨_, rfl, wpAny_letOwnedTupleGo_enum (s := { s with heap := h', toks := tk + 1 }) ho fun h'' he' sb => ?_⟩
    have hT2 : h''.get? s.heap.objs.size = some { cls := .type "tuple", data := .seq #[.int i tk, x2] } := (sb.2 _ (Nat.ne_of_gt hel)).trans hT
    have new : ObjOk X.prog X.w (upd H s.heap.objs.size (.tup [.int (i : Nat), x])) h'' s.heap.objs.size (.tup [.int (i : Nat), x]) :=
      ⟨by show 2 ≤ sizeLine; decide, [.int i tk, x2], .cons ⟨_, rfl⟩ (.cons ru .nil), ⟨_, hT2, rfl, _, rfl⟩⟩
    have I1 : Inv X pins σ (upd H s.heap.objs.size (.tup [.int (i : Nat), x])) { s with heap := h'', toks := tk + 1 } :=
      I.turnedNew (ch := [e, it]) (fun b ob hb q => (sb.2 b (fun z => hb (by simp [z]))).trans (hk b ob (fun z => hb (by simp [z])) (fun z => hb (by simp [z])) q)) hf (Nat.le_refl _) new
    refine ⟨.ref s.heap.objs.size, _, I1, rfl, ⟨_, x, rfl, I.hok.fresh (Nat.le_refl _), rfl, fun ys hy => by rw [I.tuple_inj hy hq]; exact hx⟩, ⟨⟨x2, ?_⟩, st2.1.at fun o q => (sb.2 it (Ne.symm hne)).trans q, hne⟩, fun b hb => ?_⟩
    · rw [show ((i + 1 : Nat) : Int) = (i : Int) + 1 by omega]
      exact he'
    · have hb' : b < s.heap.objs.size := by
        rcases (show b = e ∨ b = it by simpa using hb) with z | z
        · rw [z]; exact hel
        · rw [z]; exact hil
      rw [upd_ne (Nat.ne_of_lt hb')]
      exact (hf b hb).1
  done := by
    intro X hP hw hK hc i pins s σ H E I hf st hg
    subst hP hw hK
    obtain ⟨⟨old, he⟩, hit, hne⟩ := st
    obtain ⟨xs, hq, hx⟩ := hg
    obtain ⟨its, rv, tp, hz⟩ := I.tuple hq
    obtain ⟨f0, f1, f2, f3, f4, f5⟩ := hf it (by simp)
    have hl := rv.length
    have hn : its.toArray[i]? = none := by simp; omega
    have hT : s.TypeIs (.ref e) "enumerate" := ⟨_, he, rfl⟩
    unfold pyNext
    refine wpAny_bind (wpAny_attempt (wpAny_callSpecial?_slot (name := Str.ofString "__next__") hT F.slot_enumerate_next (wpAny_call_entry F.slot_enumerate_next hT F.entry_enumerate_next ?_ (F.args_enumerate_next_1 _))))
    show wpAny _ _ (field (.ref e) 2 >>= _) _ _ _
    refine wpAny_bind (wpAny_field he rfl (x := .ref it) rfl ?_)
    refine wpAny_bind (RZ.nextOf_tuple_end (show X.A.in1.handled = none from I.ok.hd hc) hit tp hn fun h' y eb hy => ?_)
    obtain ⟨o, ho, hc'⟩ := hy
    refine wpAny_bind (wpAny_isInstance (T := "StopIteration") (b := true) ⟨o, ho, hc'⟩ isSubtype_stop ?_)
    exact wpAny_pure ⟨rfl, I.turned (t' := s.toks) (fun b o hb q => eb b o hb q) f0 f1 f3 f4 f5⟩
  self := fun A i s Q E st h => let ⟨⟨_, he⟩, _⟩ := st; wpAny_pyIter_enum he h
def iEnumT (K : PySem.W.Frag) (ta : TA) : TI := fun σ H R => ta σ H fun vs H1 => ∃ a xs, vs = [.ref a] ∧ SqT K H1 a xs ∧ R (IteT K a) H1
theorem pi_enumT {X : Cx} {e : Expr} {ta : TA} {p pos tpos : Pos} {elts : List Expr} {kk : Nat} (hg : Gl X "enumerate") (hm : X.mg "enumerate" = none) (ha : PA X [e] ta) (hs : starEach [e] X.env = [(false, eval e X.env)] := by rfl) :
    PI X (.Tuple elts kk tpos) (.Call (.Name "enumerate" p) [e] [] pos) (iEnumT X.K ta) := by
  refine ⟨fun pins s σ H R I h => ?_⟩
  refine Call_ (ld_blt I hg hm boot_enumerate (PyProof.Rows.callWith_type1 (thn (ha.run pos pins s σ H _ I h) fun us s1 ⟨vs, H1, I1, r1, q1⟩ => ?_) hs rfl))
  obtain ⟨a, xs, ex, hq, q⟩ := q1
  subst ex
  cases r1 with
  | cons r rr =>
    cases rr
    cases r
    obtain ⟨its, rv, tp, hz⟩ := I1.tuple hq
    have hlt : a < s1.heap.objs.size := by
      obtain ⟨o, ho, _⟩ := tp
      exact Heap.lt_size ho
    refine callEnumT tp fun h' he hit hsz hk => wpAny_pyIter_enum he ?_
    have I2 : Inv X pins σ H1 { s1 with heap := h' } := I1.kept (t' := s1.toks) hk
    refine ⟨s1.heap.objs.size + 1, [s1.heap.objs.size + 1, s1.heap.objs.size], _, _, H1, rfl, I2, turnEnumT a (s1.heap.objs.size + 1) s1.heap.objs.size (Nat.ne_of_lt (Nat.lt_succ_of_lt hlt)) (Nat.ne_of_lt hlt), ⟨⟨.none, he⟩, hit, Nat.succ_ne_self _⟩, fun b hb => ?_, q⟩
    have hle : s1.heap.objs.size ≤ b := by
      rcases (show b = s1.heap.objs.size + 1 ∨ b = s1.heap.objs.size by simpa using hb) with z | z
      · rw [z]; exact Nat.le_add_right _ _
      · rw [z]; exact Nat.le_refl _
    exact I1.fpOk hle (I1.hok.fresh hle)
/-! ### repr of data -/
def rReprD (K : PySem.W.Frag) : List V → Hp → VK → Prop := fun xs H Q => ∃ (x : V) (d : PyData), xs = [x] ∧ Dp K H x d ∧ isDisplay d = true ∧ d.showable = true ∧ d.hasDict = false ∧ d.depth ≤ 60 ∧ d.shown.length ≤ sizeLine ∧ Q (.str d.shown) H
section
variable {X : Cx}
theorem call_reprD (hg : X.A.guards = some []) (hu : X.A.units + 61 < cLine) : CallR X (.builtin "repr") (rReprD X.K) := by
  intro pins s σ H xs us Q I r h
  obtain ⟨x, d, rfl, hd, h1, h2, h3, h4, h5, q⟩ := h
  obtain ⟨u, rfl, rx⟩ := vals1 r
  obtain ⟨as, rd⟩ := Dp.reads I d x u hd rx
  obtain ⟨a, rfl⟩ := isRef_of_reads rd h1
  exact repr_of_reads' rd h2 (PyData.noDict_hsm h3) hg (by omega) (fun _ _ e => e) (fun h' t tk hk => ⟨.str d.shown, H, I.kept hk, ⟨_, rfl⟩, q⟩) h5
/-- repr of a truth value -/
theorem call_reprB : CallR X (.builtin "repr") (fun xs H Q => ∃ b, xs = [.bl b] ∧ Q (.str (if b then "True" else "False")) H) := by
  intro pins s σ H xs us Q I r h
  obtain ⟨b, rfl, q⟩ := h
  obtain ⟨u, rfl, rx⟩ := vals1 r
  cases rx
  refine PySem.P.repr_of_bool ⟨.str _, H, I.tok _, ?_, q⟩
  cases b
  · exact ⟨_, rfl⟩
  · exact ⟨_, rfl⟩
end
end FwE
/-! Defs that are called where no repr is under way (their promise asks it of the surroundings): FnG beside the layer's FnOk. -/
namespace FwG
open PySem PySem.Spec PyProof.Rows L2
structure FnG (P : Program) (w : World) (K : PySem.W.Frag) (mg : Str → Option Value) (base : Heap) (CX : CXT) (k : Nat) (f : Addr) (fd : FuncData) (ps : List Str) (sp : Sp) : Prop where
  len : ∀ vs H Q E, sp vs H Q E → vs.length = ps.length
  go : ∀ (A : Around), A.guards = some [] → ∀ (outer : List Env) (s : Shared) (H : Hp) (args : Args) (us : List Value) (vs : List V) (Q : VK) (E : XK), Room k A → Env0 P w K mg base A outer s H → BindsTo s fd args (ps.zip us) → Vals vs us → sp vs H Q E → codeAny (model P w) A (.call (.ref f) args) (CR CX outer P w H s Q E) s
section
variable {P : Program} {w : World} {K : PySem.W.Frag} {mg : Str → Option Value} {base : Heap}
theorem FnG.of {CX : CXT} {k : Nat} {f : Addr} {fd : FuncData} {ps : List Str} {sp : Sp} (F : FnOk P w K mg base CX k f fd ps sp) : FnG P w K mg base CX k f fd ps sp :=
  ⟨F.len, fun A _ outer s H args us vs Q E => F.run A outer s H args us vs Q E⟩
variable {x qual : Str} {params : Arguments} {body : List Stmt} {scope : Scope} {dvs : List V} {kws : List (Str × V)} {f : Addr} {fd : FuncData}
theorem okG {CX : CXT} {N ps : List Str} {k : Nat} {sp : Sp} (F : FunD K x qual params body scope dvs kws f fd) (S : FnScope N ps scope) (len : ∀ vs H Q E, sp vs H Q E → vs.length = ps.length)
    (hb : ∀ (cdv : Value) (A : Around) (outer : List Env) (s : Shared) (H : Hp) (vs : List V) (Q : VK) (E : XK), A.guards = some [] → Room k (A.deeper (envOfC qual scope s.heap.objs.size f cdv)) → sp vs H Q E →
      ∃ t, PSs (cxOf CX P w K mg base N qual scope f cdv A outer s H E) body t ∧ t { nx := fun _ H' => Q .non H', rt := Q } (start N vs) H) : FnG P w K mg base CX (k + 1) f fd ps sp := by
  obtain ⟨oc, od, dV, kV, doc, pm, an, cdv, ct, osl, rfl, lk, hcd, _, _⟩ := F.ex
  constructor
  · exact len
  intro A gA outer s H args us vs Q E room ev bind rel prom
  have same : vs.length = ps.length := len _ _ _ _ prom
  have kIn : K.In s.heap := ev.mod.kin.keeps fun b o e => (ev.bs b o e).1
  refine codeAny_call_function room.depth (kIn _ _ lk) rfl S.co S.gen rfl (PySem.W.codeRec_of kIn hcd) (bind _ _ _ _ (wpAny_newFunctionEnv_cells S.kind (fun y hy => ?_) fun env he s1 inC => ?_))
  · cases S.par y.1 (List.of_mem_zip (show (y.1, y.2) ∈ ps.zip us from hy)).1 with
    | inl q => exact .inl q
    | inr q => exact .inr ⟨q, PySem.W.cellsFrom_some _ _ _ (.inl q)⟩
  subst he
  refine ⟨(ev.mod.nolimit.keeps fun b o e => (ev.bs b o e).1).keeps inC.toInCall.keep, codeAny_func ?_⟩
  obtain ⟨t, der, rd⟩ := hb cdv A outer s H vs Q E gA (room.deeper _) prom
  have start1 := inv_start (CX := CX) (E := E) S room.hd ev same rel inC
  refine wpAny_mono (der.run [] s1 (start N vs) H _ start1 rd) (fun fl s2 out => ?_) fun e s2 out => out
  cases fl with
  | ret u =>
    obtain ⟨v, _, H2, J, rv, q⟩ := out
    exact ⟨v, H2, J.os, J.bare, J.base, J.hok, rv, q⟩
  | next =>
    obtain ⟨_, H2, J, q⟩ := out
    exact ⟨.non, H2, J.os, J.bare, J.base, J.hok, rfl, q⟩
  | brk => exact (let ⟨_, _, _, q⟩ := out; q.elim)
  | cont => exact (let ⟨_, _, _, q⟩ := out; q.elim)
end
section
variable {X : Cx} {CX : CXT} {k : Nat} {f : Addr} {fd : FuncData} {ps : List Str} {sp : Sp} {dvs : List V} {ds : List Value} {E : XK} {x : Str} {p pos : Pos} {e : Expr} {es : List Expr} {t : TA}
theorem pe_callG (F : FnG X.prog X.w X.K X.mg X.base CX k f fd ps sp) (gA : X.A.guards = some []) (room : Room k X.A) (hg : Gl X x) (hm : X.mg x = some (.ref f)) (kp : PySem.W.keepIn X.K (.ref f) = true) (bind : Binds X.K fd ps ds) (dv : Vals dvs ds) (pass : Passes CX X E)
    (ha : PA X (e :: es) t) (nd : (x == ("__debug__" : Str)) = false := by decide) (st : starEach (e :: es) X.env = (false, eval e X.env) :: starEach es X.env := by rfl) (pl : (backTo pos (starEach es X.env)).any (·.1) = false := by rfl) :
    PE X (.Call (.Name x p) (e :: es) [] pos) (tCall sp dvs E t) := ⟨fun pins s σ H Q I h => by
  refine wpAny_Call_Name_kw (ld_glob I hg hm (PySem.W.callWith_K (h₀ := X.base) I.ok.mod.kin kp (thn (ha.run pos pins s σ H _ I h) fun us s1 got => ?_) st pl) nd)
  obtain ⟨vs, H1, I1, r, q⟩ := got
  refine ⟨I1.kIn, wpAny_call (codeAny_mono (F.go X.A gA X.stack s1 H1 ⟨us, []⟩ (us ++ ds) (vs ++ dvs) Q E room I1.env0 (bind s1 us I1.kIn ?_) (r.append dv) q) fun res s2 out => ?_)⟩
  · rw [← (r.append dv).length]
    exact F.len _ _ _ _ q
  · cases res with
    | error e => exact pass pins σ H1 s1 e s2 I1 out
    | ok fl =>
      cases fl with
      | ret u => exact I1.after out
      | next => exact out.elim
      | brk => exact out.elim
      | cont => exact out.elim⟩
/-- a call by names alone -/
theorem pe_callK0 {ks : List Str} {kw : List Keyword} {tk : TA} {g : List Value → List Value → List Value} {gV : List V → List V → List V} (F : FnOk X.prog X.w X.K X.mg X.base CX k f fd ps sp) (room : Room k X.A) (hg : Gl X x) (hm : X.mg x = some (.ref f)) (kp : PySem.W.keepIn X.K (.ref f) = true)
    (bind : KBinds X.K fd ps ks g gV) (pass : Passes CX X E) (hk : PK X kw tk) (all : (backToKw pos (keywordEach kw X.env)).all (·.1.isSome) = true := by rfl) (keys : (backToKw pos (keywordEach kw X.env)).filterMap (·.1) = ks := by rfl)
    (nd : (x == ("__debug__" : Str)) = false := by decide) (pl : ((backTo pos (starEach [] X.env)).any (·.1) || (backToKw pos (keywordEach kw X.env)).any (·.1.isNone)) = false := by rfl) :
    PE X (.Call (.Name x p) [] kw pos) (tCallK sp gV E tNil tk) := ⟨fun pins s σ H Q I h => by
  refine wpAny_Call_Name_kw (ld_glob I hg hm (PySem.W.callWith_KW0 (h₀ := X.base) I.ok.mod.kin kp all (thn (hk.run pos pins s σ H _ I h) fun ws s2 got => ?_) pl) nd)
  obtain ⟨zs, H2, I2, rz, q⟩ := got
  refine ⟨I2.kIn, ?_⟩
  rw [keys]
  exact run_fnk (us := []) (vs := []) F room bind pass I2 .nil rz q⟩
end
/-! ### the law's own call -/
section
variable {P : Program} {w : World} {K : PySem.W.Frag} {mg mb : Str → Option Value} {s : Shared}
/-- what is not hidden still stands in the heap without the script -/
theorem nsLeft {H : Hp} {h : Heap} {b : Addr} {m : Str → Option Value} (plain : ∀ c o es ep, h.get? c = some o → o.data = .dict es ep → H c = none) (q : h.Ns b m) : (hidT h H).Ns b m := by
  obtain ⟨o, es, ep, e, d, r⟩ := q
  exact ⟨o, es, ep, hidT_get e (plain b o es ep e d), d, r⟩
theorem modLeft {H : Hp} (plain : ∀ c o es ep, s.heap.get? c = some o → o.data = .dict es ep → H c = none) (inK : K.In s.heap) (out : ∀ b o, K.lookup b = some o → H b = none) (n1 : s.heap.Ns mainGlobals mg) (n2 : s.heap.Ns builtinsNs mb)
    (bb : ∀ x : Str, x ≠ "__name__" → mb x = bootBuiltins x) (lim : s.heap.NoLimit) : Mod K mg (hidT s.heap H) where
  kin := fun b o e => hidT_get (inK b o e) (out b o e)
  glob := nsLeft plain n1
  blt := ⟨mb, nsLeft plain n2, bb⟩
  nolimit := by
    obtain ⟨mc, a, b⟩ := lim
    exact ⟨mc, nsLeft plain a, b⟩
/-- the end of the law's run: True, and all that stood before stands -/
theorem endOf {H : Hp} {r : Result} {s' : Shared} (only : Only H) (ok : HOk P w H s.heap) (h : CR CX0 [] P w H s (fun v _ => v = .bl true) (fun _ _ _ => False) r s') :
    r = .ok (.ret (.bool true)) ∧ OldK s.heap s'.heap ∧ s'.os = s.os ∧ AllBare s'.gens := by
  match r, h with
  | .ok (.ret u), h =>
    obtain ⟨v, H', ho, hb, chg, ok', rv, q⟩ := h
    subst q
    cases rv
    refine ⟨rfl, OldK.of_keep fun b o e => ?_, ho, hb⟩
    rcases only b with z | ⟨ob, xs, z⟩
    · exact chg.keep b o e z (fun y => nomatch y) (fun y => nomatch y)
    · have a1 := (ok b _ z).1
      have a2 := (ok' b _ (chg.frzs b ob _ z)).1
      rw [a1] at e
      cases e
      exact a2
variable {k : Nat} {fa a : Addr} {fd : FuncData} {x : Str} {sp : Sp} {vs : List Value} {ns : List Int}
theorem lawRun {H : Hp} (only : Only H) (seen : SqL K H a (ns.map V.int)) (ok : HOk P w H s.heap) (plain : ∀ c o es ep, s.heap.get? c = some o → o.data = .dict es ep → H c = none) (out : ∀ b o, K.lookup b = some o → H b = none)
    (inK : K.In s.heap) (n1 : s.heap.Ns mainGlobals mg) (n2 : s.heap.Ns builtinsNs mb) (bb : ∀ x : Str, x ≠ "__name__" → mb x = bootBuiltins x) (lim : s.heap.NoLimit) (gens : s.gens = #[]) (room : Room k callerA)
    (F : ∀ base : Heap, K.In base → base.Ns mainGlobals mg → FnG P w K mg base CX0 k fa fd [x] sp) (bind : ∀ (s : Shared) (u : Value), BindsTo s fd ⟨[u], []⟩ [(x, u)])
    (prom : sp [.ref a] H (fun v _ => v = .bl true) fun _ _ _ => False) :
    codeAny (model P w) callerA (.call (.ref fa) ⟨[.ref a], []⟩) (fun r s' => r = .ok (.ret (.bool true)) ∧ OldK s.heap s'.heap ∧ s'.os = s.os ∧ AllBare s'.gens) s := by
  have M := modLeft (mg := mg) plain inK out n1 n2 bb lim
  refine codeAny_mono ((F _ M.kin M.glob).go callerA rfl [] s H ⟨[.ref a], []⟩ [.ref a] [.ref a] _ _ room ?_ (bind s (.ref a)) (.cons rfl .nil) prom) fun r s' h => endOf only ok h
  exact ⟨rfl, M, fun b o e => of_hidT e, Nat.le_of_eq (hidT_size _ _), trivial, fun b z => (nomatch (show b ∈ ([] : List Addr) from z)), ok, .of_eq gens⟩
theorem lawRuns (obj : s.heap.get? a = some { cls := .type "list", data := .seq vs.toArray }) (isInts : IntsAre vs ns) (len : ns.length ≤ sizeLine) (inK : K.In s.heap) (n1 : s.heap.Ns mainGlobals mg) (n2 : s.heap.Ns builtinsNs mb) (bb : ∀ x : Str, x ≠ "__name__" → mb x = bootBuiltins x)
    (lim : s.heap.NoLimit) (gens : s.gens = #[]) (room : Room k callerA) (F : ∀ base : Heap, K.In base → base.Ns mainGlobals mg → FnG P w K mg base CX0 k fa fd [x] sp) (bind : ∀ (s : Shared) (u : Value), BindsTo s fd ⟨[u], []⟩ [(x, u)])
    (prom : ∀ H : Hp, Only H → SqL K H a (ns.map V.int) → sp [.ref a] H (fun v _ => v = .bl true) fun _ _ _ => False) :
    codeAny (model P w) callerA (.call (.ref fa) ⟨[.ref a], []⟩) (fun r s' => r = .ok (.ret (.bool true)) ∧ OldK s.heap s'.heap ∧ s'.os = s.os ∧ AllBare s'.gens) s := by
  by_cases inMod : ∃ o, K.lookup a = some o
  · obtain ⟨o, lk⟩ := inMod
    have same := inK a o lk
    rw [obj] at same
    cases same
    have seen : SqL K (fun _ => none) a (ns.map V.int) := .inr ⟨_, vs.toArray, _, lk, rfl, rfl, rfl, by rw [List.size_toArray, isInts.length]; exact len, by simpa using vals_ints isInts⟩
    exact lawRun (fun _ => .inl rfl) seen (fun _ _ z => (nomatch z)) (fun _ _ _ _ _ _ => rfl) (fun _ _ _ => rfl) inK n1 n2 bb lim gens room F bind (prom _ (fun _ => .inl rfl) seen)
  · have notK : ∀ o, K.lookup a ≠ some o := fun o z => inMod ⟨o, z⟩
    let H : Hp := upd (fun _ => none) a (.frz { cls := .type "list", data := .seq vs.toArray } (.lst (ns.map V.int)))
    have only : Only H := fun b => by
      by_cases z : b = a
      · exact .inr ⟨_, _, by rw [z]; exact upd_same⟩
      · exact .inl (upd_ne z)
    have seen : SqL K H a (ns.map V.int) := .inl (.inr ⟨_, upd_same⟩)
    refine lawRun only seen (fun b u z => ?_) (fun c o es ep e d => ?_) (fun b o e => upd_ne fun z => ?_) inK n1 n2 bb lim gens room F bind (prom H only seen)
    · by_cases y : b = a
      · subst y
        rw [show H b = _ from upd_same] at z
        cases z
        exact ⟨obj, by rw [List.length_map]; exact len, vs, _, vals_ints isInts, obj⟩
      · rw [show H b = _ from upd_ne y] at z
        cases z
    · refine upd_ne fun z => ?_
      rw [z, obj] at e
      cases e
      cases d
    · rw [z] at e
      exact notK o e
end
theorem walkG {l : PySem.W.OpenLaw} {n k : Nat} {q : Program} {loose : List Str} {XP : (Str → Option Value) → Heap → Prop} {YP : World → Heap → Prop} {d : DefRec} {x : Str} (hn : l.most = some n) (hn2 : n ≤ sizeLine) (hdf : d.params.defaults = []) (room : Room k callerA)
    (F : ∀ (w : World) (mg : Str → Option Value) (fa : Addr) (h : Heap), YP w h → h.Ns mainGlobals mg → mg d.name = some (.ref fa) → ∃ (K : PySem.W.Frag) (fd : FuncData) (sp : Sp), K.In h ∧ (∀ (s : Shared) (u : Value), BindsTo s fd ⟨[u], []⟩ [(x, u)]) ∧
      (∀ (H : Hp) (a : Addr) (ns : List Int), ns.length ≤ n → Only H → SqL K H a (ns.map V.int) → sp [.ref a] H (fun v _ => v = .bl true) fun _ _ _ => False) ∧ ∀ base : Heap, K.In base → base.Ns mainGlobals mg → FnG l.prog w K mg base CX0 k fa fd [x] sp) :
    PySem.W.WalkO q loose XP YP l.row.toRowW d [] (fun f vs => PySem.call f vs) :=
  Att.attach_call hn hdf fun w s0 s mg mb fa o pm cd doc a vs ns G Y _ _ _ hmg obj isInts len gens => by
    obtain ⟨K, fd, sp, inK, bind, prom, ok⟩ := F w mg fa _ Y G.T.g hmg
    exact lawRuns obj isInts (Nat.le_trans len hn2) inK G.T.g G.T.b G.T.builtins G.T.nolimit gens room ok bind fun H a1 a2 => prom H a ns len a1 a2
end FwG
namespace Fw
open PySem PySem.Spec PyProof.Rows L2 Evl
section
variable {K : PySem.W.Frag} {p : Option Addr} {env : List Slot} {Φ : PyData → Prop} {ta tb te tl : TE} {tt tu : TT}
/-! ### lists that are made or changed beside the known heap -/
theorem Go.mut {Hk H Hk' H' : Hp} {D : Addr} {o : HO} (g : Go p Hk H Hk' H') (h : H D = none) (hp : p ≠ some D) (hk : Hk' D = none) : Go p Hk H Hk' (upd H' D o) := by
  refine ⟨g.kk, Ex.mut g.kr hk, fun a u n e => ?_, g.nk, ?_⟩
  · rw [upd_ne (ne_of_none e h)]
    exact g.rr a u n e
  · have po := g.po
    cases p with
    | none => exact True.intro
    | some q =>
      obtain ⟨a1, a, b, a2, a3⟩ := po
      refine ⟨a1, a, b, ?_, a3⟩
      rw [upd_ne (fun z => hp (by rw [z]))]
      exact a2
theorem Go.pub {Hk H Hk' H' : Hp} {D : Addr} {o : HO} (g : Go p Hk H Hk' H') (h : H D = none) (hp : p ≠ some D) (hk : Hk' D = none) (hd : H' D = some o) : Go p Hk H (upd Hk' D o) H' := by
  refine ⟨g.kk.trans (Ex.new hk), fun a u e => ?_, g.rr, fun a h1 h2 => ?_, ?_⟩
  · by_cases z : a = D
    · subst z
      rw [upd_same] at e
      rw [hd]
      exact e
    · rw [upd_ne z] at e
      exact g.kr a u e
  · have z : a ≠ D := fun z => h1 (by rw [z]; exact h)
    rw [upd_ne z]
    exact g.nk a h1 h2
  · have po := g.po
    cases p with
    | none => exact True.intro
    | some q =>
      obtain ⟨a1, a, b, a2, a3⟩ := po
      refine ⟨?_, a, b, a2, a3⟩
      rw [upd_ne (fun z => hp (by rw [z]))]
      exact a1
theorem pot_ne {Hk H : Hp} {D : Addr} (po : PotOk Hk H p) (h : H D = none) : p ≠ some D := fun z => by
  subst z
  obtain ⟨_, _, _, h2, _⟩ := po
  rw [h] at h2
  cases h2
/-- an own list is read: within, it is known -/
theorem e_own {i : Nat} {ds : List PyData} (h : env[i]? = some (.own ds)) (q : WpE K p te (env.set i (.dat (.list ds))) fun d => flatD d = true ∧ Φ d) : WpE K p te env Φ := fun H0 σ Hk H Q e po en k => by
  obtain ⟨ov, h1, l, vs, rfl, h0, hk, hp, hl, r⟩ := en.slot i _ h
  have x : Ex Hk (upd Hk l (.lst vs)) := Ex.new hk
  have po1 : PotOk (upd Hk l (.lst vs)) H p := by
    cases p with
    | none => exact True.intro
    | some q =>
      obtain ⟨a1, a, b, a2, a3⟩ := po
      refine ⟨?_, a, b, a2, a3⟩
      rw [upd_ne (fun z => hp (by rw [z]))]
      exact a1
  have e1 : Ex (upd Hk l (.lst vs)) H := fun a u z => by
    by_cases y : a = l
    · subst y
      rw [upd_same] at z
      rw [hl]
      exact z
    · rw [upd_ne y] at z
      exact e a u z
  refine q H0 σ _ H Q e1 po1 (en.publish h h1 hk hl r) fun v d Hk' H' g rd ⟨fd, f⟩ => ?_
  have hl' : Hk' l = some (.lst vs) := g.kk l _ upd_same
  refine k v d (del Hk' l) H' ⟨fun a u z => ?_, fun a u z => ?_, g.rr, fun a z1 z2 => ?_, ?_⟩ (dp_del hl' d fd rd) f
  · have y : a ≠ l := ne_of_none z hk
    rw [del_ne y]
    exact g.kk a u (x a u z)
  · by_cases y : a = l
    · rw [y, del_same] at z
      cases z
    · rw [del_ne y] at z
      exact g.kr a u z
  · by_cases y : a = l
    · rw [y]
      exact del_same
    · rw [del_ne y]
      refine g.nk a z1 ?_
      rw [upd_ne y]
      exact z2
  · have po' := g.po
    cases p with
    | none => exact True.intro
    | some q =>
      obtain ⟨a1, a, b, a2, a3⟩ := po'
      refine ⟨?_, a, b, a2, a3⟩
      rw [del_ne (fun z => hp (by rw [z]))]
      exact a1
theorem t_own {Φ : Bool → Prop} {i : Nat} {ds : List PyData} (h : env[i]? = some (.own ds)) (q : WpT K p tt (env.set i (.dat (.list ds))) Φ) : WpT K p tt env Φ := fun H0 σ Hk H Q e po en k => by
  obtain ⟨ov, h1, l, vs, rfl, h0, hk, hp, hl, r⟩ := en.slot i _ h
  have x : Ex Hk (upd Hk l (.lst vs)) := Ex.new hk
  have po1 : PotOk (upd Hk l (.lst vs)) H p := by
    cases p with
    | none => exact True.intro
    | some q =>
      obtain ⟨a1, a, b, a2, a3⟩ := po
      refine ⟨?_, a, b, a2, a3⟩
      rw [upd_ne (fun z => hp (by rw [z]))]
      exact a1
  have e1 : Ex (upd Hk l (.lst vs)) H := fun a u z => by
    by_cases y : a = l
    · subst y
      rw [upd_same] at z
      rw [hl]
      exact z
    · rw [upd_ne y] at z
      exact e a u z
  refine q H0 σ _ H Q e1 po1 (en.publish h h1 hk hl r) fun b Hk' H' g f => ?_
  refine k b (del Hk' l) H' ⟨fun a u z => ?_, fun a u z => ?_, g.rr, fun a z1 z2 => ?_, ?_⟩ f
  · have y : a ≠ l := ne_of_none z hk
    rw [del_ne y]
    exact g.kk a u (x a u z)
  · by_cases y : a = l
    · rw [y, del_same] at z
      cases z
    · rw [del_ne y] at z
      exact g.kr a u z
  · by_cases y : a = l
    · rw [y]
      exact del_same
    · rw [del_ne y]
      refine g.nk a z1 ?_
      rw [upd_ne y]
      exact z2
  · have po' := g.po
    cases p with
    | none => exact True.intro
    | some q =>
      obtain ⟨a1, a, b, a2, a3⟩ := po'
      refine ⟨?_, a, b, a2, a3⟩
      rw [del_ne (fun z => hp (by rw [z]))]
      exact a1
/-! ### what is walked -/
variable {Ψ : List PyData → Prop}
theorem i_list (h : WpE K p tl env fun d => ∃ xs, d = .list xs ∧ Ψ xs) : WpI K p (iList K tl) env Ψ := fun H0 σ Hk H R e po en k =>
  h H0 σ Hk H _ e po en fun v d Hk1 H1 g rd ⟨xs, ed, f⟩ => by
    subst ed
    obtain ⟨a, vs, rfl, hS, r⟩ := dp_lst rd
    refine ⟨a, rfl, ⟨vs, ex_l g.kr hS⟩, k _ xs Hk1 H1 g (fun Hk2 H2 x1 x2 po2 => ?_) f⟩
    have hS2 : SqL K H2 a vs := ex_l (x1.trans x2) hS
    have hl := dpAll_len r
    refine ⟨fun i hi => ⟨vs, vs[i]'(by omega), hS2, by simp [hl, hi]⟩, ⟨vs, hS2, by omega⟩, fun i x H' hi y => ?_⟩
    obtain ⟨rfl, y⟩ := y
    obtain ⟨v, hv, rv⟩ := dpAll_get r (List.getElem?_eq_getElem hi)
    have ex : x = v := Option.some.inj ((y vs hS2).symm.trans hv)
    subst ex
    exact ⟨xs[i], Hk2, List.getElem?_eq_getElem hi, dp_mono x1 _ rv, Go.refl x2 po2⟩
theorem i_tup (h : WpE K p tl env fun d => ∃ xs, d = .tuple xs ∧ Ψ xs) : WpI K p (iTup K tl) env Ψ := fun H0 σ Hk H R e po en k =>
  h H0 σ Hk H _ e po en fun v d Hk1 H1 g rd ⟨xs, ed, f⟩ => by
    subst ed
    obtain ⟨a, vs, rfl, hS, r⟩ := dp_tup rd
    refine ⟨a, rfl, ⟨vs, ex_t g.kr hS⟩, k _ xs Hk1 H1 g (fun Hk2 H2 x1 x2 po2 => ?_) f⟩
    have hS2 : SqT K H2 a vs := ex_t (x1.trans x2) hS
    have hl := dpAll_len r
    refine ⟨fun i hi => ⟨vs, vs[i]'(by omega), hS2, by simp [hl, hi]⟩, ⟨vs, hS2, by omega⟩, fun i x H' hi y => ?_⟩
    obtain ⟨rfl, y⟩ := y
    obtain ⟨v, hv, rv⟩ := dpAll_get r (List.getElem?_eq_getElem hi)
    have ex : x = v := Option.some.inj ((y vs hS2).symm.trans hv)
    subst ex
    exact ⟨xs[i], Hk2, List.getElem?_eq_getElem hi, dp_mono x1 _ rv, Go.refl x2 po2⟩
def rng (lo : Int) (n : Nat) : List PyData := (List.range n).map fun i => .int (lo + (i : Nat))
theorem rng_len (lo : Int) (n : Nat) : (rng lo n).length = n := by unfold rng; rw [List.length_map, List.length_range]
theorem rng_get {lo : Int} {n i : Nat} (h : i < n) : (rng lo n)[i]? = some (.int (lo + (i : Nat))) := by
  unfold rng
  rw [List.getElem?_map, List.getElem?_range h]
  rfl
theorem itok_rng {lo : Int} {n : Nat} {Hk : Hp} : ItOk K p (Itr lo n) Hk (rng lo n) := fun Hk2 H2 x1 x2 po2 => by
  refine ⟨fun i hi => by rw [rng_len] at hi; exact hi, by rw [rng_len]; exact Nat.le_refl _, fun i x H' hi y => ?_⟩
  obtain ⟨rfl, rfl⟩ := y
  rw [rng_len] at hi
  exact ⟨_, Hk2, rng_get hi, .int _, Go.refl x2 po2⟩
theorem i_rng1 {ta : TA} (h : WpA K p ta env fun ds => ∃ n : Int, ds = [.int n] ∧ -(2 ^ 62) ≤ n ∧ n < 2 ^ 62 ∧ Ψ (rng 0 n.toNat)) : WpI K p (iRng1 ta) env Ψ := fun H0 σ Hk H R e po en k =>
  h H0 σ Hk H _ e po en fun vs ds Hk1 H1 g rd ⟨n, ed, b1, b2, f⟩ => by
    subst ed
    cases rd with
    | cons r1 r2 =>
      cases r2
      rw [dp_int r1]
      exact ⟨n, rfl, b1, b2, k _ _ Hk1 H1 g itok_rng f⟩
theorem i_rng2 {ta : TA} (h : WpA K p ta env fun ds => ∃ lo n : Int, ds = [.int lo, .int n] ∧ (-(2 ^ 62) ≤ lo ∧ lo < 2 ^ 62 ∧ -(2 ^ 62) ≤ n ∧ n < 2 ^ 62) ∧ Ψ (rng lo (n - lo).toNat)) : WpI K p (iRng2 ta) env Ψ := fun H0 σ Hk H R e po en k =>
  h H0 σ Hk H _ e po en fun vs ds Hk1 H1 g rd ⟨lo, n, ed, b, f⟩ => by
    subst ed
    cases rd with
    | cons r1 r2 =>
      cases r2 with
      | cons r2 r3 =>
        cases r3
        rw [dp_int r1, dp_int r2]
        exact ⟨lo, n, rfl, b, k _ _ Hk1 H1 g itok_rng f⟩
def zipD (xs ys : List PyData) : List PyData := List.zipWith (fun x y => .tuple [x, y]) xs ys
theorem zipD_len (xs ys : List PyData) : (zipD xs ys).length = min xs.length ys.length := List.length_zipWith
theorem zipD_get {xs ys : List PyData} {i : Nat} {x y : PyData} (hx : xs[i]? = some x) (hy : ys[i]? = some y) : (zipD xs ys)[i]? = some (.tuple [x, y]) := by
  unfold zipD
  rw [List.getElem?_zipWith, hx, hy]
theorem dp_pair {Hk : Hp} {T : Addr} {x y : V} {d e : PyData} (hT : Hk T = none) (r1 : Dx K Hk x d) (r2 : Dx K Hk y e) : Dx K (upd Hk T (.tup [x, y])) (.ref T) (.tuple [d, e]) :=
  .tup (SqT.of upd_same) (.cons (dp_mono (Ex.new hT) _ r1) (.cons (dp_mono (Ex.new hT) _ r2) .nil))
theorem i_zipT {ta : TA} (h : WpA K p ta env fun ds => ∃ xs ys, ds = [.tuple xs, .tuple ys] ∧ Ψ (zipD xs ys)) : WpI K p (RZ.iZipA K ta) env Ψ := fun H0 σ Hk H R e po en k =>
  h H0 σ Hk H _ e po en fun vs ds Hk1 H1 g rd ⟨xs, ys, ed, f⟩ => by
    subst ed
    cases rd with
    | cons r1 r2 =>
      cases r2 with
      | cons r2 r3 =>
        cases r3
        obtain ⟨a, us, rfl, hS, r⟩ := dp_tup r1
        obtain ⟨b, ws, rfl, hT, u⟩ := dp_tup r2
        refine ⟨a, b, us, ws, rfl, .inr ⟨ex_t g.kr hS, ex_t g.kr hT, k _ _ Hk1 H1 g (fun Hk2 H2 x1 x2 po2 => ?_) f⟩⟩
        have hS2 : SqT K H2 a us := ex_t (x1.trans x2) hS
        have hT2 : SqT K H2 b ws := ex_t (x1.trans x2) hT
        have l1 := dpAll_len r
        have l2 := dpAll_len u
        rw [zipD_len]
        refine ⟨fun i hi => ⟨us, ws, us[i]'(by omega), ws[i]'(by omega), hS2, hT2, by simp, by simp⟩, ⟨us, ws, hS2, hT2, by omega⟩, fun i x H' hi y => ?_⟩
        obtain ⟨T, x', y', rfl, nT, rfl, f1, f2⟩ := y
        have hi1 : i < xs.length := by omega
        have hi2 : i < ys.length := by omega
        obtain ⟨v, hv, rv⟩ := dpAll_get r (List.getElem?_eq_getElem hi1)
        obtain ⟨w, hw, rw'⟩ := dpAll_get u (List.getElem?_eq_getElem hi2)
        have e1 : x' = v := Option.some.inj ((f1 us hS2).symm.trans hv)
        have e2 : y' = w := Option.some.inj ((f2 ws hT2).symm.trans hw)
        subst e1 e2
        exact ⟨_, _, zipD_get (List.getElem?_eq_getElem hi1) (List.getElem?_eq_getElem hi2), dp_pair (fresh_back x2 nT) (dp_mono x1 _ rv) (dp_mono x1 _ rw'), Go.new x2 po2 nT⟩
theorem i_zipL {ta : TA} (h : WpA K p ta env fun ds => ∃ xs ys, ds = [.list xs, .list ys] ∧ Ψ (zipD xs ys)) : WpI K p (RZ.iZipA K ta) env Ψ := fun H0 σ Hk H R e po en k =>
  h H0 σ Hk H _ e po en fun vs ds Hk1 H1 g rd ⟨xs, ys, ed, f⟩ => by
    subst ed
    cases rd with
    | cons r1 r2 =>
      cases r2 with
      | cons r2 r3 =>
        cases r3
        obtain ⟨a, us, rfl, hS, r⟩ := dp_lst r1
        obtain ⟨b, ws, rfl, hT, u⟩ := dp_lst r2
        refine ⟨a, b, us, ws, rfl, .inl ⟨ex_l g.kr hS, ex_l g.kr hT, k _ _ Hk1 H1 g (fun Hk2 H2 x1 x2 po2 => ?_) f⟩⟩
        have hS2 : SqL K H2 a us := ex_l (x1.trans x2) hS
        have hT2 : SqL K H2 b ws := ex_l (x1.trans x2) hT
        have l1 := dpAll_len r
        have l2 := dpAll_len u
        rw [zipD_len]
        refine ⟨fun i hi => ⟨us, ws, us[i]'(by omega), ws[i]'(by omega), hS2, hT2, by simp, by simp⟩, ⟨us, ws, hS2, hT2, by omega⟩, fun i x H' hi y => ?_⟩
        obtain ⟨T, x', y', rfl, nT, rfl, f1, f2⟩ := y
        have hi1 : i < xs.length := by omega
        have hi2 : i < ys.length := by omega
        obtain ⟨v, hv, rv⟩ := dpAll_get r (List.getElem?_eq_getElem hi1)
        obtain ⟨w, hw, rw'⟩ := dpAll_get u (List.getElem?_eq_getElem hi2)
        have e1 : x' = v := Option.some.inj ((f1 us hS2).symm.trans hv)
        have e2 : y' = w := Option.some.inj ((f2 ws hT2).symm.trans hw)
        subst e1 e2
        exact ⟨_, _, zipD_get (List.getElem?_eq_getElem hi1) (List.getElem?_eq_getElem hi2), dp_pair (fresh_back x2 nT) (dp_mono x1 _ rv) (dp_mono x1 _ rw'), Go.new x2 po2 nT⟩
def enumD (xs : List PyData) : List PyData := xs.mapIdx fun i x => .tuple [.int (i : Nat), x]
theorem enumD_len (xs : List PyData) : (enumD xs).length = xs.length := List.length_mapIdx
theorem enumD_get {xs : List PyData} {i : Nat} {x : PyData} (hx : xs[i]? = some x) : (enumD xs)[i]? = some (.tuple [.int (i : Nat), x]) := by
  unfold enumD
  rw [List.getElem?_mapIdx, hx]
  rfl
theorem i_enumT {ta : TA} (h : WpA K p ta env fun ds => ∃ xs, ds = [.tuple xs] ∧ Ψ (enumD xs)) : WpI K p (FwE.iEnumT K ta) env Ψ := fun H0 σ Hk H R e po en k =>
  h H0 σ Hk H _ e po en fun vs ds Hk1 H1 g rd ⟨xs, ed, f⟩ => by
    subst ed
    cases rd with
    | cons r1 r2 =>
      cases r2
      obtain ⟨a, us, rfl, hS, r⟩ := dp_tup r1
      refine ⟨a, us, rfl, ex_t g.kr hS, k _ _ Hk1 H1 g (fun Hk2 H2 x1 x2 po2 => ?_) f⟩
      have hS2 : SqT K H2 a us := ex_t (x1.trans x2) hS
      have l1 := dpAll_len r
      rw [enumD_len]
      refine ⟨fun i hi => ⟨us, us[i]'(by omega), hS2, by simp⟩, ⟨us, hS2, by omega⟩, fun i x H' hi y => ?_⟩
      obtain ⟨T, x', rfl, nT, rfl, f1⟩ := y
      obtain ⟨v, hv, rv⟩ := dpAll_get r (List.getElem?_eq_getElem hi)
      have e1 : x' = v := Option.some.inj ((f1 us hS2).symm.trans hv)
      subst e1
      exact ⟨_, _, enumD_get (List.getElem?_eq_getElem hi), dp_pair (fresh_back x2 nT) (.int _) (dp_mono x1 _ rv), Go.new x2 po2 nT⟩
theorem i_enumL {ta : TA} (h : WpA K p ta env fun ds => ∃ xs, ds = [.list xs] ∧ Ψ (enumD xs)) : WpI K p (iEnum K ta) env Ψ := fun H0 σ Hk H R e po en k =>
  h H0 σ Hk H _ e po en fun vs ds Hk1 H1 g rd ⟨xs, ed, f⟩ => by
    subst ed
    cases rd with
    | cons r1 r2 =>
      cases r2
      obtain ⟨a, us, rfl, hS, r⟩ := dp_lst r1
      refine ⟨a, us, rfl, ex_l g.kr hS, k _ _ Hk1 H1 g (fun Hk2 H2 x1 x2 po2 => ?_) f⟩
      have hS2 : SqL K H2 a us := ex_l (x1.trans x2) hS
      have l1 := dpAll_len r
      rw [enumD_len]
      refine ⟨fun i hi => ⟨us, us[i]'(by omega), hS2, by simp⟩, ⟨us, hS2, by omega⟩, fun i x H' hi y => ?_⟩
      obtain ⟨T, x', rfl, nT, rfl, f1⟩ := y
      obtain ⟨v, hv, rv⟩ := dpAll_get r (List.getElem?_eq_getElem hi)
      have e1 : x' = v := Option.some.inj ((f1 us hS2).symm.trans hv)
      subst e1
      exact ⟨_, _, enumD_get (List.getElem?_eq_getElem hi), dp_pair (fresh_back x2 nT) (.int _) (dp_mono x1 _ rv), Go.new x2 po2 nT⟩
/-! ### targets -/
theorem g_name {i : Nat} {d : PyData} {Ψ : List Slot → Prop} (q : Ψ (env.set i (.dat d))) : WpG K p [i] (gName i) d env Ψ := fun H0 σ Hk H v Q e po en r k =>
  k _ _ (en.set r) ⟨List.length_set, fun j hj => List.getElem?_set_ne (fun z => hj (by rw [z]; exact List.mem_singleton.mpr rfl))⟩ q
theorem g_nil {Ψ : List Slot → Prop} (q : Ψ env) : WpGs K p [] gNil [] env Ψ := fun H0 σ Hk H vs Q e po en r k => by
  cases r
  exact ⟨rfl, k σ env en ⟨rfl, fun _ _ => rfl⟩ q⟩
theorem g_cons {js ks : List Nat} {t : TG} {u : TGs} {d : PyData} {ds : List PyData} {Ψ : List Slot → Prop} (q : WpG K p js t d env fun env' => WpGs K p ks u ds env' Ψ) : WpGs K p (js ++ ks) (gCons t u) (d :: ds) env Ψ := fun H0 σ Hk H vs Q e po en r k => by
  cases r with
  | cons r1 r2 =>
    refine ⟨_, _, rfl, q H0 σ Hk H _ _ e po en r1 fun σ1 env1 en1 s1 h1 => ?_⟩
    exact h1 H0 σ1 Hk H _ _ e po en1 r2 fun σ2 env2 en2 s2 h2 => k σ2 env2 en2 ⟨s2.1.trans s1.1, fun j hj => (s2.2 j (fun z => hj (List.mem_append_right _ z))).trans (s1.2 j (fun z => hj (List.mem_append_left _ z)))⟩ h2
theorem g_tup {js : List Nat} {n : Nat} {t : TGs} {d : PyData} {Ψ : List Slot → Prop} (ds : List PyData) (hd : d = .tuple ds) (hn : ds.length = n) (q : WpGs K p js t ds env Ψ) : WpG K p js (gTup K n t) d env Ψ := fun H0 σ Hk H v Q e po en r k => by
  subst hd
  obtain ⟨a, us, rfl, hS, r⟩ := dp_tup r
  exact ⟨a, us, rfl, ex_t e hS, (dpAll_len r).trans hn, q H0 σ Hk H us Q e po en r k⟩
/-! ### comprehensions -/
theorem wipe_get (σ : List (Option V)) (i : Nat) : ∀ vs : List Nat, (L2.wipe σ vs)[i]? = if i ∈ vs ∧ i < σ.length then some none else σ[i]?
  | [] => by simp [L2.wipe]
  | v :: vs => by
    show ((L2.wipe σ vs).set v none)[i]? = _
    rw [List.getElem?_set, wipe_length, wipe_get σ i vs]
    by_cases h : v = i
    · subst h
      by_cases hl : v < σ.length
      · simp [hl]
      · simp [hl]
    · have : i ≠ v := fun z => h z.symm
      simp [h, this]
theorem wipe_eq {σ σ2 : List (Option V)} {js vs : List Nat} (hl : σ2.length = σ.length) (h : ∀ j, j ∉ js → σ2[j]? = (L2.wipe σ vs)[j]?) (hs : ∀ j ∈ js, j ∈ vs) : L2.wipe σ2 vs = L2.wipe σ vs := by
  refine List.ext_getElem? fun i => ?_
  rw [wipe_get, wipe_get, hl]
  by_cases hi : i ∈ vs
  · by_cases hlt : i < σ.length
    · simp [hi, hlt]
    · simp only [hi, hlt, and_false, if_false]
      rw [List.getElem?_eq_none (by omega), List.getElem?_eq_none (by omega)]
  · have := h i (fun z => hi (hs i z))
    rw [wipe_get] at this
    simpa [hi] using this
/-- te makes a new list that nobody knows -/
def WpF (K : PySem.W.Frag) (p : Option Addr) (te : TE) (env : List Slot) (Φ : List PyData → Prop) : Prop := ∀ (H0 : Hp) (σ : List (Option V)) (Hk H : Hp) (Q : VK), Ex Hk H → PotOk Hk H p → En K p H0 Hk H σ env →
  (∀ l vs ds Hk' H', Go p Hk H Hk' H' → H l = none → Hk' l = none → H' l = some (.lst vs) → DxAll K Hk' vs ds → Φ ds → Q (.ref l) H') → te σ H Q
theorem e_new (h : WpF K p te env fun ds => Φ (.list ds)) : WpE K p te env Φ := fun H0 σ Hk H Q e po en k =>
  h H0 σ Hk H Q e po en fun l vs ds Hk' H' g h0 hk hl r f => k _ _ _ _ (g.pub h0 (pot_ne po h0) hk hl) (.lst (SqL.of upd_same) (dpAll_mono (Ex.new hk) ds r)) f
theorem f_lst {ta : TA} {Φ : List PyData → Prop} (h : WpA K p ta env fun ds => ds.length ≤ 100000 ∧ Φ ds) : WpF K p (tLst ta) env Φ := fun H0 σ Hk H Q e po en k =>
  h H0 σ Hk H _ e po en fun vs ds Hk1 H1 g1 r ⟨hz, f⟩ => ⟨sz_of (by rw [dpAll_len r]; exact hz), fun q hq => by
    have h0 : H q = none := by
      cases z : H q with
      | none => rfl
      | some o => exact absurd hq (g1.live (by rw [z]; exact nofun))
    exact k q vs ds Hk1 _ (g1.mut h0 (pot_ne po h0) (fresh_back g1.kr hq)) h0 (fresh_back g1.kr hq) upd_same r f⟩
theorem f_cat {ta : TE} {Φ : List PyData → Prop} (h : WpF K p ta env fun xs => WpF K p tb env fun ys => xs.length + ys.length ≤ 100000 ∧ Φ (xs ++ ys)) : WpF K p (tOp rCat ta tb) env Φ := fun H0 σ Hk H Q e po en k =>
  h H0 σ Hk H _ e po en fun l vs xs Hk1 H1 g1 l0 lk lh lr h1 => h1 H0 σ Hk1 H1 _ g1.kr g1.po (en.go g1) fun m ws ys Hk2 H2 g2 m0 mk mh mr ⟨hz, f⟩ => by
    have hl2 : H2 l = some (.lst vs) := g2.rr l _ (pot_ne po l0) lh
    refine ⟨l, m, vs, ws, rfl, rfl, hl2, mh, sz_of (by rw [dpAll_len lr, dpAll_len mr]; exact hz), fun q hq => ?_⟩
    have gg := g1.trans g2
    have h0 : H q = none := by
      cases z : H q with
      | none => rfl
      | some o => exact absurd hq (gg.live (by rw [z]; exact nofun))
    exact k q _ (xs ++ ys) Hk2 _ (gg.mut h0 (pot_ne po h0) (fresh_back gg.kr hq)) h0 (fresh_back gg.kr hq) upd_same (dpAll_app (dpAll_mono g2.kk xs lr) mr) f
theorem f_rep {ta : TE} {Φ : List PyData → Prop} (h : WpF K p ta env fun xs => WpE K p tb env fun y => ∃ k : Int, y = .int k ∧ 0 ≤ k ∧ k ≤ 1000 ∧ xs.length ≤ 100 ∧ Φ (List.replicate k.toNat xs).flatten) : WpF K p (tOp rRep ta tb) env Φ := fun H0 σ Hk H Q e po en k =>
  h H0 σ Hk H _ e po en fun l vs xs Hk1 H1 g1 l0 lk lh lr h1 => h1 H0 σ Hk1 H1 _ g1.kr g1.po (en.go g1) fun v y Hk2 H2 g2 ry ⟨n, ey, n0, n1, hz, f⟩ => by
    subst ey
    rw [dp_int ry]
    have hl2 : H2 l = some (.lst vs) := g2.rr l _ (pot_ne po l0) lh
    have hlen := dpAll_len lr
    refine ⟨l, n, vs, rfl, rfl, hl2, by omega, by omega, ?_, fun q hq => ?_⟩
    · have : vs.length * n.toNat ≤ 100 * 1000 := Nat.mul_le_mul (by omega) (by omega)
      exact sz_of (by omega)
    have gg := g1.trans g2
    have h0 : H q = none := by
      cases z : H q with
      | none => rfl
      | some o => exact absurd hq (gg.live (by rw [z]; exact nofun))
    exact k q _ _ Hk2 _ (gg.mut h0 (pot_ne po h0) (fresh_back gg.kr hq)) h0 (fresh_back gg.kr hq) upd_same (dpAll_rep (dpAll_mono g2.kk xs lr) _) f
/-- an own list is read on the way to a new one -/
theorem f_own {i : Nat} {ds : List PyData} {Φ : List PyData → Prop} (h : env[i]? = some (.own ds)) (q : WpF K p te (env.set i (.dat (.list ds))) fun es => flatAllD es = true ∧ Φ es) : WpF K p te env Φ := fun H0 σ Hk H Q e po en k => by
  obtain ⟨ov, h1, l, vs, rfl, h0, hk, hp, hl, r⟩ := en.slot i _ h
  have x : Ex Hk (upd Hk l (.lst vs)) := Ex.new hk
  have po1 : PotOk (upd Hk l (.lst vs)) H p := by
    cases p with
    | none => exact True.intro
    | some q =>
      obtain ⟨a1, a, b, a2, a3⟩ := po
      refine ⟨?_, a, b, a2, a3⟩
      rw [upd_ne (fun z => hp (by rw [z]))]
      exact a1
  have e1 : Ex (upd Hk l (.lst vs)) H := fun a u z => by
    by_cases y : a = l
    · subst y
      rw [upd_same] at z
      rw [hl]
      exact z
    · rw [upd_ne y] at z
      exact e a u z
  refine q H0 σ _ H Q e1 po1 (en.publish h h1 hk hl r) fun m ws es Hk' H' g m0 mk mh mr ⟨fd, f⟩ => ?_
  have hl' : Hk' l = some (.lst vs) := g.kk l _ upd_same
  have ml : m ≠ l := fun z => by
    rw [z, hl] at m0
    cases m0
  refine k m ws es (del Hk' l) H' ⟨fun a u z => ?_, fun a u z => ?_, g.rr, fun a z1 z2 => ?_, ?_⟩ m0 (by rw [del_ne ml]; exact mk) mh (dpAll_del hl' es fd mr) f
  · have y : a ≠ l := ne_of_none z hk
    rw [del_ne y]
    exact g.kk a u (x a u z)
  · by_cases y : a = l
    · rw [y, del_same] at z
      cases z
    · rw [del_ne y] at z
      exact g.kr a u z
  · by_cases y : a = l
    · rw [y]
      exact del_same
    · rw [del_ne y]
      refine g.nk a z1 ?_
      rw [upd_ne y]
      exact z2
  · have po' := g.po
    cases p with
    | none => exact True.intro
    | some q =>
      obtain ⟨a1, a, b, a2, a3⟩ := po'
      refine ⟨?_, a, b, a2, a3⟩
      rw [del_ne (fun z => hp (by rw [z]))]
      exact a1
theorem f_lc {wi : TI} {g : TG} {vs js : List Nat} {Φ : List PyData → Prop} (hs : ∀ j ∈ js, j ∈ vs) (h : WpI K p wi env fun xs => xs.length ≤ 100000 ∧ ∃ Wd : Nat → List PyData → Prop, Wd 0 [] ∧
    (∀ (i : Nat) (x : PyData) (acc : List PyData), xs[i]? = some x → Wd i acc → acc.length ≤ i → WpG K p js g x (wipeE env vs) fun env2 => WpT K p tt env2 fun b => if b = true then WpE K p te env2 (fun y => Wd (i + 1) (acc ++ [y])) else Wd (i + 1) acc) ∧
    ∀ acc, acc.length ≤ xs.length → Wd xs.length acc → Φ acc) : WpF K p (tLc wi g tt te vs) env Φ := fun H0 σ Hk H Q e po en k => by
  refine h H0 σ Hk H _ e po en fun J xs Hk1 H1 g1 it ⟨hz, Wd, i0, step, last⟩ D hD => ?_
  have pD : p ≠ some D := pot_ne g1.po hD
  refine ⟨fun i m H' => m = xs.length - i ∧ i ≤ xs.length ∧ ∃ Hk' ws acc, Go p Hk1 H1 Hk' H' ∧ Hk' D = none ∧ H' D = some (.lst ws) ∧ DxAll K Hk' ws acc ∧ acc.length ≤ i ∧ Wd i acc, ⟨xs.length, by omega, by omega, Hk1, [], [], (Go.refl g1.kr g1.po).mut hD pD (fresh_back g1.kr hD), fresh_back g1.kr hD, upd_same, .nil, Nat.le_refl _, i0⟩, ?_⟩
  rintro i m H' ⟨rfl, hi, Hk', ws, acc, go, kD, hw, r, hlen, inv⟩
  obtain ⟨o1, o2, o3⟩ := it Hk' H' go.kk go.kr go.po
  by_cases hlt : i < xs.length
  · refine .inr ⟨o1 i hlt, fun H'' => i + 1 ≤ xs.length ∧ ∃ Hk' ws acc, Go p Hk1 H1 Hk' H'' ∧ Hk' D = none ∧ H'' D = some (.lst ws) ∧ DxAll K Hk' ws acc ∧ acc.length ≤ i + 1 ∧ Wd (i + 1) acc, fun H'' q => ⟨xs.length - (i + 1), by omega, rfl, q⟩, fun x H'' y => ?_⟩
    obtain ⟨d, Hk2, hd, rd, g2⟩ := o3 i x H'' hlt y
    have en2 : En K p H0 Hk2 H'' (L2.wipe σ vs) (wipeE env vs) := (((en.go g1).go go).go g2).wipe vs
    refine step i d acc hd inv hlen H0 _ Hk2 H'' x _ g2.kr g2.po en2 rd fun σ2 env2 en3 same f3 => ⟨wipe_eq (by rw [same.1, wipe_length]) same.2 hs, ?_⟩
    refine f3 H0 σ2 Hk2 H'' _ g2.kr g2.po en3 fun b Hk4 H4 g4 f4 => ?_
    have gg := (go.trans g2).trans g4
    have k4 : Hk4 D = none := g4.nk D (g2.live (by rw [hw]; exact nofun)) (g2.nk D (by rw [hw]; exact nofun) kD)
    have h4 : H4 D = some (.lst ws) := g4.rr D _ pD (g2.rr D _ pD hw)
    have r4 := dpAll_mono g4.kk acc (dpAll_mono g2.kk acc r)
    cases b with
    | false => exact ⟨by omega, Hk4, ws, acc, gg, k4, h4, r4, by omega, f4⟩
    | true =>
      refine (show WpE K p te env2 _ from f4) H0 σ2 Hk4 H4 _ g4.kr g4.po (en3.go g4) fun v d2 Hk5 H5 g5 r5 f5 => ?_
      have k5 : Hk5 D = none := g5.nk D (by rw [h4]; exact nofun) k4
      refine ⟨ws, g5.rr D _ pD h4, sz_lt (by rw [dpAll_len r]; omega), by omega, Hk5, ws ++ [v], acc ++ [d2], (gg.trans g5).mut hD pD k5, k5, upd_same, dpAll_app (dpAll_mono g5.kk acc r4) (.cons r5 .nil), by rw [List.length_append]; simp; omega, f5⟩
  · have hi2 : i = xs.length := by omega
    subst hi2
    have h0 : H D = none := by
      cases z : H D with
      | none => rfl
      | some o => exact absurd hD (g1.live (by rw [z]; exact nofun))
    exact .inl ⟨o2, k D ws acc Hk' _ (g1.trans go) h0 kD hw r (last acc hlen inv)⟩
/-- each item gives one -/
theorem e_map {wi : TI} {g : TG} {vs js : List Nat} (hs : ∀ j ∈ js, j ∈ vs) (h : WpI K p wi env fun xs => xs.length ≤ 100000 ∧ ∃ f : PyData → PyData, (∀ (i : Nat) (x : PyData), xs[i]? = some x → WpG K p js g x (wipeE env vs) fun env2 => WpE K p te env2 (fun y => y = f x)) ∧ Φ (.list (xs.map f))) : WpE K p (tLc wi g tYes te vs) env Φ :=
  e_new (f_lc hs fun H0 σ Hk H R e po en k => h H0 σ Hk H R e po en fun J xs Hk' H' g it ⟨hz, f, step, last⟩ => k J xs Hk' H' g it ⟨hz, fun i acc => acc = (xs.take i).map f, rfl, fun i x acc hx inv _ => fun H0 σ Hk H v Q e po en r k =>
    step i x hx H0 σ Hk H v Q e po en r fun σ' env' en' same f' => k σ' env' en' same (t_yes (show WpE K p _ env' _ from f'.mono fun y hy => by
      rw [inv, hy]
      show (xs.take i).map f ++ [f x] = (xs.take (i + 1)).map f
      rw [List.take_add_one, hx, List.map_append]
      rfl)), fun acc _ inv => by
      rw [inv, List.take_length]
      exact last⟩)
/-- each item gives one of which something is known -/
theorem e_rel {wi : TI} {g : TG} {vs js : List Nat} (hs : ∀ j ∈ js, j ∈ vs) (h : WpI K p wi env fun xs => xs.length ≤ 100000 ∧ ∃ R : PyData → PyData → Prop, (∀ (i : Nat) (x : PyData), xs[i]? = some x → WpG K p js g x (wipeE env vs) fun env2 => WpE K p te env2 (fun y => R x y)) ∧ ∀ ys : List PyData, ys.length = xs.length → (∀ (i : Nat) (x y : PyData), xs[i]? = some x → ys[i]? = some y → R x y) → Φ (.list ys)) : WpE K p (tLc wi g tYes te vs) env Φ :=
  e_new (f_lc hs fun H0 σ Hk H R e po en k => h H0 σ Hk H R e po en fun J xs Hk' H' g it ⟨hz, f, step, last⟩ => k J xs Hk' H' g it ⟨hz, fun i acc => acc.length = i ∧ ∀ (j : Nat) (x y : PyData), xs[j]? = some x → acc[j]? = some y → f x y, ⟨rfl, fun j x y _ h => by simp at h⟩, fun i x acc hx inv _ => fun H0 σ Hk H v Q e po en r k =>
    step i x hx H0 σ Hk H v Q e po en r fun σ' env' en' same f' => k σ' env' en' same (t_yes (show WpE K p _ env' _ from f'.mono fun y hy => ⟨by rw [List.length_append, inv.1]; rfl, fun j x' y' hx' hy' => by
      by_cases hj : j < acc.length
      · rw [List.getElem?_append_left hj] at hy'
        exact inv.2 j x' y' hx' hy'
      · rw [List.getElem?_append_right (by omega)] at hy'
        have hj2 : j - acc.length = 0 := by
          have := (List.getElem?_eq_some_iff.mp hy').1
          simp at this
          omega
        rw [hj2] at hy'
        have e1 : j = i := by have := inv.1; omega
        subst e1
        rw [hx] at hx'
        cases hx'
        cases hy'
        exact hy⟩)), fun acc _ inv => last acc inv.1 inv.2⟩)
end
end Fw
namespace FwE
open PySem PySem.Spec PyProof.Rows L2
/-! a tuple times 1 is the tuple itself -/
theorem once (l : Addr) (items : Array Value) (n : Nat) (dd : Option Addr) (sl : Array (Option Value)) (u : Tok) :
    Meets (Builtin.«tuple.__mul__» ⟨[.ref l, .int 1 u], []⟩) (fun _ R s => s.heap.get? l = some { cls := .type "tuple", dict := dd, data := .seq items n, slots := sl } ∧ R (.ok (.ret (.ref l))) s) :=
  .of_wp fun prog w A R s h => by
    obtain ⟨hp, g, d, tk, os⟩ := s
    obtain ⟨hl, h⟩ := h
    have f1 := AutoSeq1.idx_int
    have c1 : (items.isEmpty || (1 : Int) == 1) = true := by simp
    wp_walk using AutoSeq1.wpAny_loadPart' hl
    repeat (first
      | (refine wpAny_ite_false (by decide) ?_; wp_walk using AutoSeq1.wpAny_loadPart' hl)
      | (refine wpAny_ite_true (by simp) ?_; wp_walk using AutoSeq1.wpAny_loadPart' hl)
      | (rw [if_pos c1]; wp_walk using AutoSeq1.wpAny_loadPart' hl))
    exact ⟨_, rfl, h⟩
def rTimes (K : PySem.W.Frag) : R2 := fun x y H Q => ∃ (l : Addr) (k : Int) (xs : List V), x = .ref l ∧ y = .int k ∧ SqT K H l xs ∧ xs ≠ [] ∧ 1 ≤ k ∧ k ≤ 1000 ∧ xs.length ≤ 1000 ∧ (k = 1 → Q x H) ∧ (k ≠ 1 → ∀ p, H p = none → Q (.ref p) (upd H p (.tup (List.replicate k.toNat xs).flatten)))
theorem op_times {X : Cx} : OpR X (binaryOp .Mult) (rTimes X.K) := fun pins s σ H x y v u Q I rx ry h => by
  obtain ⟨l, k, xs, rfl, rfl, hT, ne, k1, k2, hz, q1, q2⟩ := h
  by_cases one : k = 1
  · subst one
    cases rx
    obtain ⟨t, rfl⟩ := ry
    obtain ⟨its, r, ⟨⟨cls, dd, data, sl⟩, ho, hc, n, hd⟩, _⟩ := I.tuple hT
    simp only at hc hd
    subst hc hd
    have two := call_meets (prog := X.prog) (w := X.w) (A := X.A) (Q := EP X pins σ Q) (E := X.xe) F.slot_tuple_mul (show s.TypeIs (.ref l) "tuple" from ⟨_, ho, rfl⟩) F.entry_tuple_mul (F.args_tuple_mul_2 (.ref l) (.int 1 t)) (once l its.toArray n dd sl t) ⟨ho, ⟨.ref l, H, I, rfl, q1 rfl⟩⟩
    exact wpAny_binaryOp_repeat_ref (T := "tuple") (U := "int") (by decide) ⟨_, ho, rfl⟩ (fun s' => typeIs_int s' 1 t) noFill_tuple_mul F.fills_int_mul F.slot_int_rmul repeat_tuple F.slot_int_index.lookup
      (call_meets F.slot_int_rmul (typeIs_int s 1 t) F.entry_int_rmul (F.args_int_rmul_2 _ _) (int_rmul_tuple 1 t l its.toArray n dd sl) ⟨ho, rfl, ⟨_, ho, rfl⟩, two⟩)
  · exact op_repT pins s σ H _ _ v u Q I rx ry ⟨l, k, xs, rfl, rfl, hT, ne, by omega, k2, hz, q2 one⟩
end FwE
namespace Fw
open PySem PySem.Spec PyProof.Rows L2 Evl
section
variable {K : PySem.W.Frag} {p : Option Addr} {env : List Slot} {Φ : PyData → Prop} {ta tb te tl : TE} {tt tc : TT} {O : Outs}
theorem od_times {ds : List PyData} {k : Int} (ne : ds ≠ []) (k1 : 1 ≤ k) (k2 : k ≤ 1000) (hz : ds.length ≤ 1000) (h : Φ (.tuple (List.replicate k.toNat ds).flatten)) : OpD K p (FwE.rTimes K) (.tuple ds) (.int k) Φ := fun vx vy Hk H Q e po rx ry kk => by
  obtain ⟨a, xs, rfl, hT, r⟩ := dp_tup rx
  rw [dp_int ry]
  have l1 := dpAll_len r
  refine ⟨a, k, xs, rfl, rfl, ex_t e hT, fun z => ne (List.length_eq_zero_iff.mp (by rw [← l1, z]; rfl)), k1, k2, by omega, fun z => ?_, fun _ q hq => ?_⟩
  · subst z
    have e1 : (List.replicate (1 : Int).toNat ds).flatten = ds := by simp
    rw [e1] at h
    exact kk _ _ _ _ (Go.refl e po) rx h
  · exact kk _ _ _ _ (Go.new e po hq) (.tup (SqT.of upd_same) (dpAll_mono (Ex.new (fresh_back e hq)) _ (dpAll_rep r _))) h
/-- a list times a number (the list made on the way) -/
theorem od_repL {ds : List PyData} {k : Int} (k1 : 0 ≤ k) (k2 : k ≤ 1000) (hz : ds.length ≤ 100) (h : Φ (.list (List.replicate k.toNat ds).flatten)) {vx vy : V} {Hk H : Hp} {Q : VK} (e : Ex Hk H) (po : PotOk Hk H p) (rx : Dx K Hk vx (.list ds)) (ry : Dx K Hk vy (.int k)) (tr : ∀ a xs, vx = .ref a → SqL K Hk a xs → H a = some (.lst xs))
    (kk : ∀ v d Hk' H', Go p Hk H Hk' H' → Dx K Hk' v d → Φ d → Q v H') : rRep vx vy H Q := by
  obtain ⟨a, xs, rfl, hT, r⟩ := dp_lst rx
  rw [dp_int ry]
  have l1 := dpAll_len r
  refine ⟨a, k, xs, rfl, rfl, tr a xs rfl hT, by omega, by omega, ?_, fun q hq => ?_⟩
  · have : xs.length * k.toNat ≤ 100 * 1000 := Nat.mul_le_mul (by omega) (by omega)
    exact sz_of (by omega)
  · exact kk _ _ _ _ (Go.new e po hq) (.lst (SqL.of upd_same) (dpAll_mono (Ex.new (fresh_back e hq)) _ (dpAll_rep r _))) h
/-! ### isinstance, repr -/
def tyD : PyData → String
  | .none => "NoneType"
  | .bool _ => "bool"
  | .int _ => "int"
  | .str _ => "str"
  | .list _ => "list"
  | .tuple _ => "tuple"
  | .dict [] => "dict"
  | .dict (_ :: _) => "#"
theorem tyX {H : Hp} {v : V} {d : PyData} (h : Dx K H v d) (hd : tyD d ≠ "#") : TyX K H v (.type (tyD d)) := by
  cases h with
  | non => exact .base .non
  | bl b => exact .base (.bl b)
  | int i => exact .base (.int i)
  | str x => exact .base (.str x)
  | lst h _ =>
    rcases h with (h | ⟨o, h⟩) | ⟨o, its, n, h, c, _⟩
    · exact .base (.lst h)
    · exact .base (.frz h)
    · exact .kList h c
  | tup h _ =>
    rcases h with (h | ⟨o, h⟩) | ⟨o, its, n, h, c, _⟩
    · exact .base (.tup h)
    · exact .fTuple h
    · exact .kTuple h c
  | dic h => exact .base (.dK h)
  | obj _ _ _ => exact absurd rfl hd
  | dct _ ne n _ =>
    obtain ⟨q, r, e⟩ := dct_ne ne n
    rw [e] at hd
    exact absurd rfl hd
  | dc0 _ => exact absurd rfl hd
theorem kit_hash {n : String} (hn : n ≠ "#") : kitB "#" n = none := by
  unfold kitB
  have e : (Value.type "#" == Value.type n) = false := by
    rw [beq_eq_false_iff_ne]
    intro z
    exact hn (Value.type.inj z).symm
  rw [if_neg (by rw [e]; decide), show PySem.fastBuiltinMro "#" = none by decide +kernel]
  split <;> rfl
theorem ty_ne {n : String} {d : PyData} {b : Bool} (hn : n ≠ "#") (h : kitB (tyD d) n = some b) : tyD d ≠ "#" := fun z => by
  rw [z, kit_hash hn] at h
  cases h
theorem e_isi {n : String} (h : WpE K p te env fun x => ∃ b, kitB (tyD x) n = some b ∧ Φ (.bool b)) (hn : n ≠ "#" := by decide) : WpE K p (tCB (rIsi K) (tCons te (tCons (tC (.ty n)) tNil))) env Φ := fun H0 σ Hk H Q e po en k =>
  h H0 σ Hk H _ e po en fun vx x Hk1 H1 g1 rx ⟨b, hb, f⟩ => ⟨vx, .ty n, _, _, b, rfl, .ty n, tyX (dp_mono g1.kr _ rx) (ty_ne hn hb), kit_ty hb, k _ _ _ _ g1 (.bl b) f⟩
theorem kit_ii : kitB "int" "int" = some true := by decide +kernel
theorem kit_bi : kitB "bool" "int" = some true := by decide +kernel
theorem kit_ni : kitB "NoneType" "int" = some false := by decide +kernel
theorem kit_si : kitB "str" "int" = some false := by decide +kernel
theorem kit_li : kitB "list" "int" = some false := by decide +kernel
theorem kit_ti : kitB "tuple" "int" = some false := by decide +kernel
theorem kit_ib : kitB "int" "bool" = some false := by decide +kernel
theorem kit_bb : kitB "bool" "bool" = some true := by decide +kernel
theorem kit_nb : kitB "NoneType" "bool" = some false := by decide +kernel
theorem kit_sb : kitB "str" "bool" = some false := by decide +kernel
theorem kit_lb : kitB "list" "bool" = some false := by decide +kernel
theorem kit_tb : kitB "tuple" "bool" = some false := by decide +kernel
theorem kit_it : kitB "int" "tuple" = some false := by decide +kernel
theorem kit_bt : kitB "bool" "tuple" = some false := by decide +kernel
theorem kit_nt : kitB "NoneType" "tuple" = some false := by decide +kernel
theorem kit_st : kitB "str" "tuple" = some false := by decide +kernel
theorem kit_lt : kitB "list" "tuple" = some false := by decide +kernel
theorem kit_tt : kitB "tuple" "tuple" = some true := by decide +kernel
theorem kit_is : kitB "int" "str" = some false := by decide +kernel
theorem kit_bs : kitB "bool" "str" = some false := by decide +kernel
theorem kit_ns : kitB "NoneType" "str" = some false := by decide +kernel
theorem kit_ss : kitB "str" "str" = some true := by decide +kernel
theorem kit_ls : kitB "list" "str" = some false := by decide +kernel
theorem kit_ts : kitB "tuple" "str" = some false := by decide +kernel
theorem cb_reprD {d : PyData} (h1 : isDisplay d = true) (h2 : d.showable = true) (h3 : d.hasDict = false) (h4 : d.depth ≤ 60) (h5 : d.shown.length ≤ sizeLine) (h : Φ (.str d.shown)) : CbD K p (FwE.rReprD K) [d] Φ := fun vs Hk H Q e po rx k => by
  cases rx with
  | cons rx rr =>
    cases rr
    exact ⟨_, d, rfl, dx_dp d h3 (dp_mono e d rx), h1, h2, h3, h4, h5, k _ _ _ _ (Go.refl e po) (.str _) h⟩
theorem cb_reprB {b : Bool} (h : Φ (.str (if b then "True" else "False"))) : CbD K p (fun xs H Q => ∃ b, xs = [V.bl b] ∧ Q (.str (if b then "True" else "False")) H) [.bool b] Φ := fun vs Hk H Q e po rx k => by
  cases rx with
  | cons rx rr =>
    cases rr
    rw [dp_bl rx]
    exact ⟨b, rfl, k _ _ _ _ (Go.refl e po) (.str _) h⟩
/-! ### calls -/
def SpF (K : PySem.W.Frag) (pre : List PyData → (PyData → Prop) → Prop) : Sp := fun vs H Q _ => ∃ (Hk : Hp) (ds : List PyData) (Φ : PyData → Prop), Ex Hk H ∧ DxAll K Hk vs ds ∧ pre ds Φ ∧ ∀ v d Hk' H', Go none Hk H Hk' H' → Dx K Hk' v d → Φ d → Q v H'
def SpG (K : PySem.W.Frag) (pre : List PyData → (PyData → Prop) → Prop) : Sp := fun vs H Q _ => ∃ (q : Addr) (us : List V) (Hk : Hp) (ds : List PyData) (Φ : PyData → Prop), vs = .ref q :: us ∧ Ex Hk H ∧ PotOk Hk H (some q) ∧ DxAll K Hk us ds ∧ pre ds Φ ∧ ∀ v d Hk' H', Go (some q) Hk H Hk' H' → Dx K Hk' v d → Φ d → Q v H'
theorem e_call {pre : List PyData → (PyData → Prop) → Prop} {E : XK} {ta : TA} (h : WpA K p ta env fun ds => pre ds Φ) : WpE K p (tCall (SpF K pre) [] E ta) env Φ := fun H0 σ Hk H Q e po en k =>
  h H0 σ Hk H _ e po en fun vs ds Hk1 H1 g1 r f => by
    rw [List.append_nil]
    exact ⟨Hk1, ds, Φ, g1.kr, r, f, fun v d Hk' H' g rd f' => k v d Hk' H' (g1.trans (g.lift g1.po)) rd f'⟩
theorem e_callP {pre : List PyData → (PyData → Prop) → Prop} {E : XK} {ta : TA} {i : Nat} (hi : env[i]? = some .pot) (h : WpA K p ta env fun ds => pre ds Φ) : WpE K p (tCall (SpG K pre) [] E (tCons (tVar i) ta)) env Φ := fun H0 σ Hk H Q e po en k => by
  obtain ⟨ov, h1, a, rfl, rfl⟩ := en.slot i _ hi
  refine ⟨.ref a, h1, h H0 σ Hk H _ e po en fun vs ds Hk1 H1 g1 r f => ?_⟩
  show SpG K pre ((V.ref a :: vs) ++ []) H1 Q E
  rw [List.append_nil]
  exact ⟨a, vs, Hk1, ds, Φ, rfl, g1.kr, g1.po, r, f, fun v d Hk' H' g rd f' => k v d Hk' H' (g1.trans g) rd f'⟩
theorem e_callK0 {pre : List PyData → (PyData → Prop) → Prop} {E : XK} {tk : TA} {gV : List V → List V → List V} (gD : List PyData → List PyData) (hg : ∀ (H : Hp) zs ds, DxAll K H zs ds → DxAll K H (gV [] zs) (gD ds)) (h : WpA K p tk env fun ds => pre (gD ds) Φ) : WpE K p (tCallK (SpF K pre) gV E tNil tk) env Φ := fun H0 σ Hk H Q e po en k =>
  h H0 σ Hk H _ e po en fun vs ds Hk1 H1 g1 r f => ⟨Hk1, gD ds, Φ, g1.kr, hg _ _ _ r, f, fun v d Hk' H' g rd f' => k v d Hk' H' (g1.trans (g.lift g1.po)) rd f'⟩
theorem lenF {pre : List PyData → (PyData → Prop) → Prop} {n : Nat} (h : ∀ ds Φ, pre ds Φ → ds.length = n) {vs : List V} {H : Hp} {Q : VK} {E : XK} (s : SpF K pre vs H Q E) : vs.length = n := by
  obtain ⟨Hk, ds, Φ, _, r, f, _⟩ := s
  rw [dpAll_len r]
  exact h ds Φ f
theorem lenG {pre : List PyData → (PyData → Prop) → Prop} {n : Nat} (h : ∀ ds Φ, pre ds Φ → ds.length = n) {vs : List V} {H : Hp} {Q : VK} {E : XK} (s : SpG K pre vs H Q E) : vs.length = n + 1 := by
  obtain ⟨q, us, Hk, ds, Φ, rfl, _, _, r, f, _⟩ := s
  rw [List.length_cons, dpAll_len r, h ds Φ f]
/-! ### statements -/
theorem s_seq {t u : TS} (h : WpS K p t env { O with nx := fun e => WpS K p u e O }) : WpS K p (tSeq t u) env O := fun H0 Hk0 σ Hk H D g en k =>
  h H0 Hk0 σ Hk H { D with nx := u D } g en ⟨fun e σ' Hk' H' g' en' f => f H0 Hk0 σ' Hk' H' D g' en' k, k.rt, k.bk, k.ct, k.rf⟩
theorem s_next (q : O.nx env) : WpS K p tNext env O := fun H0 Hk0 σ Hk H D g en k => k.nx env σ Hk H g en q
theorem s_asg {i : Nat} (h : WpE K p te env fun d => O.nx (env.set i (.dat d))) : WpS K p (tAsg te (gName i)) env O := fun H0 Hk0 σ Hk H D g en k =>
  h H0 σ Hk H _ g.kr g.po en fun v d Hk' H' g' r f => k.nx _ _ Hk' H' (g.trans g') ((en.go g').set r) f
theorem s_asgG {js : List Nat} {gt : TG} (h : WpE K p te env fun d => WpG K p js gt d env O.nx) : WpS K p (tAsg te gt) env O := fun H0 Hk0 σ Hk H D g en k =>
  h H0 σ Hk H _ g.kr g.po en fun v d Hk' H' g' r f => f H0 σ Hk' H' v _ g'.kr g'.po (en.go g') r fun σ' env' en' _ f' => k.nx env' σ' Hk' H' (g.trans g') en' f'
theorem fresh0 {Hk0 H0 Hk H : Hp} {l : Addr} (g : Go p Hk0 H0 Hk H) (h : H l = none) : H0 l = none := by
  cases q : H0 l with
  | none => rfl
  | some o => exact absurd h (g.live (by rw [q]; exact nofun))
theorem s_own {ta : TA} {i : Nat} (h : WpA K p ta env fun ds => ds.length ≤ 100000 ∧ O.nx (env.set i (.own ds))) : WpS K p (tAsg (tLst ta) (gName i)) env O := fun H0 Hk0 σ Hk H D g en k =>
  h H0 σ Hk H _ g.kr g.po en fun vs ds Hk' H' g' r ⟨hz, f⟩ => ⟨sz_of (by rw [dpAll_len r]; exact hz), fun l hl => by
    have gg := g.trans g'
    have hp := pot_ne gg.po hl
    exact k.nx _ _ Hk' _ (gg.mut (fresh0 gg hl) hp (fresh_back gg.kr hl)) ((en.go g').set_own (fresh0 gg hl) hl (fresh_back gg.kr hl) hp r) f⟩
theorem s_pub {t : TS} {i : Nat} {ds : List PyData} (hi : env[i]? = some (.own ds)) (h : WpS K p t (env.set i (.dat (.list ds))) O) : WpS K p t env O := fun H0 Hk0 σ Hk H D g en k => by
  obtain ⟨ov, h1, l, vs, rfl, h0, hk, hp, hl, r⟩ := en.slot i _ hi
  exact h H0 Hk0 σ _ H D (g.pub h0 hp hk hl) (en.publish hi h1 hk hl r) k
theorem s_ret (h : WpE K p te env O.rt) : WpS K p (tRet te) env O := fun H0 Hk0 σ Hk H D g en k =>
  h H0 σ Hk H _ g.kr g.po en fun v d Hk' H' g' r f => k.rt v d Hk' H' (g.trans g') r f
theorem s_retN (h : O.rt .none) : WpS K p tRetN env O := fun H0 Hk0 σ Hk H D g en k => k.rt .non .none Hk H g .non h
theorem s_if {t u : TS} (h : WpT K p tc env fun b => if b = true then WpS K p t env O else WpS K p u env O) : WpS K p (tIfS tc t u) env O := fun H0 Hk0 σ Hk H D g en k =>
  h H0 σ Hk H _ g.kr g.po en fun b Hk' H' g' f => by
    cases b with
    | true => exact (show WpS K p t env O from f) H0 Hk0 σ Hk' H' D (g.trans g') (en.go g') k
    | false => exact (show WpS K p u env O from f) H0 Hk0 σ Hk' H' D (g.trans g') (en.go g') k
theorem s_drop (h : WpE K p te env fun _ => O.nx env) : WpS K p (tDrop te) env O := fun H0 Hk0 σ Hk H D g en k =>
  h H0 σ Hk H _ g.kr g.po en fun v d Hk' H' g' r f => k.nx env σ Hk' H' (g.trans g') (en.go g') f
theorem s_app {i : Nat} {ds : List PyData} (hi : env[i]? = some (.own ds)) (h : WpE K p te env fun d => ds.length < 100000 ∧ O.nx (env.set i (.own (ds ++ [d])))) : WpS K p (tDrop (tBM K "list" rAppend (tVar i) (tCons te tNil))) env O := fun H0 Hk0 σ Hk H D g en k => by
  obtain ⟨ov, h1, l, vs, rfl, h0, hk, hp, hl, r⟩ := en.slot i _ hi
  refine ⟨.ref l, h1, .inl ⟨rfl, vs, SqL.of hl⟩, h H0 σ Hk H _ g.kr g.po en fun v d Hk' H' g' rd ⟨hz, f⟩ => ?_⟩
  have hl' : H' l = some (.lst vs) := g'.rr l _ hp hl
  have hk' : Hk' l = none := g'.nk l (by rw [hl]; exact nofun) hk
  refine ⟨l, vs, v, rfl, rfl, hl', sz_lt (by rw [dpAll_len r]; exact hz), k.nx _ σ Hk' _ ((g.trans g').mut h0 hp hk') ((en.go g').put_own (ws := vs ++ [v]) hi h1 (dpAll_app (dpAll_mono g'.kk ds r) (.cons rd .nil))) f⟩
theorem s_par {i j : Nat} {ta : TA} (h : WpA K p ta env fun ds => ∃ x y, ds = [x, y] ∧ O.nx ((env.set i (.dat x)).set j (.dat y))) : WpS K p (tPar i j ta) env O := fun H0 Hk0 σ Hk H D g en k =>
  h H0 σ Hk H _ g.kr g.po en fun vs ds Hk' H' g' r ⟨x, y, ed, f⟩ => by
    subst ed
    cases r with
    | cons r1 r2 =>
      cases r2 with
      | cons r2 r3 =>
        cases r3
        exact ⟨_, _, rfl, k.nx _ _ Hk' H' (g.trans g') (((en.go g').set r1).set r2) f⟩
/-- a name for a new list that the def may change -/
theorem s_ownF {i : Nat} (h : WpF K p te env fun ds => O.nx (env.set i (.own ds))) : WpS K p (tAsg te (gName i)) env O := fun H0 Hk0 σ Hk H D g en k => by
  refine h H0 σ Hk H _ g.kr g.po en fun l vs ds Hk' H' g' h0 hk hl r f => ?_
  exact k.nx _ _ Hk' H' (g.trans g') (en.add_own (en.go g') (fresh0 g h0) h0 hl hk (pot_ne g.po h0) r) f
/-- two names, the second a list that the def may change -/
theorem s_parOwn {i j : Nat} {tb : TA} (hij : i ≠ j) (h : WpE K p te env fun x => WpA K p tb env fun ds => ds.length ≤ 100000 ∧ O.nx ((env.set i (.dat x)).set j (.own ds))) : WpS K p (tPar i j (tCons te (tCons (tLst tb) tNil))) env O := fun H0 Hk0 σ Hk H D g en k =>
  h H0 σ Hk H _ g.kr g.po en fun v x Hk1 H1 g1 rx h1 => h1 H0 σ Hk1 H1 _ g1.kr g1.po (en.go g1) fun vs ds Hk' H' g' r ⟨hz, f⟩ => ⟨sz_of (by rw [dpAll_len r]; exact hz), fun l hl => by
    have gg := (g.trans g1).trans g'
    have hp := pot_ne gg.po hl
    refine ⟨v, .ref l, rfl, k.nx _ _ Hk' _ (gg.mut (fresh0 gg hl) hp (fresh_back gg.kr hl)) ?_ f⟩
    exact (((en.go g1).go g').set (dp_mono g'.kk x rx)).set_own (fresh0 gg hl) hl (fresh_back gg.kr hl) hp r⟩
theorem s_par3 {i j l : Nat} {ta : TA} (h : WpA K p ta env fun ds => ∃ x y z, ds = [x, y, z] ∧ O.nx (((env.set i (.dat x)).set j (.dat y)).set l (.dat z))) : WpS K p (tPar3 i j l ta) env O := fun H0 Hk0 σ Hk H D g en k =>
  h H0 σ Hk H _ g.kr g.po en fun vs ds Hk' H' g' r ⟨x, y, z, ed, f⟩ => by
    subst ed
    cases r with
    | cons r1 r2 =>
      cases r2 with
      | cons r2 r3 =>
        cases r3 with
        | cons r3 r4 =>
          cases r4
          exact ⟨_, _, _, rfl, k.nx _ _ Hk' H' (g.trans g') ((((en.go g').set r1).set r2).set r3) f⟩
theorem s_aug {i : Nat} {f : Int → Int → Int} {a : Int} (hi : env[i]? = some (.dat (.int a))) (h : WpE K p te env fun d => ∃ b, d = .int b ∧ O.nx (env.set i (.dat (.int (f a b))))) : WpS K p (tAug i te (ipI f)) env O := fun H0 Hk0 σ Hk H D g en k => by
  obtain ⟨ov, h1, v, rfl, r⟩ := en.slot i _ hi
  refine ⟨v, h1, h H0 σ Hk H _ g.kr g.po en fun w d Hk' H' g' rd ⟨b, ed, q⟩ => ?_⟩
  subst ed
  rw [dp_int rd, dp_int r]
  exact ⟨a, b, rfl, rfl, k.nx _ _ Hk' H' (g.trans g') ((en.go g').set (.int _)) q⟩
theorem s_brk (q : O.bk env) : WpS K p tBreak env O := fun H0 Hk0 σ Hk H D g en k => k.bk env σ Hk H g en q
theorem s_cont (q : O.ct env) : WpS K p tCont env O := fun H0 Hk0 σ Hk H D g en k => k.ct env σ Hk H g en q
theorem Go.self {Hk0 H0 Hk H : Hp} (g : Go p Hk0 H0 Hk H) : Go p Hk H0 Hk H := ⟨Ex.refl _, g.kr, g.rr, fun _ _ h => h, g.po⟩
theorem Go.re {Hk0 H0 Hk H Hk' H' : Hp} (g : Go p Hk0 H0 Hk H) (g' : Go p Hk H0 Hk' H') : Go p Hk0 H0 Hk' H' := ⟨g.kk.trans g'.kk, g'.kr, g'.rr, fun a h1 h2 => g'.nk a h1 (g.nk a h1 h2), g'.po⟩
theorem s_while {t : TS} (I : Nat → List Slot → Prop) (m0 : Nat) (h0 : I m0 env) (h : ∀ m e, I m e → WpT K p tc e fun b => if b = true then WpS K p t e { nx := fun e' => ∃ m', m' < m ∧ I m' e', rt := O.rt, bk := O.nx, ct := fun e' => ∃ m', m' < m ∧ I m' e', rf := O.rf } else O.nx e) : WpS K p (tWhile tc t) env O := fun H0 Hk0 σ Hk H D g en k => by
  refine ⟨fun m σ' H' => ∃ Hk' e, Go p Hk0 H0 Hk' H' ∧ En K p H0 Hk' H' σ' e ∧ I m e, ⟨m0, Hk, env, g, en, h0⟩, ?_⟩
  rintro m σ' H' ⟨Hk', e, g', en', hi⟩
  refine h m e hi H0 σ' Hk' H' _ g'.kr g'.po en' fun b Hk2 H2 g2 f => ?_
  cases b with
  | false => exact k.nx e σ' Hk2 H2 (g'.trans g2) (en'.go g2) f
  | true =>
    refine ⟨fun σ3 H3 => ∃ m', m' < m ∧ ∃ Hk' e, Go p Hk0 H0 Hk' H3 ∧ En K p H0 Hk' H3 σ3 e ∧ I m' e, fun σ3 H3 z => z, ?_⟩
    have st : ∀ e' σ3 Hk3 H3, Go p Hk0 H0 Hk3 H3 → En K p H0 Hk3 H3 σ3 e' → (∃ m', m' < m ∧ I m' e') → ∃ m', m' < m ∧ ∃ Hk' e, Go p Hk0 H0 Hk' H3 ∧ En K p H0 Hk' H3 σ3 e ∧ I m' e := fun e' σ3 Hk3 H3 g3 en3 ⟨m', lt, q⟩ => ⟨m', lt, Hk3, e', g3, en3, q⟩
    exact (show WpS K p t e _ from f) H0 Hk0 σ' Hk2 H2 _ (g'.trans g2) (en'.go g2) ⟨st, k.rt, k.nx, st, k.rf⟩
theorem s_for {wi : TI} {gt : TG} {js : List Nat} {t : TS} (h : WpI K p wi env fun xs => ∃ I : Nat → List Slot → Prop, I 0 env ∧
    (∀ (i : Nat) (x : PyData) (e : List Slot), xs[i]? = some x → I i e → WpG K p js gt x e fun e2 => WpS K p t e2 { nx := I (i + 1), rt := O.rt, bk := O.nx, ct := I (i + 1), rf := O.rf }) ∧ ∀ e, I xs.length e → O.nx e) : WpS K p (tFor wi gt t) env O := fun H0 Hk0 σ Hk H D g en k => by
  refine h H0 σ Hk H _ g.kr g.po en fun J xs Hk1 H1 g1 it ⟨I, h0, hs, hd⟩ => ?_
  have gg := g.trans g1
  refine ⟨fun i m σ' H' => m = xs.length - i ∧ i ≤ xs.length ∧ ∃ Hk' e, Go p Hk1 H0 Hk' H' ∧ En K p H0 Hk' H' σ' e ∧ I i e, ⟨xs.length, by omega, by omega, Hk1, env, gg.self, en.go g1, h0⟩, ?_⟩
  rintro i m σ' H' ⟨rfl, hi, Hk', e, g', en', inv⟩
  obtain ⟨o1, o2, o3⟩ := it Hk' H' g'.kk g'.kr g'.po
  by_cases hlt : i < xs.length
  · refine .inr ⟨o1 i hlt, fun σ3 H3 => i + 1 ≤ xs.length ∧ ∃ Hk' e, Go p Hk1 H0 Hk' H3 ∧ En K p H0 Hk' H3 σ3 e ∧ I (i + 1) e, fun σ3 H3 q => ⟨xs.length - (i + 1), by omega, rfl, q⟩, fun x H2 y => ?_⟩
    obtain ⟨d, Hk2, hd', rd, g2⟩ := o3 i x H2 hlt y
    refine hs i d e hd' inv H0 σ' Hk2 H2 x _ g2.kr g2.po (en'.go g2) rd fun σ2 e2 en2 _ f => ?_
    have st : ∀ e' σ3 Hk3 H3, Go p Hk1 H0 Hk3 H3 → En K p H0 Hk3 H3 σ3 e' → I (i + 1) e' → i + 1 ≤ xs.length ∧ ∃ Hk' e, Go p Hk1 H0 Hk' H3 ∧ En K p H0 Hk' H3 σ3 e ∧ I (i + 1) e := fun e' σ3 Hk3 H3 g3 en3 q => ⟨by omega, Hk3, e', g3, en3, q⟩
    exact f H0 Hk1 σ2 Hk2 H2 _ (g'.trans g2) en2 ⟨st, fun v d Hk3 H3 g3 => k.rt v d Hk3 H3 (gg.re g3), fun e' σ3 Hk3 H3 g3 => k.nx e' σ3 Hk3 H3 (gg.re g3), st, fun l vs ds Hk3 H3 g3 => k.rf l vs ds Hk3 H3 (gg.re g3)⟩
  · have hi2 : i = xs.length := by omega
    subst hi2
    exact .inl ⟨o2, k.nx e σ' Hk' H' (gg.re g') en' (hd e inv)⟩
/-! ### a def's body -/
theorem en_start {H0 Hk H : Hp} (N : List Str) {vs : List V} {ds : List PyData} (r : DxAll K Hk vs ds) : En K none H0 Hk H (L2.start N vs) (ds.map .dat ++ List.replicate (N.length - ds.length) .no) := by
  have hl := dpAll_len r
  refine ⟨by unfold L2.start; simp [hl], fun i sl h => ?_, fun i j l a b h => ?_, fun i j B s l h => ?_⟩
  · unfold L2.start
    by_cases hi : i < ds.length
    · rw [List.getElem?_append_left (by simpa using hi), List.getElem?_map, List.getElem?_eq_getElem hi] at h
      have e := Option.some.inj h
      subst e
      obtain ⟨v, hv, rv⟩ := dpAll_get r (List.getElem?_eq_getElem hi)
      exact ⟨some v, by rw [List.getElem?_append_left (by simp; omega), List.getElem?_map, hv]; rfl, v, rfl, rv⟩
    · rw [List.getElem?_append_right (by simpa using hi), List.length_map, List.getElem?_replicate] at h
      split at h
      · have e := Option.some.inj h
        subst e
        refine ⟨none, ?_, True.intro⟩
        rw [List.getElem?_append_right (by simp; omega), List.length_map, List.getElem?_replicate, if_pos (by omega)]
      · cases h
  · by_cases hi : i < ds.length
    · rw [List.getElem?_append_left (by simpa using hi), List.getElem?_map, List.getElem?_eq_getElem hi] at h
      cases h
    · rw [List.getElem?_append_right (by simpa using hi), List.length_map, List.getElem?_replicate] at h
      split at h
      · cases h
      · cases h
  · by_cases hi : i < ds.length
    · rw [List.getElem?_append_left (by simpa using hi), List.getElem?_map, List.getElem?_eq_getElem hi] at h
      cases h
    · rw [List.getElem?_append_right (by simpa using hi), List.length_map, List.getElem?_replicate] at h
      split at h
      · cases h
      · cases h
theorem En.potted {H0 Hk H : Hp} {q : Addr} {σ : List (Option V)} {env : List Slot} (h : En K none H0 Hk H σ env) (hn : ∀ (i : Nat) (ds : List PyData), env[i]? ≠ some (Slot.own ds)) (hp : ∀ i : Nat, env[i]? ≠ some Slot.pot) (hm : ∀ (i : Nat) (S : Mov), env[i]? ≠ some (Slot.mov S)) (hb : ∀ (i : Nat) (B : Big), env[i]? ≠ some (Slot.big B)) : En K (some q) H0 Hk H (some (.ref q) :: σ) (.pot :: env) := by
  refine ⟨by rw [List.length_cons, List.length_cons, h.len], fun i sl e => ?_, fun i j l a b e => ?_, fun i j B s l e => ?_⟩
  · cases i with
    | zero =>
      cases e
      exact ⟨_, rfl, q, rfl, rfl⟩
    | succ i =>
      obtain ⟨ov, e1, r⟩ := h.slot i sl e
      refine ⟨ov, e1, ?_⟩
      cases sl with
      | no => exact True.intro
      | pot => exact absurd e (hp i)
      | dat d => exact r
      | own ds => exact absurd e (hn i ds)
      | ext S => exact r
      | mov S => exact absurd e (hm i S)
      | big B => exact absurd e (hb i B)
  · cases i with
    | zero => cases e
    | succ i => exact absurd e (hn i a)
  · cases i with
    | zero => cases e
    | succ i => exact absurd e (hb i B)
theorem bodyF {pre : List PyData → (PyData → Prop) → Prop} {N : List Str} {ts : TS} {vs : List V} {H : Hp} {Q : VK} {E : XK} (s : SpF K pre vs H Q E) (h : ∀ ds Φ, pre ds Φ → WpS K none ts (ds.map .dat ++ List.replicate (N.length - ds.length) .no) ⟨fun _ => Φ .none, Φ, fun _ => False, fun _ => False, fun _ => False⟩) : ts { nx := fun _ H' => Q .non H', rt := Q } (L2.start N vs) H := by
  obtain ⟨Hk, ds, Φ, e, r, f, k⟩ := s
  exact h ds Φ f H Hk _ Hk H _ (Go.refl e True.intro) (en_start N r) ⟨fun _ _ Hk' H' g _ q => k _ _ Hk' H' g .non q, k, fun _ _ _ _ _ _ z => z.elim, fun _ _ _ _ _ _ z => z.elim, fun _ _ _ _ _ _ _ _ _ _ z => z.elim⟩
theorem bodyG {pre : List PyData → (PyData → Prop) → Prop} {n : Str} {N : List Str} {ts : TS} {vs : List V} {H : Hp} {Q : VK} {E : XK} (s : SpG K pre vs H Q E) (h : ∀ q ds Φ, pre ds Φ → WpS K (some q) ts (.pot :: (ds.map .dat ++ List.replicate (N.length - ds.length) .no)) ⟨fun _ => Φ .none, Φ, fun _ => False, fun _ => False, fun _ => False⟩) : ts { nx := fun _ H' => Q .non H', rt := Q } (L2.start (n :: N) vs) H := by
  obtain ⟨q, us, Hk, ds, Φ, rfl, e, po, r, f, k⟩ := s
  have st : L2.start (n :: N) (V.ref q :: us) = some (V.ref q) :: L2.start N us := by
    unfold L2.start
    simp
  rw [st]
  refine h q ds Φ f H Hk _ Hk H _ (Go.refl e po) ((en_start N r).potted (fun i a z => ?_) (fun i z => ?_) (fun i S z => ?_) (fun i B z => ?_)) ⟨fun _ _ Hk' H' g _ q => k _ _ Hk' H' g .non q, k, fun _ _ _ _ _ _ z => z.elim, fun _ _ _ _ _ _ z => z.elim, fun _ _ _ _ _ _ _ _ _ _ z => z.elim⟩
  all_goals
    rcases List.mem_append.mp (List.mem_of_getElem? z) with m | m
    · obtain ⟨d, _, y⟩ := List.mem_map.mp m
      cases y
    · have y := (List.mem_replicate.mp m).2
      cases y
end
end Fw
namespace FwH
open PySem PySem.Spec PyProof.Rows L2
/-! the head's facts with one more truth over the written part -/
def obsE (n : Nat) (fa : List He.Fa) (fn : List He.DefD) (ex : PySem.W.Frag → Bool) (g : Addr → Option Obj) : He.AlD × Bool := (He.obsD fa fn (He.frG g (He.asD g n)), ex (He.frG g (He.asD g n)))
def hookE (n : Nat) (fa : List He.Fa) (fn : List He.DefD) (ex : PySem.W.Frag → Bool) : PySem.W.Hook where
  α := He.AlD × Bool
  obs := fun s => obsE n fa fn ex s.heap.get?
  val := fun _ => (He.valD fn, true)
  says := fun _ h => ∃ K : PySem.W.Frag, K.In h ∧ He.SaysD fa fn K ∧ ex K = true
  of := fun _ _ e => ⟨_, He.frG_in, congrArg (fun z : He.AlD × Bool => z.1) e, congrArg (fun z : He.AlD × Bool => z.2) e⟩
  keeps := fun _ _ _ ⟨K, inK, c⟩ k => ⟨K, PySem.W.Frag.In.keeps inK k, c⟩
theorem obsE_eq {n : Nat} {fa : List He.Fa} {fn : List He.DefD} {ex : PySem.W.Frag → Bool} {g : Addr → Option Obj} {s : Shared} (h : ∀ a, g a = s.heap.get? a) : obsE n fa fn ex g = (hookE n fa fn ex).obs s := by
  rw [show g = s.heap.get? from funext h]
  rfl
/-- a name of the module that is a built-in of an imported module -/
def bltB (x : Str) (id : String) (K : PySem.W.Frag) : Bool := decide (PySem.W.nsIn K mainGlobals x = some (some (.builtin id)))
theorem bltB_ok {K : PySem.W.Frag} {h : Heap} {mg : Str → Option Value} {x : Str} {id : String} (X : K.In h) (G : h.Ns mainGlobals mg) (c : bltB x id K = true) : mg x = some (.builtin id) := PySem.W.mg_of X G (of_decide_eq_true c)
end FwH
namespace Fw
open PySem PySem.Spec PyProof.Rows L2 Evl
/-! a def of the module by its name, and what it promises -/
abbrev FnP (K : PySem.W.Frag) (x : Str) (st : Stmt) (f : Addr) (fd : FuncData) : Prop := FunD K x x (defArgs st) (defBody st) (defScope st) [] [] f fd
def Dn (K : PySem.W.Frag) (mg : Str → Option Value) (x : Str) (st : Stmt) : Prop := ∃ f fd, FnP K x st f fd ∧ mg x = some (.ref f)
section
variable (P : Program) (w : World) (K : PySem.W.Frag) (mg : Str → Option Value) (base : Heap)
def Has (x : Str) (ps : List Str) (k : Nat) (sp : Sp) : Prop := ∃ f fd, FnOk P w K mg base CX0 k f fd ps sp ∧ mg x = some (.ref f) ∧ PySem.W.keepIn K (.ref f) = true ∧ Binds K fd ps []
def HasG (x : Str) (ps : List Str) (k : Nat) (sp : Sp) : Prop := ∃ f fd, FwG.FnG P w K mg base CX0 k f fd ps sp ∧ mg x = some (.ref f) ∧ PySem.W.keepIn K (.ref f) = true ∧ Binds K fd ps []
/-- called by names alone, in the sequence ks; gV brings the values into the parameters' sequence -/
def HasK (x : Str) (ps ks : List Str) (k : Nat) (sp : Sp) (gV : List V → List V → List V) : Prop := ∃ f fd g, FnOk P w K mg base CX0 k f fd ps sp ∧ mg x = some (.ref f) ∧ PySem.W.keepIn K (.ref f) = true ∧ KBinds K fd ps ks g gV
end
section
variable {P : Program} {w : World} {K : PySem.W.Frag} {mg : Str → Option Value} {base : Heap} {x : Str} {st : Stmt} {ps : List Str} {k : Nat} {sp : Sp}
abbrev BindsAll (x : Str) (st : Stmt) (ps : List Str) : Prop := ∀ (kV doc pm : Value) (an : Option Addr) (cdv ct : Value) (us : List Value), us.length = ps.length → bindArgs (PySem.W.fnOf x x (defArgs st) (defBody st) (defScope st) .none kV doc pm an cdv ct) ⟨us, []⟩ = pure (ps.zip us)
theorem has_of (D : Dn K mg x st) (b : BindsAll x st ps) (ok : ∀ f fd, FnP K x st f fd → FnOk P w K mg base CX0 k f fd ps sp) : Has P w K mg base x ps k sp := by
  obtain ⟨f, fd, F, m⟩ := D
  exact ⟨f, fd, ok f fd F, m, F.kp, F.bindsN b⟩
theorem hasG_of (D : Dn K mg x st) (b : BindsAll x st ps) (ok : ∀ f fd, FnP K x st f fd → FwG.FnG P w K mg base CX0 k f fd ps sp) : HasG P w K mg base x ps k sp := by
  obtain ⟨f, fd, F, m⟩ := D
  exact ⟨f, fd, ok f fd F, m, F.kp, F.bindsN b⟩
/-- no value ahead of the names -/
def onlyK (g : {α : Type} → List α → List α) {α : Type} : List α → List α → List α
  | [], ws => g ws
  | _ :: _, _ => []
/-- the same def, called by names -/
theorem hasK_of {ks : List Str} (g : {α : Type} → List α → List α) (D : Dn K mg x st) (ok : ∀ f fd, FnP K x st f fd → FnOk P w K mg base CX0 k f fd ps sp)
    (b : ∀ (kV doc pm : Value) (an : Option Addr) (cdv ct : Value) (ws : List Value), (g ws).length = ps.length → bindArgs (PySem.W.fnOf x x (defArgs st) (defBody st) (defScope st) .none kV doc pm an cdv ct) ⟨[], ks.zip ws⟩ = pure (ps.zip (g ws)))
    (r : ∀ {zs : List V} {ws : List Value}, Vals zs ws → Vals (g zs) (g ws)) (hne : ps ≠ []) : HasK P w K mg base x ps ks k sp (onlyK g) := by
  obtain ⟨f, fd, F, m⟩ := D
  refine ⟨f, fd, onlyK g, ok f fd F, m, F.kp, ?_⟩
  obtain ⟨oc, od, dV, kV, doc, pm, an, cdv, ct, osl, rfl, lk, hcd, hD, hK⟩ := F.ex
  rcases hD with ⟨_, rfl⟩ | ⟨e, _⟩
  · refine ⟨fun s us ws _ hl => ?_, fun {vs us zs ws} q1 q2 => ?_⟩
    · cases us with
      | nil => exact .of_eq (b kV doc pm an cdv ct ws hl)
      | cons u us => exact absurd (List.length_eq_zero_iff.mp hl.symm) hne
    · cases q1 with
      | nil => exact r q2
      | cons _ _ => exact .nil
  · exact absurd rfl e
theorem Has.mono {j : Nat} (h : Has P w K mg base x ps k sp) (hj : k ≤ j) : Has P w K mg base x ps j sp := by
  obtain ⟨f, fd, ok, r⟩ := h
  exact ⟨f, fd, ok.mono hj, r⟩
end
section
variable {X : Cx} {k : Nat} {ps : List Str} {sp : Sp} {x : Str} {p pos : Pos} {e : Expr} {es : List Expr} {t : TA}
theorem pe_callH (h : Has X.prog X.w X.K X.mg X.base x ps k sp) (hr : Room k X.A) (hg : Gl X x) (ha : PA X (e :: es) t) (nd : (x == ("__debug__" : Str)) = false := by decide) (st : starEach (e :: es) X.env = (false, eval e X.env) :: starEach es X.env := by rfl) (pl : (backTo pos (starEach es X.env)).any (·.1) = false := by rfl) :
    PE X (.Call (.Name x p) (e :: es) [] pos) (tCall sp [] E0 t) := by
  obtain ⟨f, fd, ok, m, kp, b⟩ := h
  exact pe_call ok hr hg m kp b .nil pass0 ha nd st pl
theorem pe_callHG (h : HasG X.prog X.w X.K X.mg X.base x ps k sp) (gA : X.A.guards = some []) (hr : Room k X.A) (hg : Gl X x) (ha : PA X (e :: es) t) (nd : (x == ("__debug__" : Str)) = false := by decide) (st : starEach (e :: es) X.env = (false, eval e X.env) :: starEach es X.env := by rfl) (pl : (backTo pos (starEach es X.env)).any (·.1) = false := by rfl) :
    PE X (.Call (.Name x p) (e :: es) [] pos) (tCall sp [] E0 t) := by
  obtain ⟨f, fd, ok, m, kp, b⟩ := h
  exact FwG.pe_callG ok gA hr hg m kp b .nil pass0 ha nd st pl
theorem pe_callHK {ks : List Str} {kw : List Keyword} {tk : TA} {gV : List V → List V → List V} (h : HasK X.prog X.w X.K X.mg X.base x ps ks k sp gV) (hr : Room k X.A) (hg : Gl X x) (hk : PK X kw tk) (all : (backToKw pos (keywordEach kw X.env)).all (·.1.isSome) = true := by rfl) (keys : (backToKw pos (keywordEach kw X.env)).filterMap (·.1) = ks := by rfl)
    (nd : (x == ("__debug__" : Str)) = false := by decide) (pl : ((backTo pos (starEach [] X.env)).any (·.1) || (backToKw pos (keywordEach kw X.env)).any (·.1.isNone)) = false := by rfl) :
    PE X (.Call (.Name x p) [] kw pos) (tCallK sp gV E0 tNil tk) := by
  obtain ⟨f, fd, g, ok, m, kp, b⟩ := h
  exact FwG.pe_callK0 ok hr hg m kp b pass0 hk all keys nd pl
end
end Fw
namespace Fw
open PySem PySem.Spec PyProof.Rows L2 Evl
/-! the rules again, where the reading's part K' is the known one by unfolding alone -/
section
variable {K K' : PySem.W.Frag} {p : Option Addr} {env : List Slot} {Φ : PyData → Prop} {ta tb te tl : TE} {tt tc : TT} {O : Outs} {Ψ : List PyData → Prop}
theorem e_isi_ {n : String} (h : WpE K p te env fun x => ∃ b, kitB (tyD x) n = some b ∧ Φ (.bool b)) (hK : K' = K := by with_unfolding_all rfl) (hn : n ≠ "#" := by decide) : WpE K p (tCB (rIsi K') (tCons te (tCons (tC (.ty n)) tNil))) env Φ := by subst hK; exact e_isi h hn
theorem od_eqD_ {x y : PyData} (sx : SeqAt.shaped x = true) (sy : SeqAt.shaped y = true) (h : Φ (.bool (PyData.eqv x y))) (hK : K' = K := by with_unfolding_all rfl) : OpD K p (rEqD K') x y Φ := by subst hK; exact od_eqD sx sy h
theorem od_neD_ {x y : PyData} (sx : SeqAt.shaped x = true) (sy : SeqAt.shaped y = true) (h : Φ (.bool (!PyData.eqv x y))) (hK : K' = K := by with_unfolding_all rfl) : OpD K p (rNeD K') x y Φ := by subst hK; exact od_neD sx sy h
theorem od_ixT_ {ds : List PyData} {i : Int} {d : PyData} (ha : atI ds i = some d) (h : Φ d) (hK : K' = K := by with_unfolding_all rfl) : OpD K p (rIxT K') (.tuple ds) (.int i) Φ := by subst hK; exact od_ixT ha h
theorem od_ixL_ {ds : List PyData} {i : Int} {d : PyData} (ha : atI ds i = some d) (h : Φ d) (hK : K' = K := by with_unfolding_all rfl) : OpD K p (rIxL K') (.list ds) (.int i) Φ := by subst hK; exact od_ixL ha h
theorem od_catT_ {ds es : List PyData} (hz : ds.length + es.length ≤ 100000) (h : Φ (.tuple (ds ++ es))) (hK : K' = K := by with_unfolding_all rfl) : OpD K p (rCatA K') (.tuple ds) (.tuple es) Φ := by subst hK; exact od_catT hz h
theorem od_times_ {ds : List PyData} {k : Int} (ne : ds ≠ []) (k1 : 1 ≤ k) (k2 : k ≤ 1000) (hz : ds.length ≤ 1000) (h : Φ (.tuple (List.replicate k.toNat ds).flatten)) (hK : K' = K := by with_unfolding_all rfl) : OpD K p (FwE.rTimes K') (.tuple ds) (.int k) Φ := by subst hK; exact od_times ne k1 k2 hz h
theorem e_slT_ {tl th : TO} (h : WpE K p te env fun x => WpO K p tl env fun l => WpO K p th env fun u => ∃ ds, x = .tuple ds ∧ Φ (.tuple (cutD ds l u))) (hK : K' = K := by with_unfolding_all rfl) : WpE K p (tSl (rSlA K') te tl th) env Φ := by
  subst hK
  exact e_sl (h.mono fun x hx => fun H0 σ Hk H Q e po en k => hx H0 σ Hk H Q e po en fun l Hk1 H1 g1 h1 => k l Hk1 H1 g1 fun H0 σ Hk H Q e po en k => h1 H0 σ Hk H Q e po en fun u Hk2 H2 g2 ⟨ds, ed, f⟩ => k u Hk2 H2 g2 (by subst ed; exact ud_slT f))
theorem cb_len_ {r : List V → Hp → VK → Prop} {ds : List PyData} {x : PyData} (hx : x = .tuple ds ∨ x = .list ds) (h : Φ (.int ds.length)) (hr : r = fun xs H Q => ∃ p ys, xs = [.ref p] ∧ (SqL K H p ys ∨ SqT K H p ys) ∧ Q (.int ys.length) H := by with_unfolding_all rfl) : CbD K p r [x] Φ := by
  rcases hx with rfl | rfl
  · exact cb_len_tup hr h
  · exact cb_len_lst hr h
theorem cb_sum_ {ds : List PyData} (ns : List Int) (hd : ds = ns.map .int) (h : Φ (.int ns.sum)) (hK : K' = K := by with_unfolding_all rfl) : CbD K p (rSum K') [.list ds] Φ := by subst hK; subst hd; exact cb_sum h
theorem cb_all_ {ds : List PyData} (bs : List Bool) (hd : ds = bs.map .bool) (h : Φ (.bool (bs.all id))) (hK : K' = K := by with_unfolding_all rfl) : CbD K p (rAll K') [.list ds] Φ := by subst hK; subst hd; exact cb_all h
theorem cb_list_ {r : List V → Hp → VK → Prop} {ds : List PyData} {x : PyData} (hx : x = .tuple ds ∨ x = .list ds) (h : Φ (.list ds)) (hr : r = fun xs H Q => ∃ p ys, xs = [V.ref p] ∧ (SqL K H p ys ∨ SqT K H p ys) ∧ ∀ l, H l = none → Q (.ref l) (upd H l (.lst ys)) := by with_unfolding_all rfl) : CbD K p r [x] Φ := by subst hr; exact cb_list hx h
theorem cb_tuple_ {r : List V → Hp → VK → Prop} {ds : List PyData} {x : PyData} (hx : x = .tuple ds ∨ x = .list ds) (h : Φ (.tuple ds)) (hr : r = fun xs H Q => ∃ p ys, xs = [V.ref p] ∧ ((SqL K H p ys ∧ ∀ l, H l = none → Q (.ref l) (upd H l (.tup ys))) ∨ (SqT K H p ys ∧ Q (.ref p) H)) := by with_unfolding_all rfl) : CbD K p r [x] Φ := by subst hr; exact cb_tuple hx h
theorem cb_reprD_ {d : PyData} (h1 : isDisplay d = true) (h2 : d.showable = true) (h3 : d.hasDict = false) (h4 : d.depth ≤ 60) (h5 : d.shown.length ≤ sizeLine) (h : Φ (.str d.shown)) (hK : K' = K := by with_unfolding_all rfl) : CbD K p (FwE.rReprD K') [d] Φ := by subst hK; exact cb_reprD h1 h2 h3 h4 h5 h
theorem i_list_ (h : WpE K p tl env fun d => ∃ xs, d = .list xs ∧ Ψ xs) (hK : K' = K := by with_unfolding_all rfl) : WpI K p (iList K' tl) env Ψ := by subst hK; exact i_list h
theorem i_tup_ (h : WpE K p tl env fun d => ∃ xs, d = .tuple xs ∧ Ψ xs) (hK : K' = K := by with_unfolding_all rfl) : WpI K p (iTup K' tl) env Ψ := by subst hK; exact i_tup h
theorem i_zipT_ {ta : TA} (h : WpA K p ta env fun ds => ∃ xs ys, ds = [.tuple xs, .tuple ys] ∧ Ψ (zipD xs ys)) (hK : K' = K := by with_unfolding_all rfl) : WpI K p (RZ.iZipA K' ta) env Ψ := by subst hK; exact i_zipT h
theorem i_zipL_ {ta : TA} (h : WpA K p ta env fun ds => ∃ xs ys, ds = [.list xs, .list ys] ∧ Ψ (zipD xs ys)) (hK : K' = K := by with_unfolding_all rfl) : WpI K p (RZ.iZipA K' ta) env Ψ := by subst hK; exact i_zipL h
theorem i_enumT_ {ta : TA} (h : WpA K p ta env fun ds => ∃ xs, ds = [.tuple xs] ∧ Ψ (enumD xs)) (hK : K' = K := by with_unfolding_all rfl) : WpI K p (FwE.iEnumT K' ta) env Ψ := by subst hK; exact i_enumT h
theorem i_enumL_ {ta : TA} (h : WpA K p ta env fun ds => ∃ xs, ds = [.list xs] ∧ Ψ (enumD xs)) (hK : K' = K := by with_unfolding_all rfl) : WpI K p (iEnum K' ta) env Ψ := by subst hK; exact i_enumL h
theorem g_tup_ {js : List Nat} {n : Nat} {t : TGs} {d : PyData} {Ψ : List Slot → Prop} (ds : List PyData) (hd : d = .tuple ds) (hn : ds.length = n) (q : WpGs K p js t ds env Ψ) (hK : K' = K := by with_unfolding_all rfl) : WpG K p js (gTup K' n t) d env Ψ := by subst hK; exact g_tup ds hd hn q
theorem s_app_ {i : Nat} {ds : List PyData} (hi : env[i]? = some (.own ds)) (h : WpE K p te env fun d => ds.length < 100000 ∧ O.nx (env.set i (.own (ds ++ [d])))) (hK : K' = K := by with_unfolding_all rfl) : WpS K p (tDrop (tBM K' "list" rAppend (tVar i) (tCons te tNil))) env O := by subst hK; exact s_app hi h
end
end Fw
namespace Fw
open PySem PySem.Spec PyProof.Rows L2 Evl
/-! isinstance, by the form of the data -/
theorem kd_none_int  : kitB (tyD PyData.none) "int" = some false := by show kitB "NoneType" "int" = some false; decide +kernel
theorem kd_none_bool  : kitB (tyD PyData.none) "bool" = some false := by show kitB "NoneType" "bool" = some false; decide +kernel
theorem kd_none_str  : kitB (tyD PyData.none) "str" = some false := by show kitB "NoneType" "str" = some false; decide +kernel
theorem kd_none_list  : kitB (tyD PyData.none) "list" = some false := by show kitB "NoneType" "list" = some false; decide +kernel
theorem kd_none_tuple  : kitB (tyD PyData.none) "tuple" = some false := by show kitB "NoneType" "tuple" = some false; decide +kernel
theorem kd_bool_int {b : Bool} : kitB (tyD (PyData.bool b)) "int" = some true := by show kitB "bool" "int" = some true; decide +kernel
theorem kd_bool_bool {b : Bool} : kitB (tyD (PyData.bool b)) "bool" = some true := by show kitB "bool" "bool" = some true; decide +kernel
theorem kd_bool_str {b : Bool} : kitB (tyD (PyData.bool b)) "str" = some false := by show kitB "bool" "str" = some false; decide +kernel
theorem kd_bool_list {b : Bool} : kitB (tyD (PyData.bool b)) "list" = some false := by show kitB "bool" "list" = some false; decide +kernel
theorem kd_bool_tuple {b : Bool} : kitB (tyD (PyData.bool b)) "tuple" = some false := by show kitB "bool" "tuple" = some false; decide +kernel
theorem kd_int_int {i : Int} : kitB (tyD (PyData.int i)) "int" = some true := by show kitB "int" "int" = some true; decide +kernel
theorem kd_int_bool {i : Int} : kitB (tyD (PyData.int i)) "bool" = some false := by show kitB "int" "bool" = some false; decide +kernel
theorem kd_int_str {i : Int} : kitB (tyD (PyData.int i)) "str" = some false := by show kitB "int" "str" = some false; decide +kernel
theorem kd_int_list {i : Int} : kitB (tyD (PyData.int i)) "list" = some false := by show kitB "int" "list" = some false; decide +kernel
theorem kd_int_tuple {i : Int} : kitB (tyD (PyData.int i)) "tuple" = some false := by show kitB "int" "tuple" = some false; decide +kernel
theorem kd_str_int {s : Str} : kitB (tyD (PyData.str s)) "int" = some false := by show kitB "str" "int" = some false; decide +kernel
theorem kd_str_bool {s : Str} : kitB (tyD (PyData.str s)) "bool" = some false := by show kitB "str" "bool" = some false; decide +kernel
theorem kd_str_str {s : Str} : kitB (tyD (PyData.str s)) "str" = some true := by show kitB "str" "str" = some true; decide +kernel
theorem kd_str_list {s : Str} : kitB (tyD (PyData.str s)) "list" = some false := by show kitB "str" "list" = some false; decide +kernel
theorem kd_str_tuple {s : Str} : kitB (tyD (PyData.str s)) "tuple" = some false := by show kitB "str" "tuple" = some false; decide +kernel
theorem kd_list_int {xs : List PyData} : kitB (tyD (PyData.list xs)) "int" = some false := by show kitB "list" "int" = some false; decide +kernel
theorem kd_list_bool {xs : List PyData} : kitB (tyD (PyData.list xs)) "bool" = some false := by show kitB "list" "bool" = some false; decide +kernel
theorem kd_list_str {xs : List PyData} : kitB (tyD (PyData.list xs)) "str" = some false := by show kitB "list" "str" = some false; decide +kernel
theorem kd_list_list {xs : List PyData} : kitB (tyD (PyData.list xs)) "list" = some true := by show kitB "list" "list" = some true; decide +kernel
theorem kd_list_tuple {xs : List PyData} : kitB (tyD (PyData.list xs)) "tuple" = some false := by show kitB "list" "tuple" = some false; decide +kernel
theorem kd_tuple_int {xs : List PyData} : kitB (tyD (PyData.tuple xs)) "int" = some false := by show kitB "tuple" "int" = some false; decide +kernel
theorem kd_tuple_bool {xs : List PyData} : kitB (tyD (PyData.tuple xs)) "bool" = some false := by show kitB "tuple" "bool" = some false; decide +kernel
theorem kd_tuple_str {xs : List PyData} : kitB (tyD (PyData.tuple xs)) "str" = some false := by show kitB "tuple" "str" = some false; decide +kernel
theorem kd_tuple_list {xs : List PyData} : kitB (tyD (PyData.tuple xs)) "list" = some false := by show kitB "tuple" "list" = some false; decide +kernel
theorem kd_tuple_tuple {xs : List PyData} : kitB (tyD (PyData.tuple xs)) "tuple" = some true := by show kitB "tuple" "tuple" = some true; decide +kernel
end Fw
namespace Fw
open PySem PySem.Spec PyProof.Rows L2 Evl
/-! slices of data -/
theorem cut_from {xs : List PyData} {i : Int} (h : 0 ≤ i) : cutD xs (some i) none = xs.drop i.toNat := by
  unfold cutD
  have e : HT.sIx xs.length 0 (some i) = min i.toNat xs.length := if_neg (show ¬ i < 0 by omega)
  rw [e, HT.sIx_none]
  by_cases z : i.toNat ≤ xs.length
  · rw [Nat.min_eq_left z, ← List.length_drop, List.take_length]
  · rw [Nat.min_eq_right (by omega), Nat.sub_self, List.take_zero, List.drop_eq_nil_of_le (by omega)]
theorem cut_to {xs : List PyData} {i : Int} (h : 0 ≤ i) : cutD xs none (some i) = xs.take i.toNat := by
  unfold cutD
  have e : HT.sIx xs.length xs.length (some i) = min i.toNat xs.length := if_neg (show ¬ i < 0 by omega)
  rw [e, HT.sIx_none, List.drop_zero, Nat.sub_zero, ← List.take_eq_take_min]
theorem cut_init {xs : List PyData} : cutD xs none (some (-1)) = xs.dropLast := by
  unfold cutD
  have e : HT.sIx xs.length xs.length (some (-1)) = (-1 + (xs.length : Int)).toNat := by
    show (if (-1 : Int) < 0 then (-1 + (xs.length : Int)).toNat else min (-1 : Int).toNat xs.length) = _
    rw [if_pos (by decide)]
  rw [e, HT.sIx_none, List.drop_zero, Nat.sub_zero, List.dropLast_eq_take]
  congr 1
  omega
theorem ix_ints {ps : List Int} {i : Int} (h0 : 0 ≤ i) (h1 : i.toNat < ps.length) : atI (ps.map PyData.int) i = some (.int ps[i.toNat]) := by
  unfold atI
  have e : ixN (ps.map PyData.int).length i = some i.toNat := by
    unfold ixN
    rw [List.length_map, if_pos h0, if_pos (by omega)]
  rw [e]
  show (ps.map PyData.int)[i.toNat]? = _
  rw [List.getElem?_map, List.getElem?_eq_getElem h1]
  rfl
end Fw
namespace Fw
open PySem PySem.Spec PyProof.Rows L2 Evl
section
variable {K : PySem.W.Frag} {p : Option Addr} {env : List Slot} {O : Outs}
/-- what holds behind a statement, said by hand -/
theorem s_cut {t : TS} (I : List Slot → Prop) (h : WpS K p t env { O with nx := I }) (k : ∀ e, I e → O.nx e) : WpS K p t env O := fun H0 Hk0 σ Hk H D g en ends =>
  h H0 Hk0 σ Hk H D g en ⟨fun e σ' Hk' H' g' en' q => ends.nx e σ' Hk' H' g' en' (k e q), ends.rt, ends.bk, ends.ct, ends.rf⟩
end
end Fw
namespace Fw
open PySem PySem.Spec PyProof.Rows L2 Evl
/-! the list of two ints that draws change -/
section
variable {K K' : PySem.W.Frag} {p : Option Addr} {env : List Slot} {Φ : PyData → Prop} {te : TE} {O : Outs}
theorem e_pot0 {i : Nat} (hi : env[i]? = some .pot) (h : ∀ a : Int, 0 ≤ a → Φ (.int a)) (hK : K' = K := by with_unfolding_all rfl) : WpE K p (tOp (rIxL K') (tVar i) (tC (.int 0))) env Φ := fun H0 σ Hk H Q e po en k => by
  subst hK
  obtain ⟨ov, h1, q, rfl, rfl⟩ := en.slot i _ hi
  obtain ⟨h2, a, b, h3, h4⟩ := po
  exact ⟨.ref q, h1, q, _, 0, .int a, rfl, rfl, SqL.of h3, rfl, k _ (.int a) Hk H (Go.refl e ⟨h2, a, b, h3, h4⟩) (.int a) (h a h4.1)⟩
theorem e_pot1 {i : Nat} (hi : env[i]? = some .pot) (h : ∀ b : Int, 0 ≤ b → b < 4294967296 → Φ (.int b)) (hK : K' = K := by with_unfolding_all rfl) : WpE K p (tOp (rIxL K') (tVar i) (tC (.int 1))) env Φ := fun H0 σ Hk H Q e po en k => by
  subst hK
  obtain ⟨ov, h1, q, rfl, rfl⟩ := en.slot i _ hi
  obtain ⟨h2, a, b, h3, h4⟩ := po
  exact ⟨.ref q, h1, q, _, 1, .int b, rfl, rfl, SqL.of h3, rfl, k _ (.int b) Hk H (Go.refl e ⟨h2, a, b, h3, h4⟩) (.int b) (h b h4.2.1 h4.2.2)⟩
theorem Go.pot {Hk H : Hp} {q : Addr} {a b : Int} (e : Ex Hk H) (po : PotOk Hk H (some q)) (h : PotB a b) : Go (some q) Hk H Hk (upd H q (.lst [.int a, .int b])) :=
  ⟨Ex.refl _, Ex.mut e po.1, fun x o n hx => by
    rw [upd_ne (fun z => n (by rw [z]))]
    exact hx, fun _ _ h => h, po.1, a, b, upd_same, h⟩
theorem s_pot1 {i : Nat} (hi : env[i]? = some .pot) (h : WpE K p te env fun d => ∃ b : Int, d = .int b ∧ 0 ≤ b ∧ b < 4294967296 ∧ O.nx env) : WpS K p (tAsg te (gSub (tVar i) (tC (.int 1)) rSetL)) env O := fun H0 Hk0 σ Hk H D g en k =>
  h H0 σ Hk H _ g.kr g.po en fun v d Hk' H' g' r ⟨b, ed, b0, b1, q⟩ => by
    subst ed
    rw [dp_int r]
    have en' := en.go g'
    obtain ⟨ov, h1, x, rfl, rfl⟩ := en'.slot i _ hi
    obtain ⟨h2, a, c, h3, h4⟩ := g'.po
    have gg := Go.pot g'.kr ⟨h2, a, c, h3, h4⟩ (show PotB a b from ⟨h4.1, b0, b1⟩)
    exact ⟨.ref x, h1, x, _, 1, 1, rfl, rfl, h3, rfl, k.nx env σ Hk' _ ((g.trans g').trans gg) (en'.go gg) q⟩
theorem s_potDig {i j : Nat} (hi : env[i]? = some .pot) (hij : i ≠ j) (h : WpE K p te env fun d => ∃ a b : Int, d = .tuple [.int a, .int b] ∧ 0 ≤ a ∧ O.nx (env.set j (.dat (.int b)))) (hK : K' = K := by with_unfolding_all rfl) : WpS K p (tAsg te (gTup K' 2 (gCons (gSub (tVar i) (tC (.int 0)) rSetL) (gCons (gName j) gNil)))) env O := fun H0 Hk0 σ Hk H D g en k => by
  subst hK
  refine h H0 σ Hk H _ g.kr g.po en fun v d Hk' H' g' r ⟨a, b, ed, a0, q⟩ => ?_
  subst ed
  obtain ⟨t, xs, rfl, hT, rx⟩ := dp_tup r
  cases rx with
  | cons r1 r2 =>
    cases r2 with
    | cons r2 r3 =>
      cases r3
      cases r1
      cases r2
      have en' := en.go g'
      obtain ⟨ov, h1, x, rfl, rfl⟩ := en'.slot i _ hi
      obtain ⟨h2, a', c, h3, h4⟩ := g'.po
      have gg := Go.pot g'.kr ⟨h2, a', c, h3, h4⟩ (show PotB a c from ⟨a0, h4.2.1, h4.2.2⟩)
      exact ⟨t, _, rfl, ex_t g'.kr hT, rfl, .int a, _, rfl, .ref x, h1, x, _, 0, 0, rfl, rfl, h3, rfl, .int b, [], rfl, rfl, k.nx _ _ Hk' _ ((g.trans g').trans gg) ((en'.go gg).set (.int b)) q⟩
theorem cb_divmod {r : List V → Hp → VK → Prop} {i j : Int} (c : CDiv i j) (h : Φ (.tuple [.int (i / j), .int (i % j)])) (hr : r = fun xs H Q => ∃ i j, xs = [.int i, .int j] ∧ CDiv i j ∧ ∀ p, H p = none → Q (.ref p) (upd H p (.tup [.int (i / j), .int (i % j)])) := by with_unfolding_all rfl) : CbD K p r [.int i, .int j] Φ := fun vs Hk H Q e po rx k => by
  subst hr
  cases rx with
  | cons r1 rr =>
    cases rr with
    | cons r2 rr =>
      cases rr
      cases r1
      cases r2
      exact ⟨i, j, rfl, c, fun q hq => k _ _ _ _ (Go.new e po hq) (.tup (SqT.of upd_same) (.cons (.int _) (.cons (.int _) .nil))) h⟩
end
end Fw
namespace Fw
open PySem PySem.Spec PyProof.Rows L2 Evl
/-! defs that hand back a new list, which the caller may change -/
def SpN (K : PySem.W.Frag) (pre : List PyData → (List PyData → Prop) → Prop) : Sp := fun vs H Q _ => ∃ (Hk : Hp) (ds : List PyData) (Φ : List PyData → Prop), Ex Hk H ∧ DxAll K Hk vs ds ∧ pre ds Φ ∧
  ∀ l us es Hk' H', Go none Hk H Hk' H' → H l = none → Hk' l = none → H' l = some (.lst us) → DxAll K Hk' us es → Φ es → Q (.ref l) H'
section
variable {K K' : PySem.W.Frag} {p : Option Addr} {env : List Slot} {Φ : PyData → Prop} {te : TE} {O : Outs}
theorem s_retF (h : WpF K p te env O.rf) : WpS K p (tRet te) env O := fun H0 Hk0 σ Hk H D g en k =>
  h H0 σ Hk H _ g.kr g.po en fun l vs ds Hk' H' g' h0 hk hl r f => k.rf l vs ds Hk' H' (g.trans g') (fresh0 g h0) hk hl r f
/-- an own list is handed back -/
theorem s_retO {i : Nat} {ds : List PyData} (hi : env[i]? = some (.own ds)) (q : O.rf ds) : WpS K p (tRet (tVar i)) env O := fun H0 Hk0 σ Hk H D g en k => by
  obtain ⟨ov, h1, l, vs, rfl, h0, hk, hp, hl, r⟩ := en.slot i _ hi
  exact ⟨.ref l, h1, k.rf l vs ds Hk H g h0 hk hl r q⟩
theorem bodyN {pre : List PyData → (List PyData → Prop) → Prop} {N : List Str} {ts : TS} {vs : List V} {H : Hp} {Q : VK} {E : XK} (s : SpN K pre vs H Q E) (h : ∀ ds Φ, pre ds Φ → WpS K none ts (ds.map .dat ++ List.replicate (N.length - ds.length) .no) ⟨fun _ => False, fun _ => False, fun _ => False, fun _ => False, Φ⟩) : ts { nx := fun _ H' => Q .non H', rt := Q } (L2.start N vs) H := by
  obtain ⟨Hk, ds, Φ, e, r, f, k⟩ := s
  exact h ds Φ f H Hk _ Hk H _ (Go.refl e True.intro) (en_start N r) ⟨fun _ _ _ _ _ _ z => z.elim, fun _ _ _ _ _ _ z => z.elim, fun _ _ _ _ _ _ z => z.elim, fun _ _ _ _ _ _ z => z.elim, fun l us es Hk' H' g h0 hk hl r q => k l us es Hk' H' g h0 hk hl r q⟩
theorem lenN {pre : List PyData → (List PyData → Prop) → Prop} {n : Nat} (h : ∀ ds Φ, pre ds Φ → ds.length = n) {vs : List V} {H : Hp} {Q : VK} {E : XK} (s : SpN K pre vs H Q E) : vs.length = n := by
  obtain ⟨Hk, ds, Φ, _, r, f, _⟩ := s
  rw [dpAll_len r]
  exact h ds Φ f
theorem f_call {pre : List PyData → (List PyData → Prop) → Prop} {E : XK} {ta : TA} {Ψ : List PyData → Prop} (h : WpA K p ta env fun ds => pre ds Ψ) : WpF K p (tCall (SpN K pre) [] E ta) env Ψ := fun H0 σ Hk H Q e po en k =>
  h H0 σ Hk H _ e po en fun vs ds Hk1 H1 g1 r f => by
    rw [List.append_nil]
    exact ⟨Hk1, ds, Ψ, g1.kr, r, f, fun l us es Hk' H' g h0 hk hl rd f' => k l us es Hk' H' (g1.trans (g.lift g1.po)) (fresh0 g1 h0) hk hl rd f'⟩
/-- the pot is made: a call with a new list of two ints -/
theorem e_callPot {pre : List PyData → (PyData → Prop) → Prop} {E : XK} (h : WpF K none te env fun ds => ∃ a b : Int, ds = [.int a, .int b] ∧ PotB a b ∧ pre [] Φ) : WpE K none (tCall (SpG K pre) [] E (tCons te tNil)) env Φ := fun H0 σ Hk H Q e po en k =>
  h H0 σ Hk H _ e po en fun l vs ds Hk1 H1 g1 h0 hk hl r ⟨a, b, ed, pb, f⟩ => by
    subst ed
    have ev : vs = [.int a, .int b] := by
      cases r with
      | cons r1 r2 =>
        cases r2 with
        | cons r2 r3 =>
          cases r3
          cases r1
          cases r2
          rfl
    subst ev
    refine ⟨l, [], Hk1, [], Φ, rfl, g1.kr, ⟨hk, a, b, hl, pb⟩, .nil, f, fun v d Hk' H' g rd f' => k v d Hk' H' ?_ rd f'⟩
    refine ⟨g1.kk.trans g.kk, g.kr, fun x o _ hx => ?_, fun x hx hn => ?_, True.intro⟩
    · have hx1 := g1.rr x o (fun z => nomatch z) hx
      exact g.rr x o (fun z => by cases z; rw [h0] at hx; cases hx) hx1
    · exact g.nk x (g1.live hx) (g1.nk x hx hn)
end
/-- the law's own def -/
abbrev pre_law : List PyData → (PyData → Prop) → Prop := fun ds Φ => ∃ ns : List Int, ds = [.list (ns.map .int)] ∧ ns.length ≤ 63 ∧ Φ (.bool true)
theorem lawProm {K : PySem.W.Frag} {H : Hp} {a : Addr} {ns : List Int} (hn : ns.length ≤ 63) (h : SqL K H a (ns.map V.int)) : SpF K pre_law [.ref a] H (fun v _ => v = .bl true) fun _ _ _ => False := by
  refine ⟨H, [.list (ns.map .int)], fun d => d = .bool true, Ex.refl _, .cons (.lst h ?_) .nil, ⟨ns, rfl, hn, rfl⟩, fun v d Hk' H' g rd e => ?_⟩
  · induction ns with
    | nil => exact .nil
    | cons n ns ih => exact .cons (.int n) (ints_all ns)
  · subst e
    exact dp_bl rd
where
  ints_all : ∀ ns : List Int, DxAll K H (ns.map V.int) (ns.map .int)
    | [] => .nil
    | n :: ns => .cons (.int n) (ints_all ns)
end Fw
/-! order of data, sorted of data, as rules over data -/
namespace FwS
open PySem PySem.Spec PyProof.Rows L2
def rOrd (K : PySem.W.Frag) (f : PyData → PyData → Bool) : R2 := fun x y H Q => ∃ d e, Dp K H x d ∧ Dp K H y e ∧ PySem.W.alike d e = true ∧ d ≠ .none ∧ d.depth ≤ 60 ∧ Q (.bl (f d e)) H
section
variable {X : Cx}
theorem roomD {d e : PyData} (hd : d.depth ≤ 60) (hu : X.A.units + 64 < cLine) : X.A.units + min d.depth e.depth < cLine := by
  have := Nat.min_le_left d.depth e.depth
  omega
theorem op_ltD (hu : X.A.units + 64 < cLine) : OpR X (compareOp .Lt) (rOrd X.K PySem.W.dataLt) := fun pins s σ H x y v u Q I rx ry h => by
  obtain ⟨d, e, hd, he, al, nn, dp, q⟩ := h
  obtain ⟨_, r1⟩ := Dp.reads I d x v hd rx
  obtain ⟨_, r2⟩ := Dp.reads I e y u he ry
  exact PySem.W.lt_data r1 r2 al nn (roomD dp hu) ⟨.bl _, H, I, rfl, q⟩
theorem op_gtD (hu : X.A.units + 64 < cLine) : OpR X (compareOp .Gt) (rOrd X.K fun d e => PySem.W.dataLt e d) := fun pins s σ H x y v u Q I rx ry h => by
  obtain ⟨d, e, hd, he, al, nn, dp, q⟩ := h
  obtain ⟨_, r1⟩ := Dp.reads I d x v hd rx
  obtain ⟨_, r2⟩ := Dp.reads I e y u he ry
  exact PySem.W.gt_data r1 r2 al nn (roomD dp hu) ⟨.bl _, H, I, rfl, q⟩
theorem op_leD (hu : X.A.units + 64 < cLine) : OpR X (compareOp .LtE) (rOrd X.K fun d e => !PySem.W.dataLt e d) := fun pins s σ H x y v u Q I rx ry h => by
  obtain ⟨d, e, hd, he, al, nn, dp, q⟩ := h
  obtain ⟨_, r1⟩ := Dp.reads I d x v hd rx
  obtain ⟨_, r2⟩ := Dp.reads I e y u he ry
  exact PySem.W.le_data r1 r2 al nn (roomD dp hu) ⟨.bl _, H, I, rfl, q⟩
theorem op_geD (hu : X.A.units + 64 < cLine) : OpR X (compareOp .GtE) (rOrd X.K fun d e => !PySem.W.dataLt d e) := fun pins s σ H x y v u Q I rx ry h => by
  obtain ⟨d, e, hd, he, al, nn, dp, q⟩ := h
  obtain ⟨_, r1⟩ := Dp.reads I d x v hd rx
  obtain ⟨_, r2⟩ := Dp.reads I e y u he ry
  exact PySem.W.ge_data r1 r2 al nn (roomD dp hu) ⟨.bl _, H, I, rfl, q⟩
/-- items that stand for data, in the heap's words and in the layer's -/
abbrev Both (R : V → PyData → Prop) : Value → PyData → Prop := fun v d => ∃ x, RelV x v ∧ R x d
theorem both_of {R : V → PyData → Prop} : ∀ {xs : List V} {us : List Value} {ds : List PyData}, Vals xs us → Paired R xs ds → PySem.W.EachIs (Both R) us ds
  | _, _, _, .nil, h => by
    cases h
    exact .nil
  | _, _, _, .cons r rr, h => by
    cases h with
    | cons h t => exact .cons ⟨_, r, h⟩ (both_of rr t)
theorem of_both {R : V → PyData → Prop} : ∀ {us : List Value} {ds : List PyData}, PySem.W.EachIs (Both R) us ds → ∃ xs, Vals xs us ∧ Paired R xs ds
  | _, _, .nil => ⟨[], .nil, .nil⟩
  | _, _, .cons ⟨x, r, h⟩ t => by
    obtain ⟨xs, rr, hh⟩ := of_both t
    exact ⟨x :: xs, .cons r rr, .cons h hh⟩
theorem lenP {R : V → PyData → Prop} : ∀ {xs : List V} {ds : List PyData}, Paired R xs ds → xs.length = ds.length
  | _, _, .nil => rfl
  | _, _, .cons _ t => congrArg Nat.succ (lenP t)
def sortD (ds : List PyData) : List PyData := ds.mergeSort (PySem.W.dataLe false fun d : PyData => d)
def rSortD (K : PySem.W.Frag) : List V → Hp → VK → Prop := fun vs H Q => ∃ (a : Addr) (xs : List V) (ds : List PyData) (R : V → PyData → Prop), vs = [.ref a] ∧ SqL K H a xs ∧ Paired R xs ds ∧ (∀ x d, R x d → Dp K H x d) ∧ PySem.W.AllAlike ds ∧ PySem.W.Sortable ds ∧ (∀ d ∈ ds, d.depth ≤ 60) ∧
  ∀ ys p, Paired R ys (sortD ds) → H p = none → Q (.ref p) (upd H p (.lst ys))
theorem cr_sortedD (hu : X.A.units + 64 < cLine) : CallR X (.builtin "sorted") (rSortD X.K) := fun pins s σ H vs us Q I r h => by
  obtain ⟨a, xs, ds, R, rfl, hs, hd, hR, al, so, dp, q⟩ := h
  obtain ⟨u, rfl, ru⟩ := vals1 r
  cases ru
  obtain ⟨its, rv, hl, hz⟩ := I.list hs
  have lenD : xs.length = ds.length := lenP hd
  have bo := both_of rv hd
  have rd : PySem.W.EachIs (fun v d => ∃ as, Reads s.heap v d as) its ds := bo.mono fun v d ⟨x, rx, hx⟩ => Dp.reads I d x v (hR x d hx) rx
  have e0 : ds.map (fun d : PyData => d) = ds := List.map_id' ds
  refine PySem.W.sorted_data (enc := fun d : PyData => d) hl.isList bo rd (by rw [e0]; exact al) (by rw [e0]; exact so) (by rw [← lenD]; exact hz) (fun d m => ?_) fun out ho hb => ?_
  · have := dp d m
    show X.A.units + 2 + d.depth < cLine
    omega
  · obtain ⟨ys, ry, hy⟩ := of_both hb
    obtain ⟨n, hn⟩ := sortedAll_at s.heap its out.toArray
    have hd0 : H (s.heap.objs.size + 1) = none := I.hok.fresh (Nat.le_succ _)
    refine ⟨.ref (s.heap.objs.size + 1), upd H (s.heap.objs.size + 1) (.lst ys), I.laid (t' := s.toks) (fun b o e => sortedAll_old e) (Nat.le_succ _) ⟨?_, out, n, ry, hn⟩, rfl, q ys _ hy hd0⟩
    rw [ry.length, ho, ← lenD]
    exact hz
end
end FwS
/-! dicts whose keys are tuples of ints, and tuples of such: the object itself is known -/
namespace FwD
open PySem PySem.Spec PyProof.Rows L2
mutual
theorem key_hash (w w' : World) : ∀ (d : PyData) (k : NestedKey), keyT d = some k → k.hash w = k.hash w'
  | .int i, k, h => by
    cases h
    rfl
  | .tuple ds, k, h => by
    obtain ⟨ks, hk, rfl⟩ := Option.map_eq_some_iff.mp (show (keyTs ds).map NestedKey.tup = some k from h)
    show reduceHash (Builtin.Tuple.tupleHashOf (NestedKey.hashes w ks)) = reduceHash (Builtin.Tuple.tupleHashOf (NestedKey.hashes w' ks))
    rw [keys_hash w w' ds ks hk]
  | .none, _, h => nomatch h
  | .bool _, _, h => nomatch h
  | .str _, _, h => nomatch h
  | .list _, _, h => nomatch h
  | .dict _, _, h => nomatch h
theorem keys_hash (w w' : World) : ∀ (ds : List PyData) (ks : List NestedKey), keyTs ds = some ks → NestedKey.hashes w ks = NestedKey.hashes w' ks
  | [], ks, h => by
    cases h
    rfl
  | d :: ds, ks, h => by
    obtain ⟨k, hk, h2⟩ := Option.bind_eq_some_iff.mp (show ((keyT d).bind fun k => (keyTs ds).map fun ks => k :: ks) = some ks from h)
    obtain ⟨ls, hl, rfl⟩ := Option.map_eq_some_iff.mp h2
    show NestedKey.hash w k :: NestedKey.hashes w ls = NestedKey.hash w' k :: NestedKey.hashes w' ls
    rw [key_hash w w' d k hk, keys_hash w w' ds ls hl]
end
mutual
theorem key_is {h : Heap} : ∀ (d : PyData) (k : NestedKey) (v : Value) (as : List Addr), keyT d = some k → Reads h v d as → NestedIs h k v
  | .int i, k, v, as, hk, r => by
    cases hk
    cases r
    exact .int _ _
  | .tuple ds, k, v, as, hk, r => by
    obtain ⟨ks, h2, rfl⟩ := Option.map_eq_some_iff.mp (show (keyTs ds).map NestedKey.tup = some k from hk)
    cases r with
    | tuple g1 g2 g3 g4 => exact .tup g1 g2 g3 (keys_is ds ks _ _ h2 g4)
  | .none, _, _, _, h, _ => nomatch h
  | .bool _, _, _, _, h, _ => nomatch h
  | .str _, _, _, _, h, _ => nomatch h
  | .list _, _, _, _, h, _ => nomatch h
  | .dict _, _, _, _, h, _ => nomatch h
theorem keys_is {h : Heap} : ∀ (ds : List PyData) (ks : List NestedKey) (vs : List Value) (as : List Addr), keyTs ds = some ks → ReadsAll h vs ds as → NestedAll h ks vs
  | [], ks, vs, as, hk, r => by
    cases hk
    cases r
    exact .nil
  | d :: ds, ks, vs, as, hk, r => by
    obtain ⟨k, h1, h2⟩ := Option.bind_eq_some_iff.mp (show ((keyT d).bind fun k => (keyTs ds).map fun ks => k :: ks) = some ks from hk)
    obtain ⟨ls, h3, rfl⟩ := Option.map_eq_some_iff.mp h2
    cases r with
    | cons r1 r2 => exact .cons (key_is d k _ _ h1 r1) (keys_is ds ls _ _ h3 r2)
end
mutual
theorem key_eqv : ∀ (d e : PyData) (k l : NestedKey), keyT d = some k → keyT e = some l → PyData.eqv d e = decide (k = l)
  | .int i, .int j, k, l, h1, h2 => by
    cases h1
    cases h2
    show (i == j) = decide (NestedKey.num i = NestedKey.num j)
    by_cases e : i = j
    · subst e
      simp
    · rw [decide_eq_false (fun z => e (NestedKey.num.inj z))]
      simpa using e
  | .int i, .tuple es, k, l, h1, h2 => by
    cases h1
    obtain ⟨ls, h3, rfl⟩ := Option.map_eq_some_iff.mp (show (keyTs es).map NestedKey.tup = some l from h2)
    rw [decide_eq_false (fun z => nomatch z)]
    rfl
  | .tuple ds, .int j, k, l, h1, h2 => by
    cases h2
    obtain ⟨ks, h3, rfl⟩ := Option.map_eq_some_iff.mp (show (keyTs ds).map NestedKey.tup = some k from h1)
    rw [decide_eq_false (fun z => nomatch z)]
    rfl
  | .tuple ds, .tuple es, k, l, h1, h2 => by
    obtain ⟨ks, h3, rfl⟩ := Option.map_eq_some_iff.mp (show (keyTs ds).map NestedKey.tup = some k from h1)
    obtain ⟨ls, h4, rfl⟩ := Option.map_eq_some_iff.mp (show (keyTs es).map NestedKey.tup = some l from h2)
    show PyData.eqvAll ds es = _
    rw [keys_eqv ds es ks ls h3 h4]
    exact decide_eq_decide.mpr ⟨fun z => by rw [z], fun z => NestedKey.tup.inj z⟩
  | .none, _, _, _, h, _ => nomatch h
  | .bool _, _, _, _, h, _ => nomatch h
  | .str _, _, _, _, h, _ => nomatch h
  | .list _, _, _, _, h, _ => nomatch h
  | .dict _, _, _, _, h, _ => nomatch h
  | .int _, .none, _, _, _, h => nomatch h
  | .int _, .bool _, _, _, _, h => nomatch h
  | .int _, .str _, _, _, _, h => nomatch h
  | .int _, .list _, _, _, _, h => nomatch h
  | .int _, .dict _, _, _, _, h => nomatch h
  | .tuple _, .none, _, _, _, h => nomatch h
  | .tuple _, .bool _, _, _, _, h => nomatch h
  | .tuple _, .str _, _, _, _, h => nomatch h
  | .tuple _, .list _, _, _, _, h => nomatch h
  | .tuple _, .dict _, _, _, _, h => nomatch h
theorem keys_eqv : ∀ (ds es : List PyData) (ks ls : List NestedKey), keyTs ds = some ks → keyTs es = some ls → PyData.eqvAll ds es = decide (ks = ls)
  | [], [], _, _, h1, h2 => by
    cases h1
    cases h2
    rfl
  | [], e :: es, ks, ls, h1, h2 => by
    cases h1
    obtain ⟨l, _, h3⟩ := Option.bind_eq_some_iff.mp (show ((keyT e).bind fun k => (keyTs es).map fun ks => k :: ks) = some ls from h2)
    obtain ⟨ls, _, rfl⟩ := Option.map_eq_some_iff.mp h3
    rw [decide_eq_false (fun z => nomatch z)]
    rfl
  | d :: ds, [], ks, ls, h1, h2 => by
    cases h2
    obtain ⟨l, _, h3⟩ := Option.bind_eq_some_iff.mp (show ((keyT d).bind fun k => (keyTs ds).map fun ks => k :: ks) = some ks from h1)
    obtain ⟨ls, _, rfl⟩ := Option.map_eq_some_iff.mp h3
    rw [decide_eq_false (fun z => nomatch z)]
    rfl
  | d :: ds, e :: es, ks, ls, h1, h2 => by
    obtain ⟨k, a1, a2⟩ := Option.bind_eq_some_iff.mp (show ((keyT d).bind fun k => (keyTs ds).map fun ks => k :: ks) = some ks from h1)
    obtain ⟨ks, a3, rfl⟩ := Option.map_eq_some_iff.mp a2
    obtain ⟨l, b1, b2⟩ := Option.bind_eq_some_iff.mp (show ((keyT e).bind fun k => (keyTs es).map fun ks => k :: ks) = some ls from h2)
    obtain ⟨ls, b3, rfl⟩ := Option.map_eq_some_iff.mp b2
    show (PyData.eqv d e && PyData.eqvAll ds es) = _
    rw [key_eqv d e k l a1 b1, keys_eqv ds es ks ls a3 b3]
    by_cases x : k = l
    · subst x
      by_cases y : ks = ls
      · subst y
        simp
      · rw [decide_eq_false y, decide_eq_false (fun z => y (List.cons.inj z).2)]
        simp
    · rw [decide_eq_false x, decide_eq_false (fun z => x (List.cons.inj z).1)]
      simp
end
/-! ### the dict at l -/
/-- an entry: its key as data, its value; the key's sign, its tuple, the value. Rk, Rv: what tuple, what value stand for them -/
def Ent (Rk : PyData → Addr → Prop) (Rv : PyData → Value → Prop) (p : PyData × PyData) (q : NestedKey × Addr × Value) : Prop := keyT p.1 = some q.1 ∧ q.1.depth ≤ 8 ∧ Rk p.1 q.2.1 ∧ Rv p.2 q.2.2
def DicAt (Rk : PyData → Addr → Prop) (Rv : PyData → Value → Prop) (H : Hp) (l : Addr) (kvs : List (PyData × PyData)) : Prop := ∃ (o : Obj) (es : Array DictEntry) (ep : Nat) (xs : List (NestedKey × Addr × Value)),
  H l = some (exact l o) ∧ (l == sysModules) = false ∧ o.ExactDict ∧ o.data = .dict es ep ∧ (∀ w, es.toList = xs.map (entryW w)) ∧ (xs.map (·.1)).Nodup ∧ kvs.length ≤ sizeLine ∧ Paired (Ent Rk Rv) kvs xs
def hasD (kvs : List (PyData × PyData)) (d : PyData) : Bool := kvs.any fun p => PyData.eqv p.1 d
/-- d[k] = z -/
def putD (kvs : List (PyData × PyData)) (d z : PyData) : List (PyData × PyData) := if hasD kvs d = true then kvs.map (fun p => if PyData.eqv p.1 d = true then (p.1, z) else p) else kvs ++ [(d, z)]
theorem putD_len (kvs : List (PyData × PyData)) (d z : PyData) : (putD kvs d z).length ≤ kvs.length + 1 := by
  unfold putD
  split
  · rw [List.length_map]
    omega
  · rw [List.length_append]
    exact Nat.le_refl _
section
variable {X : Cx} {pins : List (Addr × Obj)} {σ : L2.St} {H : Hp} {s : Shared} {A : Around} {E : Value → Shared → Prop} {l : Addr} {kvs : List (PyData × PyData)} {Rk : PyData → Addr → Prop} {Rv : PyData → Value → Prop}
theorem ents_is (I : Inv X pins σ H s) (rk : ∀ d a, Rk d a → Dp X.K H (.ref a) d) : ∀ {kvs : List (PyData × PyData)} {xs : List (NestedKey × Addr × Value)}, Paired (Ent Rk Rv) kvs xs → ∀ x ∈ xs, (nestedKind X.prog X.w).is s.heap x.1 x.2.1
  | _, _, .nil, x, hx => nomatch hx
  | _, _, .cons h t, x, hx => by
    rcases List.mem_cons.mp hx with e | hx
    · subst e
      obtain ⟨as, r⟩ := Dp.reads I _ _ (.ref x.2.1) (rk _ _ h.2.2.1) rfl
      exact ⟨key_is _ _ _ _ h.1 r, h.2.1⟩
    · exact ents_is I rk t x hx
theorem dic_of (I : Inv X pins σ H s) (rk : ∀ d a, Rk d a → Dp X.K H (.ref a) d) (D : DicAt Rk Rv H l kvs) : ∃ (o : Obj) (xs : List (NestedKey × Addr × Value)), H l = some (exact l o) ∧ (l == sysModules) = false ∧ Paired (Ent Rk Rv) kvs xs ∧ s.heap.DictOfH (nestedKind X.prog X.w) l xs ∧ s.heap.get? l = some o := by
  obtain ⟨o, es, ep, xs, e1, e2, e3, e4, e5, e6, e7, e8⟩ := D
  have g : s.heap.get? l = some o := (show ObjOk X.prog X.w H s.heap l (exact l o) from I.hok l _ e1).1
  exact ⟨o, xs, e1, e2, e8, ⟨o, es, ep, g, e3, e4, e5 X.w, ents_is I rk e8, e6⟩, g⟩
theorem paired_len {α β : Type} {F : α → β → Prop} : ∀ {l : List α} {m : List β}, Paired F l m → l.length = m.length
  | _, _, .nil => rfl
  | _, _, .cons _ t => congrArg Nat.succ (paired_len t)
theorem ents_has : ∀ {kvs : List (PyData × PyData)} {xs : List (NestedKey × Addr × Value)}, Paired (Ent Rk Rv) kvs xs → ∀ {d : PyData} {k : NestedKey}, keyT d = some k → hasD kvs d = (atKey xs k).isSome
  | _, _, .nil, _, _, _ => rfl
  | _, _, .cons (a := p) (b := q) (l₁ := ps) (l₂ := qs) h t, d, k, hk => by
    have ih := ents_has t hk
    show (PyData.eqv p.1 d || hasD ps d) = _
    rw [key_eqv _ _ _ _ h.1 hk]
    obtain ⟨q1, q2, q3⟩ := q
    by_cases z : q1 = k
    · rw [decide_eq_true z]
      simp [atKey, z]
    · rw [decide_eq_false z, ih]
      simp [atKey, z]
end
end FwD
namespace FwD
open PySem PySem.Spec PyProof.Rows L2
section
variable {Rk : PyData → Addr → Prop} {Rv : PyData → Value → Prop}
theorem ents_map {d z : PyData} {k : NestedKey} {u : Value} (hk : keyT d = some k) (rv : Rv z u) : ∀ {kvs : List (PyData × PyData)} {xs : List (NestedKey × Addr × Value)}, Paired (Ent Rk Rv) kvs xs →
    Paired (Ent Rk Rv) (kvs.map fun p => if PyData.eqv p.1 d = true then (p.1, z) else p) (xs.map (putAt k u))
  | _, _, .nil => .nil
  | _, _, .cons (a := p) (b := q) h t => by
    refine .cons ?_ (ents_map hk rv t)
    obtain ⟨q1, q2, q3⟩ := q
    show Ent Rk Rv (if PyData.eqv p.1 d = true then (p.1, z) else p) _
    rw [key_eqv _ _ _ _ h.1 hk]
    by_cases e : q1 = k
    · rw [if_pos (decide_eq_true e)]
      have e2 : putAt k u (q1, q2, q3) = (q1, q2, u) := if_pos e
      rw [e2]
      exact ⟨h.1, h.2.1, h.2.2.1, rv⟩
    · rw [if_neg (by rw [decide_eq_false e]; exact Bool.false_ne_true)]
      have e2 : putAt k u (q1, q2, q3) = (q1, q2, q3) := if_neg e
      rw [e2]
      exact h
theorem paired_snoc {α β : Type} {F : α → β → Prop} {a : α} {b : β} (h : F a b) : ∀ {l : List α} {m : List β}, Paired F l m → Paired F (l ++ [a]) (m ++ [b])
  | _, _, .nil => .cons h .nil
  | _, _, .cons r t => .cons r (paired_snoc h t)
theorem ents_put {d z : PyData} {k : NestedKey} {a : Addr} {u : Value} (hk : keyT d = some k) (dp : k.depth ≤ 8) (hd : Rk d a) (rv : Rv z u) {kvs : List (PyData × PyData)} {xs : List (NestedKey × Addr × Value)} (r : Paired (Ent Rk Rv) kvs xs) :
    Paired (Ent Rk Rv) (putD kvs d z) (storedH xs k a u) := by
  have e : hasD kvs d = (atKey xs k).isSome := by
    have key : ∀ {kvs : List (PyData × PyData)} {xs : List (NestedKey × Addr × Value)}, Paired (Ent Rk Rv) kvs xs → hasD kvs d = (atKey xs k).isSome := by
      intro kvs xs r
      induction r with
      | nil => rfl
      | @cons p q ps qs h t ih =>
        show (PyData.eqv p.1 d || hasD ps d) = _
        rw [key_eqv _ _ _ _ h.1 hk]
        obtain ⟨q1, q2, q3⟩ := q
        by_cases z : q1 = k
        · rw [decide_eq_true z]
          simp [atKey, z]
        · rw [decide_eq_false z, ih]
          simp [atKey, z]
    exact key r
  unfold putD storedH
  rw [e]
  by_cases q : (atKey xs k).isSome = true
  · rw [if_pos q, if_pos q]
    exact ents_map hk rv r
  · rw [if_neg q, if_neg q]
    exact paired_snoc ⟨hk, dp, hd, rv⟩ r
theorem ents_hash {w w' : World} : ∀ {kvs : List (PyData × PyData)} {xs : List (NestedKey × Addr × Value)}, Paired (Ent Rk Rv) kvs xs → xs.map (entryW w) = xs.map (entryW w')
  | _, _, .nil => rfl
  | _, _, .cons (b := q) (l₂ := qs) h t => by
    show entryW w q :: qs.map (entryW w) = entryW w' q :: qs.map (entryW w')
    rw [ents_hash (w := w) (w' := w') t]
    congr 1
    unfold entryW
    rw [key_hash w w' _ _ h.1]
end
section
variable {X : Cx} {pins : List (Addr × Obj)} {σ : L2.St} {H : Hp} {s : Shared} {A : Around} {E : Value → Shared → Prop} {l : Addr} {kvs : List (PyData × PyData)} {Rk : PyData → Addr → Prop} {Rv : PyData → Value → Prop}
/-- the new object behind a change of the dict alone -/
theorem dic_new (I : Inv X pins σ H s) {o : Obj} (hl : H l = some (exact l o)) (nm : (l == sysModules) = false) {h' : Heap} {t' : Nat} {xs : List (NestedKey × Addr × Value)} {kvs' : List (PyData × PyData)} (sb : Heap.SameBut l s.heap h') (dd : h'.DictOfH (nestedKind X.prog X.w) l xs)
    (hz : kvs'.length ≤ sizeLine) (r : Paired (Ent Rk Rv) kvs' xs) : ∃ u, Inv X pins σ (upd H l u) { s with heap := h', toks := t' } ∧ DicAt Rk Rv (upd H l u) l kvs' := by
  obtain ⟨o', es, ep, g, e3, e4, e5, _, e6⟩ := dd
  refine ⟨exact l o', I.write (x := l) (e := l) (by rw [hl]; exact True.intro) (.inl rfl) (fun b q hb z => (sb.2 b hb).trans z) ⟨o', g⟩ ⟨g, ⟨o', g⟩, fun h1 h2 q k => k _ q⟩, o', es, ep, xs, upd_same, nm, e3, e4, fun w => ?_, e6, hz, r⟩
  rw [e5]
  exact ents_hash r
theorem d_putX {y zv : V} {u r : Value} {d z : PyData} {k : NestedKey} (hu : A.units + 8 < cLine) (I : Inv X pins σ H s) (rk : ∀ d a, Rk d a → Dp X.K H (.ref a) d) (D : DicAt Rk Rv H l kvs) (hy : Dp X.K H y d) (hk : keyT d = some k) (hn : ∀ i, d ≠ .int i) (dp : k.depth ≤ 8) (ry : RelV y u) (rz : RelV zv r)
    (ky : ∀ a, y = .ref a → Rk d a) (kz : ∀ r, RelV zv r → Rv z r) (hz : kvs.length < sizeLine) {Q : Unit → Shared → Prop} (h : ∀ s' v, Inv X pins σ (upd H l v) s' → DicAt Rk Rv (upd H l v) l (putD kvs d z) → Q () s') : wpAny (model X.prog X.w) A (dictSet l u r) Q E s := by
  obtain ⟨a, rfl⟩ : ∃ a, y = .ref a := by
    cases d with
    | int i => exact absurd rfl (hn i)
    | tuple ds =>
      cases hy
      exact ⟨_, rfl⟩
    | _ => cases hk
  cases ry
  obtain ⟨o, xs, e1, e2, e8, dd, g⟩ := dic_of I rk D
  obtain ⟨as, rd⟩ := Dp.reads I _ _ (.ref a) hy rfl
  refine wpAny_dictSet_heap (hsz := by rw [← paired_len e8]; omega) (show (nestedKind X.prog X.w).room A from hu) ⟨key_is _ _ _ _ hk rd, dp⟩ dd fun h' dd' sb => ?_
  obtain ⟨v, I', D'⟩ := dic_new (t' := s.toks + (nestedKind X.prog X.w).draws k) I e1 e2 sb dd' (by have := putD_len kvs d z; omega) (ents_put hk dp (ky a rfl) (kz r rz) e8)
  exact h _ v I' D'
/-- len(d) -/
theorem call_lenX : CallR X (.builtin "len") (fun xs H Q => ∃ (p : Addr) (kvs : List (PyData × PyData)) (Rk : PyData → Addr → Prop) (Rv : PyData → Value → Prop), xs = [.ref p] ∧ DicAt Rk Rv H p kvs ∧ (∀ d a, Rk d a → Dp X.K H (.ref a) d) ∧ Q (.int kvs.length) H) := fun pins s σ H xs us Q I r h => by
  obtain ⟨p, kvs, Rk, Rv, rfl, D, rk, q⟩ := h
  obtain ⟨u, rfl, ru⟩ := vals1 r
  cases ru
  obtain ⟨o, xs, e1, e2, e8, dd, g⟩ := dic_of I rk D
  have hl : kvs.length = xs.length := paired_len e8
  have hz : kvs.length ≤ sizeLine := D.choose_spec.choose_spec.choose_spec.choose_spec.2.2.2.2.2.2.1
  refine call_len_dictH e2 dd ?_ ⟨.int kvs.length, H, I.tok _, ⟨s.toks + 1, by rw [hl]⟩, q⟩
  rw [← hl]
  have := sizeLine_eq
  omega
end
/-- an empty dict as it is made -/
theorem dic_empty {Rk : PyData → Addr → Prop} {Rv : PyData → Value → Prop} {H : Hp} {l : Addr} (nm : (l == sysModules) = false) : DicAt Rk Rv (upd H l (exact l { cls := .type "dict", data := .dict #[] })) l [] :=
  ⟨{ cls := .type "dict", data := .dict #[] }, #[], 0, [], upd_same, nm, ⟨rfl, rfl, rfl⟩, rfl, fun _ => rfl, List.Pairwise.nil, Nat.zero_le _, .nil⟩
end FwD
/-! {k: v for .. in .. if ..} with such keys -/
namespace FwD
open PySem PySem.Spec PyProof.Rows L2
section
variable {X : Cx}
/-- one turn's end: the key y, the value zv, put into the dict at D -/
def PutX (K : PySem.W.Frag) (D : Addr) (y zv : V) (H : Hp) (Nx : Hp → Prop) : Prop := ∃ (Rk : PyData → Addr → Prop) (Rv : PyData → Value → Prop) (kvs : List (PyData × PyData)) (d z : PyData) (k : NestedKey), DicAt Rk Rv H D kvs ∧ (∀ d a, Rk d a → Dp K H (.ref a) d) ∧ Dp K H y d ∧ keyT d = some k ∧ (∀ i, d ≠ .int i) ∧ k.depth ≤ 8 ∧
  (∀ a, y = .ref a → Rk d a) ∧ (∀ r, RelV zv r → Rv z r) ∧ kvs.length < sizeLine ∧ ∀ v, DicAt Rk Rv (upd H D v) D (putD kvs d z) → Nx (upd H D v)
/-- a turn, from the walked item x -/
def TurnX (K : PySem.W.Frag) (g : TG) (tt : TT) (tk tv : TE) (vs : List Nat) (σ : L2.St) (D : Addr) (Nx : Hp → Prop) (x : V) (H : Hp) : Prop := g x (wipe σ vs) H fun σ2 H2 => wipe σ2 vs = wipe σ vs ∧
  tt σ2 H2 fun b H3 => if b = true then tk σ2 H3 fun y H4 => tv σ2 H4 fun z H5 => PutX K D y z H5 Nx else Nx H3
def tDcX (K : PySem.W.Frag) (wi : TI) (g : TG) (tt : TT) (tk tv : TE) (vs : List Nat) : TE := fun σ H Q => wi σ H fun J H1 =>
  ∀ D u0, H1 D = none → (∀ Rk Rv, DicAt Rk Rv (upd H1 D u0) D []) → ∃ W : Nat → Nat → Hp → Prop, (∃ m, W 0 m (upd H1 D u0)) ∧
    ∀ i m H, W i m H → (J.stop i H ∧ Q (.ref D) H) ∨ (J.go i H ∧ ∃ Nx : Hp → Prop, (∀ H', Nx H' → ∃ m', m' < m ∧ W (i + 1) m' H') ∧ ∀ x H', J.yld i H x H' → TurnX K g tt tk tv vs σ D Nx x H')
abbrev BlkFor (X : Cx) (scope : Scope) (J : Cx → Prop) : Prop := ∀ (s : Shared) (H : Hp) (C : Addr) (cl : List (Str × Addr)) (fp : List Addr), J (X.blk s H scope (compEnvC scope cl C X.env) fp)
theorem dcX_core {pins : List (Addr × Obj)} {s : Shared} {σ : L2.St} {H : Hp} {Q : VK} {kx vx tg iter : Expr} {ifs : List Expr} {scope : Scope} {own : List (Str × Nat)} {pos pos' : Pos} {wi : TI} {g : TG} {tt : TT} {tk tv : TE}
    {use : Option (Value → Sem Unit)} {Qf : Value → Shared → Prop} (hu : X.A.units + 64 < cLine) (calm : X.calm = true) (nd : X.N.Nodup) (I : Inv X pins σ H s) (hi : PI X tg iter wi) (ok : BlkOk X.N X.env.scope scope own)
    (pg : BlkFor X scope fun Y => PG Y tg g) (pt : BlkFor X scope fun Y => PTs Y ifs tt) (pk : BlkFor X scope fun Y => PE Y kx tk) (pv : BlkFor X scope fun Y => PE Y vx tv)
    (fold : ∀ x, foldedSetIterable iter X.env x = pure x) (rd : tDcX X.K wi g tt tk tv (own.map (·.2)) σ H Q)
    (post : ∀ D C s' m H', Inv X pins σ H' s' → Q (.ref D) H' → s'.heap.Ns C m → FpOk X pins H' C → compPost (model X.prog X.w) X.A X.xe use Qf (.ref D) C (.ok .next) s') :
    wpAny (model X.prog X.w) X.A (comprehension (.DictComp kx vx [⟨tg, iter, ifs, 0⟩] scope pos) scope X.env pos' newDict false (eval iter X.env) use) Qf X.xe s := by
  have free : ∀ y ∈ scope.names, y.2 = .free → ∃ c, X.env.cells.lookup y.1 = some c := by
    intro y hy e
    rcases ok.free y hy e with z | z
    · exact I.ok.has _ (.inl z)
    · exact I.ok.has _ (.inr z)
  refine wpAny_comprehension_free (use := use) rfl fold (closure_ok free) ok.kind (fun y hy e => by rw [ok.uniq y hy, e]) (thn (hi.run pins s σ H _ I rd) fun xv sa ha => thn ha fun itv sb hb => ?_)
  obtain ⟨it, fp, tn, J, Hb, e, Ib, T, stb, fb, q⟩ := hb
  subst e
  refine wpAny_newObj_type (newEnv_comp ?_)
  generalize hD : sb.heap.objs.size = D
  have fresh : Hb D = none := Ib.hok.fresh (Nat.le_of_eq hD)
  have nm : (D == sysModules) = false := by
    have b := Ib.big
    rw [hD] at b
    exact beq_eq_false_iff_ne.mpr (Nat.ne_of_gt b)
  obtain ⟨W, ⟨m0, w0⟩, turn⟩ := q D (exact D { cls := .type "dict", data := .dict #[] }) fresh (fun _ _ => dic_empty nm)
  generalize hc : ({ sb with heap := sb.heap.push { cls := .type "dict", data := .dict #[] } } : Shared) = sc
  have at0 : (sb.heap.push { cls := .type "dict", data := .dict #[] }).get? D = some { cls := .type "dict", data := .dict #[] } := by
    rw [← hD]
    exact Heap.get?_push_size _ rfl
  have Ic : Inv X pins σ (upd Hb D (exact D { cls := .type "dict", data := .dict #[] })) sc := by
    rw [← hc]
    exact Ib.laid (t' := sb.toks) (fun b o e => Heap.get?_push_of_some _ e) (Nat.le_of_eq hD) ⟨at0, ⟨_, at0⟩, fun h1 h2 a k => k _ a⟩
  have hpc : sc.heap = sb.heap.push { cls := .type "dict", data := .dict #[] } := by rw [← hc]
  have below : ∀ b ∈ fp, b < sb.heap.objs.size := by
    intro b hb
    obtain ⟨o, e, _⟩ := T.obj _ _ stb b hb
    exact Heap.lt_size e
  have fc : ∀ b ∈ fp, FpOk X pins (upd Hb D (exact D { cls := .type "dict", data := .dict #[] })) b ∧ b < sc.heap.objs.size := by
    intro b hb
    have lt := below b hb
    refine ⟨⟨?_, (fb b hb).2⟩, ?_⟩
    · rw [upd_ne (by rw [← hD]; exact Nat.ne_of_lt lt)]
      exact (fb b hb).1
    · rw [hpc, Heap.size_push]
      exact Nat.lt_succ_of_lt lt
  have stc : tn 0 sc.heap := T.keep _ _ _ stb fun b _ o e => by
    rw [hpc]
    exact Heap.get?_push_of_some _ e
  generalize hH : upd Hb D (exact D { cls := .type "dict", data := .dict #[] }) = Hc at Ic w0 fc
  have Id := block_start Ic ok nd fc
  generalize hcl : cellsFrom (sc.heap.objs.size + 1) scope.names (cloFrom X.env.cells scope.names []) = cl at Id
  have pg := pg sc Hc sc.heap.objs.size cl fp
  have pt := pt sc Hc sc.heap.objs.size cl fp
  have pk := pk sc Hc sc.heap.objs.size cl fp
  have pv := pv sc Hc sc.heap.objs.size cl fp
  have none0 : ∀ b ∈ fp, Hc b = none := fun b hb => (fc b hb).1.1
  have stat : ∀ {ce : Env} {σ' : L2.St} {H' : Hp} {s' : Shared}, Inv (X.blk sc Hc scope ce fp) [] σ' H' s' → (∀ b ∈ fp, H' b = none) → ∀ b ∈ fp, FpOk (X.blk sc Hc scope ce fp) [] H' b := by
    intro ce σ' H' s' I' hn b hb
    exact ⟨hn b hb, (I'.ok.exf b hb).1, I'.ok.exfs b hb, .inl hb, fun x c e => (I'.ok.exf b hb).2 x c e, fun p hp => (List.not_mem_nil (show p ∈ ([] : List (Addr × Obj)) from hp)).elim⟩
  generalize hce : compEnvC scope cl sc.heap.objs.size X.env = ce at Id pg pt pk pv
  have loc : ce.locals = sc.heap.objs.size := by
    subst hce
    rfl
  generalize hd : ({ sc with heap := pushCells (sc.heap.push { cls := .type "dict", data := .dict #[] }) scope.names } : Shared) = sd at Id
  have std : tn 0 sd.heap := T.keep _ _ _ stc fun b _ o e => by
    rw [← hd]
    exact pushCells_keeps _ _ _ _ (Heap.get?_push_of_some _ e)
  have loop : codeAny (model X.prog X.w) X.A (.compLoop (.DictComp kx vx [⟨tg, iter, ifs, 0⟩] scope pos) 0 (.ref it) (.ref D) ce) (compPost (model X.prog X.w) X.A X.xe use Qf (.ref D) sc.heap.objs.size) sd := by
    refine compLoop_anyD (fun n se => ∃ i He, Inv (X.blk sc Hc scope ce fp) [] (wipe σ (own.map (·.2))) He se ∧ tn i se.heap ∧ (∀ b ∈ fp, He b = none) ∧ W i n He) ?_ m0 ⟨0, Hc, Id, std, none0, w0⟩
    rintro n se ⟨i, He, Ie, ste, ne, we⟩
    rcases turn i n He we with ⟨stop, fin⟩ | ⟨go, Nx, less, step⟩
    · have td := T.done (X.blk sc Hc scope ce fp) rfl rfl rfl calm i [] se _ He (fun _ _ => False) Ie (stat Ie ne) ste stop
      refine thnF td fun r sf ⟨er, If⟩ => ?_
      subst er
      have Ig : Inv X pins σ He sf := Ic.call' (ch := fp) If.os If.base If.hok If.bare fun b hb => ⟨(fc b hb).1.2.2.2.1, (fc b hb).1.2.1, (fc b hb).1.2.2.2.2.1, (fc b hb).1.2.2.2.2.2⟩
      have gone : He sc.heap.objs.size = none := by
        have z : He ce.locals = none := If.free
        rwa [loc] at z
      obtain ⟨m, hn, _⟩ := If.loc
      have hn : sf.heap.Ns ce.locals m := hn
      rw [loc] at hn
      exact post D sc.heap.objs.size sf m He Ig fin hn (Ic.fpOk (Nat.le_refl _) gone)
    · have ti := T.item (X.blk sc Hc scope ce fp) rfl rfl rfl calm i [] se _ He (fun _ _ => False) Ie (stat Ie ne) ste go
      refine thnF ti fun r sf ⟨u, er, h6⟩ => ?_
      subst er
      refine thnF h6 fun _ sg ⟨x, Hg, Ig, rg, yg, stg, ng⟩ => ?_
      have Ig' := Ig.pinned (stat Ig ng) (T.obj _ _ stg)
      refine thnF (pg.run _ sg _ Hg x u _ Ig' rg (step x Hg yg)) fun _ sh ⟨σh, Hh, Ih, wh, qh⟩ => ?_
      refine thnF (pt.run _ sh σh Hh _ Ih qh) fun b si ⟨Hi, Ii, qi⟩ => ?_
      have next : ∀ {s' : Shared} {H' : Hp}, Inv (X.blk sc Hc scope ce fp) ([] ++ pinsAt fp sg.heap) σh H' s' → Nx H' →
          ∃ m, m < n ∧ ∃ i H', Inv (X.blk sc Hc scope ce fp) [] (wipe σ (own.map (·.2))) H' s' ∧ tn i s'.heap ∧ (∀ b ∈ fp, H' b = none) ∧ W i m H' := by
        intro s' H' I' nx
        obtain ⟨m', lt, w'⟩ := less H' nx
        have pin : ∀ b ∈ fp, ∀ o, sg.heap.get? b = some o → s'.heap.get? b = some o ∧ H' b = none := by
          intro b hb o e
          have z := I'.pin (b, o) (List.mem_append_right _ (List.mem_append_right _ (mem_pinsAt hb e)))
          exact ⟨z.1, z.2.1⟩
        have ln : (wipe σ (own.map (·.2))).length = σh.length := by rw [← wh, wipe_length]
        refine ⟨m', lt, i + 1, H', (I'.unpinned (pins := [])).weak ln ?_, T.keep _ _ _ stg (fun b hb o e => (pin b hb o e).1), ?_, w'⟩
        · intro j v e
          rw [← wh] at e
          exact (wipe_some e).1
        · intro b hb
          obtain ⟨o, e, _⟩ := T.obj _ _ stg b hb
          exact (pin b hb o e).2
      cases b with
      | false =>
        simp only [Bool.false_eq_true, if_false] at qi ⊢
        exact next Ii qi
      | true =>
        simp only [if_true] at qi ⊢
        refine thnF (pk.run _ si σh Hi _ Ii qi) fun y sj ⟨yj, Hj, Ij, rj, qj⟩ => ?_
        refine thnF (pv.run _ sj σh Hj _ Ij qj) fun z sk ⟨zk, Hk, Ik, rz, Rk, Rv, kvs, d, z', k, dk, rk, dy, ky, kn, kd, ka, kv, kl, nx⟩ => ?_
        exact d_putX (X := X.blk sc Hc scope ce fp) (show X.A.units + 8 < cLine by omega) Ik rk dk dy ky kn kd rj rz ka kv kl fun s' v I' D' => next I' (nx v D')
  subst hce hcl
  exact codeAny_compStart_dict loop (T.self X.A 0 _ _ _ std loop)
theorem pe_dcX {kx vx tg iter : Expr} {ifs : List Expr} {scope : Scope} {own : List (Str × Nat)} {pos : Pos} {wi : TI} {g : TG} {tt : TT} {tk tv : TE} (hu : X.A.units + 64 < cLine) (calm : X.calm = true) (nd : X.N.Nodup) (hi : PI X tg iter wi) (ok : BlkOk X.N X.env.scope scope own)
    (pg : BlkFor X scope fun Y => PG Y tg g) (pt : BlkFor X scope fun Y => PTs Y ifs tt) (pk : BlkFor X scope fun Y => PE Y kx tk) (pv : BlkFor X scope fun Y => PE Y vx tv)
    (fold : ∀ x, foldedSetIterable iter X.env x = pure x := by intro _; rfl) : PE X (.DictComp kx vx [⟨tg, iter, ifs, 0⟩] scope pos) (tDcX X.K wi g tt tk tv (own.map (·.2))) := by
  constructor
  intro pins s σ H Q I h
  rw [arm_eval_DictComp]
  refine dcX_core hu calm nd I hi ok pg pt pk pv fold h fun D C s' m H' I' q ns f => ⟨m, ns, fun h2 sb => ?_⟩
  obtain ⟨f0, f1, f2, f3, f4, f5⟩ := f
  refine ⟨.ref D, H', ?_, rfl, q⟩
  exact I'.turned (t' := s'.toks) (fun b o hb e => (sb.2 b hb).trans e) f0 f1 f3 f4 f5
end
end FwD
/-! the keys of such a dict, one by one -/
namespace FwD
open PySem PySem.Spec PyProof.Rows L2
def DicO (Rk : PyData → Addr → Prop) (Rv : PyData → Value → Prop) (H : Hp) (l : Addr) (o : Obj) (es : Array DictEntry) (ep : Nat) (kvs : List (PyData × PyData)) : Prop :=
  H l = some (exact l o) ∧ (l == sysModules) = false ∧ o.ExactDict ∧ o.data = .dict es ep ∧ ∃ xs : List (NestedKey × Addr × Value), (∀ w, es.toList = xs.map (entryW w)) ∧ Paired (Ent Rk Rv) kvs xs
theorem dicO_of {Rk : PyData → Addr → Prop} {Rv : PyData → Value → Prop} {H : Hp} {l : Addr} {kvs : List (PyData × PyData)} (D : DicAt Rk Rv H l kvs) : ∃ o es ep, DicO Rk Rv H l o es ep kvs := by
  obtain ⟨o, es, ep, xs, e1, e2, e3, e4, e5, e6, e7, e8⟩ := D
  exact ⟨o, es, ep, e1, e2, e3, e4, xs, e5, e8⟩
def ItX (K : PySem.W.Frag) (Rk : PyData → Addr → Prop) (Rv : PyData → Value → Prop) (l : Addr) (o : Obj) (es : Array DictEntry) (ep : Nat) (kvs : List (PyData × PyData)) : It :=
  ⟨fun i H => DicO Rk Rv H l o es ep kvs ∧ i < kvs.length, fun i H x H' => H' = H ∧ ∃ d z a, kvs[i]? = some (d, z) ∧ x = .ref a ∧ Rk d a, fun i H => DicO Rk Rv H l o es ep kvs ∧ kvs.length ≤ i⟩
theorem paired_at {α β : Type} {F : α → β → Prop} : ∀ {l : List α} {m : List β} {i : Nat} {a : α}, Paired F l m → l[i]? = some a → ∃ b, m[i]? = some b ∧ F a b
  | _, _, _, _, .nil, h => by simp at h
  | _, _, 0, _, .cons r _, h => by
    cases h
    exact ⟨_, rfl, r⟩
  | _, _, i + 1, _, .cons _ t, h => paired_at (i := i) t h
section
variable {P : Program} {w : World} {K : PySem.W.Frag} {tg : Expr} {l : Addr} {o : Obj} {es : Array DictEntry} {ep : Nat} {kvs : List (PyData × PyData)} {Rk : PyData → Addr → Prop} {Rv : PyData → Value → Prop}
theorem DicO.raw {X : Cx} {pins : List (Addr × Obj)} {σ : L2.St} {H : Hp} {s : Shared} (I : Inv X pins σ H s) (D : DicO Rk Rv H l o es ep kvs) : s.heap.DictRaw l es ep ∧ es.size = kvs.length ∧ ∀ (i : Nat) (hi : i < es.size) d z, kvs[i]? = some (d, z) → ∃ a, es[i].key = .ref a ∧ Rk d a := by
  obtain ⟨e1, e2, e3, e4, xs, e5, e8⟩ := D
  have g : s.heap.get? l = some o := (show ObjOk X.prog X.w H s.heap l (exact l o) from I.hok l _ e1).1
  have sz : es.size = xs.length := by
    have := congrArg List.length (e5 X.w)
    rwa [List.length_map, Array.length_toList] at this
  refine ⟨⟨o, g, e3, e4⟩, by rw [sz, paired_len e8], fun i hi d z hd => ?_⟩
  obtain ⟨q, hq, en⟩ := paired_at e8 hd
  have e : es.toList[i]? = some (entryW X.w q) := by rw [e5 X.w, List.getElem?_map, hq]; rfl
  have e' : es[i] = entryW X.w q := by
    rw [Array.getElem?_toList, Array.getElem?_eq_getElem hi] at e
    exact Option.some.inj e
  exact ⟨q.2.1, by rw [e']; rfl, en.2.2.1⟩
theorem turn_keysX (it : Addr) : Turn P w K tg (ItX K Rk Rv l o es ep kvs) [it] it (fun i h => h.IsKeyIter it l i es.size ep) where
  mem := List.mem_singleton.mpr rfl
  obj := fun i h st b hb => by
    obtain rfl := List.mem_singleton.mp hb
    obtain ⟨oi, e, _, dd⟩ := st
    exact ⟨oi, e, fun v z => by rw [dd] at z; cases z⟩
  keep := fun i h h' st k => st.at fun oi e => k it (List.mem_singleton.mpr rfl) oi e
  item := by
    intro X hP hw hK hc i pins s σ H E I hf st hg
    subst hP hw hK
    obtain ⟨D, hi⟩ := hg
    obtain ⟨f0, f1, f2, f3, f4, f5⟩ := hf it (List.mem_singleton.mpr rfl)
    obtain ⟨raw, sz, key⟩ := D.raw I
    obtain ⟨a, ka, ra⟩ := key i (by omega) kvs[i].1 kvs[i].2 (List.getElem?_eq_getElem hi)
    refine wpAny_pyNext_keys_item_raw st raw (by omega) fun h' st' sb => ?_
    have I1 : Inv X pins σ H { s with heap := h' } := I.turned (t' := s.toks) (fun b ob hb e => (sb.2 b hb).trans e) f0 f1 f3 f4 f5
    obtain ⟨oi, e, c, dd⟩ := id st'
    refine ⟨_, rfl, go_of (s := { s with heap := h' }) e c dd (by decide) ⟨.ref a, H, I1, ?_, ⟨rfl, _, _, a, List.getElem?_eq_getElem hi, rfl, ra⟩, st', fun b hb => (hf b hb).1⟩⟩
    rw [ka]
    rfl
  done := by
    intro X hP hw hK hc i pins s σ H E I hf st hg
    subst hP hw hK
    obtain ⟨D, hi⟩ := hg
    obtain ⟨f0, f1, f2, f3, f4, f5⟩ := hf it (List.mem_singleton.mpr rfl)
    obtain ⟨raw, sz, _⟩ := D.raw I
    exact wpAny_pyNext_keys_end_raw (I.ok.hd hc) st raw (by omega) fun h' eb => ⟨rfl, I.turned (t' := s.toks) (fun b ob hb e => eb b ob hb e) f0 f1 f3 f4 f5⟩
  self := fun A i s Q E st h => by
    refine wpAny_pyIter_slot st.typeIs F.slot_dict_keyiterator_iter (wpAny_call_entry F.slot_dict_keyiterator_iter st.typeIs F.entry_dict_keyiterator_iter ?_ (F.args_dict_keyiterator_iter_1 _))
    exact wpAny_pure ⟨_, rfl, "dict_keyiterator", _, st.typeIs, F.slot_dict_keyiterator_next.lookup, h⟩
def iKeysX (K : PySem.W.Frag) (td : TE) : TI := fun σ H R => td σ H fun x H1 => ∃ l o es ep kvs Rk Rv, x = .ref l ∧ DicO Rk Rv H1 l o es ep kvs ∧ R (ItX K Rk Rv l o es ep kvs) H1
theorem pi_keysX {X : Cx} {e : Expr} {td : TE} (he : PE X e td) : PI X tg e (iKeysX X.K td) := by
  constructor
  intro pins s σ H R I h
  refine thn (he.run pins s σ H _ I h) fun u s1 ⟨x, H1, I1, rx, l, o, es, ep, kvs, Rk, Rv, ex, D, q⟩ => ?_
  subst ex
  cases rx
  obtain ⟨raw, sz, _⟩ := D.raw I1
  exact wpAny_pyIter_dict_raw D.2.1 raw (pi_one (tk := s1.toks) I1 _ (turn_keysX _) ⟨_, Heap.get?_push_size _ rfl, rfl, rfl⟩ q)
end
end FwD
namespace FwD
open PySem PySem.Spec PyProof.Rows L2
theorem Ent.mono {Rk Rk' : PyData → Addr → Prop} {Rv Rv' : PyData → Value → Prop} (rk : ∀ d a, Rk d a → Rk' d a) (rv : ∀ d a, Rv d a → Rv' d a) : ∀ {kvs : List (PyData × PyData)} {xs : List (NestedKey × Addr × Value)}, Paired (Ent Rk Rv) kvs xs → Paired (Ent Rk' Rv') kvs xs
  | _, _, .nil => .nil
  | _, _, .cons h t => .cons ⟨h.1, h.2.1, rk _ _ h.2.2.1, rv _ _ h.2.2.2⟩ (Ent.mono rk rv t)
theorem DicAt.mono {Rk Rk' : PyData → Addr → Prop} {Rv Rv' : PyData → Value → Prop} {H H' : Hp} {l : Addr} {kvs : List (PyData × PyData)} (D : DicAt Rk Rv H l kvs) (rk : ∀ d a, Rk d a → Rk' d a) (rv : ∀ d a, Rv d a → Rv' d a) (hl : ∀ o, H l = some o → H' l = some o) : DicAt Rk' Rv' H' l kvs := by
  obtain ⟨o, es, ep, xs, e1, e2, e3, e4, e5, e6, e7, e8⟩ := D
  exact ⟨o, es, ep, xs, hl _ e1, e2, e3, e4, e5, e6, e7, Ent.mono rk rv e8⟩
theorem DicAt.there {Rk : PyData → Addr → Prop} {Rv : PyData → Value → Prop} {H : Hp} {l : Addr} {kvs : List (PyData × PyData)} (D : DicAt Rk Rv H l kvs) : ∃ o, H l = some (exact l o) := by
  obtain ⟨o, es, ep, xs, e1, _⟩ := D
  exact ⟨o, e1⟩
end FwD
namespace Fw
open PySem PySem.Spec PyProof.Rows L2 Evl FwD
/-! dicts beside the known heap -/
mutual
theorem key_noDict : ∀ (d : PyData) (k : NestedKey), keyT d = some k → d.hasDict = false
  | .int _, _, _ => rfl
  | .tuple ds, k, h => by
    have h' : (keyTs ds).map NestedKey.tup = some k := h
    cases e : keyTs ds with
    | none => rw [e] at h'; cases h'
    | some ks => exact keys_noDict ds ks e
  | .none, _, h => by cases h
  | .bool _, _, h => by cases h
  | .str _, _, h => by cases h
  | .list _, _, h => by cases h
  | .dict _, _, h => by cases h
theorem keys_noDict : ∀ (ds : List PyData) (ks : List NestedKey), keyTs ds = some ks → PyData.hasDictAll ds = false
  | [], _, _ => rfl
  | d :: ds, ks, h => by
    have h' : ((keyT d).bind fun k => (keyTs ds).map fun ks => k :: ks) = some ks := h
    cases e : keyT d with
    | none => rw [e] at h'; cases h'
    | some k =>
      cases e2 : keyTs ds with
      | none => rw [e, e2] at h'; cases h'
      | some ks' =>
        show (d.hasDict || PyData.hasDictAll ds) = false
        rw [key_noDict d k e, keys_noDict ds ks' e2]
        rfl
end
abbrev RkOf (K : PySem.W.Frag) (Hk : Hp) : PyData → Addr → Prop := fun d a => Dp K Hk (.ref a) d
abbrev RvOf (K : PySem.W.Frag) (Hk : Hp) : PyData → Value → Prop := fun d r => ∃ v, RelV v r ∧ Dx K Hk v d
abbrev DicK (K : PySem.W.Frag) (Hk H : Hp) (l : Addr) (kvs : List (PyData × PyData)) : Prop := DicAt (RkOf K Hk) (RvOf K Hk) H l kvs
theorem DicK.go {K : PySem.W.Frag} {p : Option Addr} {Hk H Hk' H' : Hp} {l : Addr} {kvs : List (PyData × PyData)} (D : DicK K Hk H l kvs) (g : Go p Hk H Hk' H') (hp : p ≠ some l) : DicK K Hk' H' l kvs :=
  D.mono (fun d a r => dp_mono0 g.kk d r) (fun d r ⟨v, rv, h⟩ => ⟨v, rv, dp_mono g.kk d h⟩) fun o h => g.rr l o hp h
def KeyOk (d : PyData) : Prop := (∃ k, keyT d = some k ∧ k.depth ≤ 8) ∧ ∀ i, d ≠ .int i
/-- te makes a new dict that nobody knows -/
def WpD (K : PySem.W.Frag) (p : Option Addr) (te : TE) (env : List Slot) (Φ : List (PyData × PyData) → Prop) : Prop := ∀ (H0 : Hp) (σ : List (Option V)) (Hk H : Hp) (Q : VK), Ex Hk H → PotOk Hk H p → En K p H0 Hk H σ env →
  (∀ l kvs Hk' H', Go p Hk H Hk' H' → H l = none → Hk' l = none → DicK K Hk' H' l kvs → Φ kvs → Q (.ref l) H') → te σ H Q
section
variable {K K' : PySem.W.Frag} {p : Option Addr} {env : List Slot} {Φ : PyData → Prop} {te tk tv : TE} {tt : TT}
theorem d_dc {wi : TI} {g : TG} {vs js : List Nat} {Ψ : List (PyData × PyData) → Prop} (hs : ∀ j ∈ js, j ∈ vs) (h : WpI K p wi env fun xs => xs.length ≤ 100000 ∧ ∃ Wd : Nat → List (PyData × PyData) → Prop, Wd 0 [] ∧
    (∀ (i : Nat) (x : PyData) (acc : List (PyData × PyData)), xs[i]? = some x → Wd i acc → acc.length ≤ i → WpG K p js g x (wipeE env vs) fun env2 => WpT K p tt env2 fun b =>
      if b = true then WpE K p tk env2 (fun y => KeyOk y ∧ WpE K p tv env2 fun z => Wd (i + 1) (putD acc y z)) else Wd (i + 1) acc) ∧
    ∀ acc, acc.length ≤ xs.length → Wd xs.length acc → Ψ acc) (hK : K' = K := by with_unfolding_all rfl) : WpD K p (tDcX K' wi g tt tk tv vs) env Ψ := fun H0 σ Hk H Q e po en k => by
  subst hK
  refine h H0 σ Hk H _ e po en fun J xs Hk1 H1 g1 it ⟨hz, Wd, i0, step, last⟩ D u0 hD emp => ?_
  have pD : p ≠ some D := pot_ne g1.po hD
  have g0 : Go p Hk1 H1 Hk1 (upd H1 D u0) := (Go.refl g1.kr g1.po).mut hD pD (fresh_back g1.kr hD)
  refine ⟨fun i m H' => m = xs.length - i ∧ i ≤ xs.length ∧ ∃ Hk' acc, Go p Hk1 H1 Hk' H' ∧ Hk' D = none ∧ DicK K' Hk' H' D acc ∧ acc.length ≤ i ∧ Wd i acc, ⟨xs.length, by omega, by omega, Hk1, [], g0, fresh_back g1.kr hD, emp _ _, Nat.le_refl _, i0⟩, ?_⟩
  rintro i m H' ⟨rfl, hi, Hk', acc, go, kD, dd, hlen, inv⟩
  obtain ⟨o1, o2, o3⟩ := it Hk' H' go.kk go.kr go.po
  have live : ∀ {Hk H : Hp}, DicK K' Hk H D acc → H D ≠ none := fun d => by
    obtain ⟨o, e⟩ := d.there
    rw [e]
    exact nofun
  by_cases hlt : i < xs.length
  · refine .inr ⟨o1 i hlt, fun H'' => i + 1 ≤ xs.length ∧ ∃ Hk' acc, Go p Hk1 H1 Hk' H'' ∧ Hk' D = none ∧ DicK K' Hk' H'' D acc ∧ acc.length ≤ i + 1 ∧ Wd (i + 1) acc, fun H'' q => ⟨xs.length - (i + 1), by omega, rfl, q⟩, fun x H'' y => ?_⟩
    obtain ⟨d, Hk2, hd, rd, g2⟩ := o3 i x H'' hlt y
    have en2 : En K' p H0 Hk2 H'' (L2.wipe σ vs) (wipeE env vs) := (((en.go g1).go go).go g2).wipe vs
    have k2 : Hk2 D = none := g2.nk D (live dd) kD
    have d2 := dd.go g2 pD
    refine step i d acc hd inv hlen H0 _ Hk2 H'' x _ g2.kr g2.po en2 rd fun σ2 env2 en3 same f3 => ⟨wipe_eq (by rw [same.1, wipe_length]) same.2 hs, ?_⟩
    refine f3 H0 σ2 Hk2 H'' _ g2.kr g2.po en3 fun b Hk4 H4 g4 f4 => ?_
    have k4 : Hk4 D = none := g4.nk D (live d2) k2
    have d4 := d2.go g4 pD
    cases b with
    | false => exact ⟨by omega, Hk4, acc, (go.trans g2).trans g4, k4, d4, by omega, f4⟩
    | true =>
      refine (show WpE K' p tk env2 _ from f4) H0 σ2 Hk4 H4 _ g4.kr g4.po (en3.go g4) fun y dy Hk5 H5 g5 r5 ⟨⟨⟨ks, hks, hdp⟩, hni⟩, f5⟩ => ?_
      have k5 : Hk5 D = none := g5.nk D (live d4) k4
      have d5 := d4.go g5 pD
      refine f5 H0 σ2 Hk5 H5 _ g5.kr g5.po ((en3.go g4).go g5) fun z dz Hk6 H6 g6 r6 f6 => ?_
      have k6 : Hk6 D = none := g6.nk D (live d5) k5
      have d6 := d5.go g6 pD
      have ry := dp_mono g6.kk dy r5
      refine ⟨RkOf K' Hk6, RvOf K' Hk6, acc, dy, dz, ks, d6, fun d a r => dp_mono0 g6.kr d r, dx_dp dy (key_noDict dy ks hks) (dp_mono g6.kr dy ry), hks, hni, hdp, fun a e => by show Dp K' Hk6 (.ref a) dy; rw [← e]; exact dx_dp dy (key_noDict dy ks hks) ry, fun r rr => ⟨z, rr, r6⟩, sz_lt (by omega), fun v dv => ?_⟩
      have gg := (((go.trans g2).trans g4).trans g5).trans g6
      exact ⟨by omega, Hk6, putD acc dy dz, gg.mut hD pD k6, k6, dv, by have := putD_len acc dy dz; omega, f6⟩
  · have hi2 : i = xs.length := by omega
    subst hi2
    have h0 : H D = none := by
      cases z : H D with
      | none => rfl
      | some o => exact absurd hD (g1.live (by rw [z]; exact nofun))
    exact .inl ⟨o2, k D acc Hk' _ (g1.trans go) h0 kD dd (last acc hlen inv)⟩
/-- the keys of a dict that is made on the way, one by one -/
theorem i_keysD {Ψ : List PyData → Prop} (h : WpD K p te env fun kvs => Ψ (kvs.map (·.1))) (hK : K' = K := by with_unfolding_all rfl) : WpI K p (iKeysX K' te) env Ψ := fun H0 σ Hk H R e po en k => by
  subst hK
  refine h H0 σ Hk H _ e po en fun l kvs Hk' H' g h0 hk D f => ?_
  obtain ⟨o, es, ep, DO⟩ := dicO_of D
  have hp := pot_ne po h0
  refine ⟨l, o, es, ep, kvs, _, _, rfl, DO, ?_⟩
  have gp := g.pub h0 hp hk DO.1
  refine k _ _ (upd Hk' l (exact l o)) H' gp (fun Hk1 H1 x1 x2 po1 => ?_) f
  have DO1 : DicO (RkOf K' Hk') (RvOf K' Hk') H1 l o es ep kvs := ⟨x2 l _ (x1 l _ upd_same), DO.2⟩
  have ln : (kvs.map (·.1)).length = kvs.length := List.length_map ..
  refine ⟨fun i hi => ⟨DO1, by omega⟩, ⟨DO1, by omega⟩, fun i x H2 hi y => ?_⟩
  obtain ⟨rfl, d, z, a, hd, rfl, ra⟩ := y
  refine ⟨d, Hk1, by rw [List.getElem?_map, hd]; rfl, ?_, Go.refl x2 po1⟩
  exact dp_mono ((Ex.new hk).trans x1) d (dp_dx d ra)
/-- len of such a dict -/
theorem e_lenD (h : WpD K p te env fun kvs => Φ (.int kvs.length)) {r : List V → Hp → VK → Prop} (hr : r = fun xs H Q => ∃ (p : Addr) (kvs : List (PyData × PyData)) (Rk : PyData → Addr → Prop) (Rv : PyData → Value → Prop), xs = [.ref p] ∧ DicAt Rk Rv H p kvs ∧ (∀ d a, Rk d a → Dp K H (.ref a) d) ∧ Q (.int kvs.length) H := by with_unfolding_all rfl) :
    WpE K p (tCB r (tCons te tNil)) env Φ := fun H0 σ Hk H Q e po en k => by
  subst hr
  exact h H0 σ Hk H _ e po en fun l kvs Hk' H' g h0 hk D f => ⟨l, kvs, _, _, rfl, D, fun d a r => dp_mono0 g.kr d r, k _ _ Hk' H' g (.int _) f⟩
end
end Fw
/-! sum and max of a tuple of ints, t[::-1], truths taken away from each other -/
namespace FwT
open PySem PySem.Spec PyProof.Rows L2
section
variable {X : Cx}
def rSumT (K : PySem.W.Frag) : List V → Hp → VK → Prop := fun vs H Q => ∃ (a : Addr) (ns : List Int), vs = [V.ref a] ∧ SqT K H a (ns.map V.int) ∧ Q (.int ns.sum) H
theorem cr_sumT (hc : X.calm = true) : CallR X (.builtin "sum") (rSumT X.K) := fun pins s σ H vs us Q I r h => by
  obtain ⟨a, ns, rfl, hs, q⟩ := h
  obtain ⟨u, rfl, ru⟩ := vals1 r
  cases ru
  obtain ⟨its, rv, tp, _⟩ := I.tuple hs
  have hi := rv.ints
  obtain ⟨xs, e⟩ := hi.allInts.items
  have hn : numsOf (intItems xs).toList = ns := by rw [← e]; exact hi.numsOf
  rw [nums_intItems] at hn
  rw [e] at tp
  refine PySem.W.ktm_sumG (I.ok.hd hc) tp fun h' tk t' hk => ⟨.int _, H, I.kept hk, ⟨t', rfl⟩, ?_⟩
  rw [preSum_eq, List.take_of_length_le (by simp), hn]
  exact q
theorem op_sub_bb : OpR X (binaryOp .Sub) (fun x y H Q => ∃ a b, x = .bl a ∧ y = .bl b ∧ Q (.int (b2i a - b2i b)) H) := fun pins s σ H x y v u Q I rx ry h => by
  obtain ⟨a, b, rfl, rfl, q⟩ := h
  cases rx
  cases ry
  exact sub_bool ⟨.int _, H, I.tok _, ⟨_, rfl⟩, q⟩
/-- max of a tuple of ints -/
def rMaxT (K : PySem.W.Frag) : List V → Hp → VK → Prop := fun vs H Q => ∃ (a : Addr) (n : Int) (ns : List Int), vs = [V.ref a] ∧ SqT K H a ((n :: ns).map V.int) ∧ Q (.int (ns.foldl max n)) H
theorem reads_ints {h : Heap} : ∀ {us : List Value} {ns : List Int}, Vals (ns.map V.int) us → ReadsAll h us (ns.map .int) []
  | [], [], _ => .nil
  | u :: us, n :: ns, .cons r t => by
    obtain ⟨tk, rfl⟩ := r
    have q := ReadsAll.cons (Reads.int (h := h) n tk) (reads_ints t)
    exact q
theorem cr_maxT (hu : X.A.units + 64 < cLine) (hc : X.calm = true) : CallR X (.builtin "max") (rMaxT X.K) := fun pins s σ H vs us Q I r h => by
  obtain ⟨a, n, ns, rfl, hs, q⟩ := h
  obtain ⟨u, rfl, ru⟩ := vals1 r
  cases ru
  obtain ⟨its, rv, tp, _⟩ := I.tuple hs
  have rd : ReadsAll s.heap its.toArray.toList (PyData.int n :: ns.map .int) [] := by
    rw [List.toList_toArray]
    exact reads_ints (ns := n :: ns) rv
  have al : PySem.W.AlikeAll (PyData.int n :: ns.map .int) := by
    have isI : ∀ x ∈ PyData.int n :: ns.map PyData.int, ∃ m, x = PyData.int m := fun x hx => by
      rcases List.mem_cons.mp hx with e | hx
      · exact ⟨n, e⟩
      · obtain ⟨m, _, e⟩ := List.mem_map.mp hx
        exact ⟨m, e.symm⟩
    refine ⟨fun x hx y hy => ?_, fun x hx => ?_⟩
    · obtain ⟨m, rfl⟩ := isI x hx
      obtain ⟨k, rfl⟩ := isI y hy
      rfl
    · obtain ⟨m, rfl⟩ := isI x hx
      exact fun z => nomatch z
  have dz : PyData.depthAll (PyData.int n :: ns.map .int) = 0 := PySem.W.depth_ints (n :: ns)
  refine PySem.W.max_tuple_data (I.ok.hd hc) tp rd al (by rw [dz]; omega) fun i v h' tk bs hv r hk => ?_
  rw [PySem.W.maxD_ints] at r
  cases r
  exact ⟨.int _, H, I.kept hk, ⟨_, rfl⟩, q⟩
/-! ### t[::-1] -/
theorem sliceRev {prog : Program} {w : World} {A : Around} {E : Value → Shared → Prop} {s : Shared} {sl : Addr} {vs : Value} {n : Nat} {Q : Int × Int × Nat → Shared → Prop} (hs : s.heap.IsSliceOf sl .none .none vs) (ps : IsPart vs (some (-1)))
    (h : Q ((n : Int) - 1, -1, n) s) : wpAny (model prog w) A (Builtin.Slice.sliceApplied (.ref sl) (pure (n : Int))) Q E s := by
  obtain ⟨os, ho, hc, hd⟩ := id hs
  unfold Builtin.Slice.sliceApplied Builtin.Slice.sliceFields
  refine wpAny_bind (wpAny_bind (wpAny_field ho hd (x := .none) rfl (wpAny_bind (wpAny_field ho hd (x := .none) rfl (wpAny_bind (wpAny_field ho hd (x := vs) rfl (wpAny_pure ?_)))))))
  refine wpAny_bind (HT.slicePart_ ps ?_)
  show wpAny _ _ (if ((-1 : Int) == 0) = true then _ else _) _ _ s
  rw [if_neg (by decide)]
  refine wpAny_bind (slicePart_none (wpAny_bind (slicePart_none (wpAny_bind (wpAny_pure ?_)))))
  have pl : Builtin.Slice.slicePlaces ((n : Int) - 1) (-1) (-1) = n := by
    unfold Builtin.Slice.slicePlaces
    rw [if_neg (by decide)]
    by_cases z : (n : Int) - 1 > -1
    · rw [if_pos z, show (-(-1) : Int) = 1 by decide, Int.ediv_one]
      omega
    · rw [if_neg z]
      omega
  show wpAny _ _ (pure ((n : Int) - 1, (-1 : Int), Builtin.Slice.slicePlaces ((n : Int) - 1) (-1) (-1))) _ _ s
  rw [pl]
  exact wpAny_pure h
theorem fm_congr {f g : Nat → Option Value} : ∀ {l : List Nat}, (∀ k ∈ l, f k = g k) → l.filterMap f = l.filterMap g
  | [], _ => rfl
  | k :: l, h => by
    rw [List.filterMap_cons, List.filterMap_cons, h k List.mem_cons_self, fm_congr fun j hj => h j (List.mem_cons_of_mem _ hj)]
theorem pickRev (xs : List Value) : ((List.range xs.length).filterMap fun (k : Nat) => xs.toArray[(((xs.length : Int) - 1) + (k : Int) * (-1)).toNat]?) = xs.reverse := by
  have e : ∀ k ∈ List.range xs.length, xs.toArray[(((xs.length : Int) - 1) + (k : Int) * (-1)).toNat]? = xs.reverse[k]? := fun k hk => by
    have lt := List.mem_range.mp hk
    rw [List.getElem?_reverse lt, List.getElem?_toArray]
    congr 1
    omega
  rw [fm_congr e]
  have all : ∀ ys : List Value, (List.range ys.length).filterMap (fun k => ys[k]?) = ys := fun ys => by
    refine List.ext_getElem? fun i => ?_
    induction ys generalizing i with
    | nil => rfl
    | cons y ys ih =>
      rw [List.length_cons, List.range_succ_eq_map, List.filterMap_cons]
      show (y :: ((List.range ys.length).map Nat.succ).filterMap fun k => (y :: ys)[k]?)[i]? = _
      rw [List.filterMap_map]
      cases i with
      | zero => rfl
      | succ i => exact ih i
  have := all xs.reverse
  rw [List.length_reverse] at this
  exact this
def tRevT (K : PySem.W.Frag) (te : TE) : TE := fun σ H Q => te σ H fun x H1 => ∃ a xs, x = .ref a ∧ SqT K H1 a xs ∧ ∀ p, H1 p = none → Q (.ref p) (upd H1 p (.tup xs.reverse))
theorem getRev {prog : Program} {w : World} {A : Around} {E : Value → Shared → Prop} {s : Shared} {t sl : Addr} {its : List Value} {vs : Value} {Q : Value → Shared → Prop} (ht : IsTup s.heap t its.toArray) (hs : s.heap.IsSliceOf sl .none .none vs) (ps : IsPart vs (some (-1))) (hz : its.length ≤ sizeLine)
    (h : Q (.ref s.heap.objs.size) { s with heap := s.heap.push { cls := .type "tuple", data := .seq its.reverse.toArray } }) : wpAny (model prog w) A (getItem (.ref t) (.ref sl)) Q E s := by
  have fits : sizeOk (.seq its.reverse.toArray) := by
    show its.reverse.toArray.size ≤ sizeLine
    rw [List.size_toArray, List.length_reverse]
    exact hz
  obtain ⟨os, ho, hc, hd⟩ := id hs
  have isS : s.TypeIs (.ref sl) "slice" := ⟨os, ho, hc⟩
  unfold getItem
  try with_reducible refine wpAny_holding ?_
  first | refine wpAny_bind (wpAny_pure ?_) | skip
  refine wpAny_bind (wpAny_sequenceKey ht.typeIs (by decide) ?_)
  refine wpAny_bind (wpAny_callSpecial?_slot (name := Str.ofString "__getitem__") ht.typeIs PyProof.Rows.slot_tuple_getitem ?_)
  refine wpAny_call_entry PyProof.Rows.slot_tuple_getitem ht.typeIs PyProof.Rows.entry_tuple_getitem ?_ (PyProof.Rows.args_tuple_getitem _ _)
  show wpAny _ _ (Builtin.Tuple.tupleItemsOf (.ref t) >>= _) _ _ s
  refine wpAny_bind (PyProof.Rows.tupleItemsOf_ ht ?_)
  refine wpAny_bind (wpAny_typeOf isS ?_)
  rw [if_pos (by decide)]
  refine wpAny_bind (sliceRev (n := its.toArray.size) hs ps ?_)
  show wpAny _ _ (if ((((its.toArray.size : Int) - 1) == 0 && (-1 : Int) == 1 && its.toArray.size == its.toArray.size) = true) then _ else _) _ _ s
  rw [if_neg (by simp)]
  have e := pickRev its
  rw [show its.length = its.toArray.size from (List.size_toArray).symm] at e
  rw [e]
  first
    | exact wpAny_bind (m := Builtin.Tuple.tupleExact _) (wpAny_newObj_type (wpAny_pure ⟨_, rfl, wpAny_pure h⟩) fits)
    | exact wpAny_bind (wpAny_bind (m := Builtin.Tuple.tupleExact _) (wpAny_newObj_type (wpAny_pure (wpAny_pure ⟨_, rfl, wpAny_pure h⟩)) fits))
end
end FwT
/-! zip of three tuples; t[::-1] as an expression -/
namespace FwT
open PySem PySem.Spec PyProof.Rows L2
def ItZ3 (K : PySem.W.Frag) (a b c : Addr) : It :=
  ⟨fun i H => ∃ xs ys zs : List V, SqT K H a xs ∧ SqT K H b ys ∧ SqT K H c zs ∧ i < min (min xs.length ys.length) zs.length,
    fun i H v H' => ∃ T x y z, v = .ref T ∧ H T = none ∧ H' = upd H T (.tup [x, y, z]) ∧ (∀ xs, SqT K H a xs → xs[i]? = some x) ∧ (∀ ys, SqT K H b ys → ys[i]? = some y) ∧ ∀ zs, SqT K H c zs → zs[i]? = some z,
    fun i H => ∃ xs ys zs : List V, SqT K H a xs ∧ SqT K H b ys ∧ SqT K H c zs ∧ i = min (min xs.length ys.length) zs.length⟩
/-- the iterator's own cells -/
def CellsZ3 (z TI TO i1 i2 i3 a b c : Addr) (i : Nat) (h : Heap) : Prop := IsZip h z TI TO .none ∧ IsTupOf3 h TI (.ref i1) (.ref i2) (.ref i3) ∧ (∃ a1 a2 a3, IsTupOf3 h TO a1 a2 a3) ∧ h.IsTupleIter i1 a i ∧ h.IsTupleIter i2 b i ∧ h.IsTupleIter i3 c i
abbrev fpZ3 (z TI TO i1 i2 i3 : Addr) : List Addr := [z, TI, TO, i1, i2, i3]
theorem val_ref {xs : List V} {us : List Value} {i : Nat} {v : Value} (r : Vals xs us) (h : us[i]? = some v) : ∃ x, xs[i]? = some x ∧ RelV x v := by
  induction r generalizing i with
  | nil => simp at h
  | @cons x u xs us r rr ih =>
    cases i with
    | zero =>
      cases h
      exact ⟨x, rfl, r⟩
    | succ i => exact ih h
section
variable {P : Program} {w : World} {K : PySem.W.Frag} {elts : List Expr} {kk : Nat} {tpos : Pos} {z TI TO i1 i2 i3 a b c : Addr}
theorem turn_z3 (S : ZipSep3 z TI TO i1 i2 i3 [i1, a] [i2, b] [i3, c]) (na : a ≠ i1) (nb : b ≠ i2) (nc : c ≠ i3) : Turn P w K (.Tuple elts kk tpos) (ItZ3 K a b c) (fpZ3 z TI TO i1 i2 i3) z (CellsZ3 z TI TO i1 i2 i3 a b c) := by
  have goes : ∀ (A : Around), A.handled = none → ∀ (xs ys zs : List Value), GoesN P w A (.Tuple elts kk tpos) z (z :: TI :: TO :: ([i1, a] ++ [i2, b] ++ [i3, c])) [z, TO, i1, i2, i3] (min (min xs.toArray.size ys.toArray.size) zs.toArray.size) _ _ :=
    fun A hh xs ys zs => GoesN.zip3 (elts := elts) (x1 := kk) (pos := tpos) S (Draws.tuple (A := A.in1) hh i1 a na xs.toArray) (Draws.tuple (A := A.in1) hh i2 b nb ys.toArray) (Draws.tuple (A := A.in1) hh i3 c nc zs.toArray)
  constructor
  · exact List.mem_cons_self
  · rintro i h ⟨c1, c2, ⟨a1, a2, a3, c3⟩, ⟨o1, e1, _, d1⟩, ⟨o2, e2, _, d2⟩, ⟨o3, e3, _, d3⟩⟩ x hx
    have cases6 : x = z ∨ x = TI ∨ x = TO ∨ x = i1 ∨ x = i2 ∨ x = i3 := by simpa using hx
    rcases cases6 with rfl | rfl | rfl | rfl | rfl | rfl
    · exact ⟨_, c1, fun v q => nomatch q⟩
    · exact ⟨_, c2, fun v q => nomatch q⟩
    · exact ⟨_, c3, fun v q => nomatch q⟩
    · exact ⟨o1, e1, fun v q => by rw [d1] at q; cases q⟩
    · exact ⟨o2, e2, fun v q => by rw [d2] at q; cases q⟩
    · exact ⟨o3, e3, fun v q => by rw [d3] at q; cases q⟩
  · rintro i h h' ⟨c1, c2, ⟨a1, a2, a3, c3⟩, h1, h2, h3⟩ k
    exact ⟨k z (by simp) _ c1, k TI (by simp) _ c2, ⟨a1, a2, a3, k TO (by simp) _ c3⟩, h1.at fun o q => k i1 (by simp) o q, h2.at fun o q => k i2 (by simp) o q, h3.at fun o q => k i3 (by simp) o q⟩
  · intro X hP hw hK hc i pins s σ H E I hf st ⟨xs, ys, zs, q1, q2, q3, lt⟩
    subst hP hw hK
    obtain ⟨us, r1, p1, _⟩ := I.tuple q1
    obtain ⟨vs, r2, p2, _⟩ := I.tuple q2
    obtain ⟨ws, r3, p3, _⟩ := I.tuple q3
    have W := goes X.A (I.ok.hd hc) us vs ws
    have l1 := r1.length
    have l2 := r2.length
    have l3 := r3.length
    obtain ⟨c1, c2, c3, h1, h2, h3⟩ := st
    refine W.goes i s _ E (by rw [List.size_toArray, List.size_toArray, List.size_toArray]; omega) ⟨c1, c2, c3, ⟨h1, p1⟩, ⟨h2, p2⟩, ⟨h3, p3⟩⟩ fun v h' tk hY st' hk _ => ?_
    obtain ⟨T, x, y, u, rfl, hn, hx, hy, hu, hT⟩ := hY
    obtain ⟨d1, d2, d3, ⟨g1, _⟩, ⟨g2, _⟩, ⟨g3, _⟩⟩ := st'
    obtain ⟨x', ex, rx⟩ := val_ref r1 (by simpa using hx)
    obtain ⟨y', ey, ry⟩ := val_ref r2 (by simpa using hy)
    obtain ⟨u', eu, ru⟩ := val_ref r3 (by simpa using hu)
    have new : ObjOk X.prog X.w (upd H T (.tup [x', y', u'])) h' T (.tup [x', y', u']) := ⟨by show 3 ≤ sizeLine; decide, [x, y, u], .cons rx (.cons ry (.cons ru .nil)), hT⟩
    have out : ∀ d, d ∉ fpZ3 z TI TO i1 i2 i3 → d ∉ [z, TO, i1, i2, i3] := fun d n m => n (by
      simp only [List.mem_cons, List.not_mem_nil, or_false] at m ⊢
      rcases m with m | m | m | m | m <;> simp [m])
    have I1 := I.turnedNew (t' := tk) (ch := fpZ3 z TI TO i1 i2 i3) (fun d o n e => hk d o (out d n) e) hf hn new
    have hTn : H T = none := I.hok.fresh hn
    refine ⟨.ref T, _, I1, rfl, ⟨T, x', y', u', rfl, hTn, rfl, fun l hl => by rw [I.tuple_inj hl q1]; exact ex, fun l hl => by rw [I.tuple_inj hl q2]; exact ey, fun l hl => by rw [I.tuple_inj hl q3]; exact eu⟩, ⟨d1, d2, d3, g1, g2, g3⟩, fun d hd => ?_⟩
    have low : d < s.heap.objs.size := by
      have cases6 : d = z ∨ d = TI ∨ d = TO ∨ d = i1 ∨ d = i2 ∨ d = i3 := by simpa using hd
      obtain ⟨a1, a2, a3, c3⟩ := c3
      rcases cases6 with rfl | rfl | rfl | rfl | rfl | rfl
      · exact Heap.lt_size c1
      · exact Heap.lt_size c2
      · exact Heap.lt_size c3
      · obtain ⟨_, e, _⟩ := h1; exact Heap.lt_size e
      · obtain ⟨_, e, _⟩ := h2; exact Heap.lt_size e
      · obtain ⟨_, e, _⟩ := h3; exact Heap.lt_size e
    rw [upd_ne (Nat.ne_of_lt (Nat.lt_of_lt_of_le low hn))]
    exact (hf d hd).1
  · intro X hP hw hK hc i pins s σ H E I hf st ⟨xs, ys, zs, q1, q2, q3, en⟩
    subst hP hw hK
    obtain ⟨us, r1, p1, _⟩ := I.tuple q1
    obtain ⟨vs, r2, p2, _⟩ := I.tuple q2
    obtain ⟨ws, r3, p3, _⟩ := I.tuple q3
    have W := goes X.A (I.ok.hd hc) us vs ws
    have e : i = min (min us.toArray.size vs.toArray.size) ws.toArray.size := by rw [List.size_toArray, List.size_toArray, List.size_toArray, ← r1.length, ← r2.length, ← r3.length]; exact en
    obtain ⟨c1, c2, c3, h1, h2, h3⟩ := st
    subst e
    refine W.stops s _ E ⟨c1, c2, c3, ⟨h1, p1⟩, ⟨h2, p2⟩, ⟨h3, p3⟩⟩ fun h' tk hk _ => I.turnedL (t' := tk) (ch := fpZ3 z TI TO i1 i2 i3) (fun d o n e => hk d o (fun m => n (by
      simp only [List.mem_cons, List.not_mem_nil, or_false] at m ⊢
      rcases m with m | m | m | m | m <;> simp [m])) e) hf
  · intro A i s Q E st h
    exact wpAny_pyIter_zip st.1 h
def iZip3 (K : PySem.W.Frag) (ta : TA) : L2.TI := fun σ H R => ta σ H fun vs H1 => ∃ a b c xs ys zs, vs = [.ref a, .ref b, .ref c] ∧ SqT K H1 a xs ∧ SqT K H1 b ys ∧ SqT K H1 c zs ∧ R (ItZ3 K a b c) H1
theorem pi_zip3 {X : Cx} {e e2 e3 : Expr} {ta : TA} {p pos : Pos} (hg : Gl X "zip") (hm : X.mg "zip" = none) (ha : PA X [e, e2, e3] ta)
    (hs : starEach [e, e2, e3] X.env = (false, eval e X.env) :: starEach [e2, e3] X.env := by rfl) (hpl : (backTo pos (starEach [e2, e3] X.env)).any (·.1) = false := by rfl) :
    PI X (.Tuple elts kk tpos) (.Call (.Name "zip" p) [e, e2, e3] [] pos) (iZip3 X.K ta) := by
  constructor
  intro pins s σ H R I h
  refine Call_ (ld_blt I hg hm PyProof.Rows.boot_zip (PyProof.Rows.callWith_type1 (thn (ha.run pos pins s σ H _ I h) fun us s1 ⟨vs, H1, I1, r1, q1⟩ => ?_) hs hpl))
  obtain ⟨a, b, c, xs, ys, zs, ex, t1, t2, t3, q⟩ := q1
  subst ex
  cases r1 with
  | cons r rr =>
    cases rr with
    | cons r' rr =>
      cases rr with
      | cons r'' rr =>
        cases rr
        cases r
        cases r'
        cases r''
        obtain ⟨_, _, p1, _⟩ := I1.tuple t1
        obtain ⟨_, _, p2, _⟩ := I1.tuple t2
        obtain ⟨_, _, p3, _⟩ := I1.tuple t3
        have low : ∀ {d : Addr} {its : Array Value}, IsTup s1.heap d its → d < s1.heap.objs.size := fun t => by
          obtain ⟨o, e, _⟩ := t
          exact Heap.lt_size e
        refine zip_begins3 (begins_tuple a _) (begins_tuple b _) (begins_tuple c _) p1 p2 p3 fun h' hz hTI hTO g1 g2 g3 hsz hk => wpAny_pyIter_zip hz ?_
        have I2 : Inv X pins σ H1 { s1 with heap := h' } := I1.kept (t' := s1.toks) hk
        have S := zip_sep3 (N := s1.heap.objs.size) (fp1 := [a]) (fp2 := [b]) (fp3 := [c]) (fun d hd => by rw [List.mem_singleton.mp hd]; exact low p1) (fun d hd => by rw [List.mem_singleton.mp hd]; exact low p2) (fun d hd => by rw [List.mem_singleton.mp hd]; exact low p3)
        have ne : ∀ {d : Addr} (k : Nat), d < s1.heap.objs.size → d ≠ s1.heap.objs.size + k := fun k lt => Nat.ne_of_lt (Nat.lt_of_lt_of_le lt (Nat.le_add_right _ _))
        refine ⟨_, _, _, _, H1, rfl, I2, turn_z3 S (ne 0 (low p1)) (ne 1 (low p2)) (ne 2 (low p3)), ⟨hz, hTI, ⟨_, _, _, hTO⟩, ⟨_, g1, rfl, rfl⟩, ⟨_, g2, rfl, rfl⟩, ⟨_, g3, rfl, rfl⟩⟩, fun d hd => ?_, q⟩
        have le : s1.heap.objs.size ≤ d := by
          have cases6 : d = s1.heap.objs.size + 5 ∨ d = s1.heap.objs.size + 3 ∨ d = s1.heap.objs.size + 4 ∨ d = s1.heap.objs.size ∨ d = s1.heap.objs.size + 1 ∨ d = s1.heap.objs.size + 2 := by simpa using hd
          rcases cases6 with e | e | e | e | e | e <;> rw [e]
          · exact Nat.le_add_right _ _
          · exact Nat.le_add_right _ _
          · exact Nat.le_add_right _ _
          · exact Nat.le_refl _
          · exact Nat.le_add_right _ _
          · exact Nat.le_add_right _ _
        exact I1.fpOk le (I1.hok.fresh le)
theorem pe_revT {X : Cx} {e : Expr} {te : TE} {k : Nat} {p1 p2 p3 pos : Pos} (he : PE X e te) : PE X (.Subscript e (.Slice none none (some (.UnaryOp .USub (.Constant (.int 1) k p1) p2)) p3) pos) (tRevT X.K te) := by
  constructor
  intro pins s σ H Q I h
  refine Subscript_ (thn (he.run pins s σ H _ I h) fun v s1 ⟨x, H1, I1, r1, a, xs, ex, hx, q⟩ => ?_)
  subst ex
  cases r1
  have minus : PO X (some (.UnaryOp .USub (.Constant (.int 1) k p1) p2)) (tPart (tUn (rU fun i => .int (-i)) (tC (.int 1)))) := po_some (pe_un un_neg pe_int)
  refine wpAny_Slice (thn (po_none.run pins s1 σ H1 (fun o H2 => o = none ∧ H2 = H1) I1 ⟨rfl, rfl⟩) fun vl s2 ⟨l, H2, I2, pl, el, e2⟩ => ?_)
  subst el e2
  refine thn (po_none.run pins s2 σ H2 (fun o H3 => o = none ∧ H3 = H2) I2 ⟨rfl, rfl⟩) fun vu s3 ⟨u, H3, I3, pu, eu, e3⟩ => ?_
  subst eu e3
  refine thn (minus.run pins s3 σ H3 (fun o H4 => o = some (-1) ∧ H4 = H3) I3 ⟨1, rfl, -1, rfl, rfl, rfl⟩) fun vs s4 ⟨o, H4, I4, ps, eo, e4⟩ => ?_
  subst eo e4
  cases pl
  cases pu
  have I5 : Inv X pins σ H4 { s4 with heap := s4.heap.push { cls := .type "slice", data := .fields #[.none, .none, vs] } } := I4.kept (t' := s4.toks) fun b ob q => Heap.get?_push_of_some _ q
  obtain ⟨its, r, ht, hz⟩ := I5.tuple hx
  refine tail_any (ops := [.ref a, .ref s4.heap.objs.size]) ht.typeIs PyProof.Rows.slot_tuple_getitem.lookup ?_ (by with_unfolding_all rfl)
  refine getRev ht (Heap.IsSliceOf.new _ .none .none vs) ps (by rw [← r.length]; exact hz) ?_
  refine ⟨.ref _, _, I5.laid (t' := s4.toks) (o := .tup xs.reverse) (fun b ob q => Heap.get?_push_of_some _ q) (Nat.le_refl _) ?_, rfl, q _ (I5.hok.fresh (Nat.le_refl _))⟩
  exact ⟨by rw [List.length_reverse]; exact hz, _, r.reverse, ⟨_, Heap.get?_push_size _ rfl, rfl, 0, rfl⟩⟩
end
end FwT
namespace Fw
open PySem PySem.Spec PyProof.Rows L2 Evl FwD FwS FwT
theorem paired_dp {K : PySem.W.Frag} {H : Hp} : ∀ {xs : List V} {ds : List PyData}, DxAll K H xs ds → Paired (Dx K H) xs ds
  | _, _, .nil => .nil
  | _, _, .cons h t => .cons h (paired_dp t)
theorem dp_paired {K : PySem.W.Frag} {H : Hp} : ∀ {xs : List V} {ds : List PyData}, Paired (Dx K H) xs ds → DxAll K H xs ds
  | _, _, .nil => .nil
  | _, _, .cons h t => .cons h (dp_paired t)
theorem paired_dp0 {K : PySem.W.Frag} {H : Hp} : ∀ {xs : List V} {ds : List PyData}, DpAll K H xs ds → Paired (Dp K H) xs ds
  | _, _, .nil => .nil
  | _, _, .cons h t => .cons h (paired_dp0 t)
theorem dp_paired0 {K : PySem.W.Frag} {H : Hp} : ∀ {xs : List V} {ds : List PyData}, Paired (Dp K H) xs ds → DpAll K H xs ds
  | _, _, .nil => .nil
  | _, _, .cons h t => .cons h (dp_paired0 t)
section
variable {K K' K2 : PySem.W.Frag} {p : Option Addr} {env : List Slot} {Φ : PyData → Prop} {te ta' : TE} {ta : TA} {O : Outs}
/-! ### tests of two classes -/
theorem kitAny2 {t a b : String} {r1 r2 : Bool} (h1 : kitB t a = some r1) (h2 : kitB t b = some r2) : PySem.W.kitAny K (.type t) [.type a, .type b] = some (r1 || r2) := by
  unfold PySem.W.kitAny
  rw [kit_ty h1]
  cases r1 with
  | true => rfl
  | false =>
    show PySem.W.kitAny K (.type t) [.type b] = _
    unfold PySem.W.kitAny
    rw [kit_ty h2]
    cases r2 <;> rfl
theorem e_isi2 {a b : String} (h : WpE K p te env fun x => ∃ b1, kitB (tyD x) a = some b1 ∧ ∃ b2, kitB (tyD x) b = some b2 ∧ Φ (.bool (b1 || b2))) (hK : K' = K := by with_unfolding_all rfl) (hna : a ≠ "#" := by decide) :
    WpE K p (tCB (rIsiT K') (tCons te (tCons (tTup (tCons (tC (.ty a)) (tCons (tC (.ty b)) tNil))) tNil))) env Φ := fun H0 σ Hk H Q e po en k => by
  subst hK
  refine h H0 σ Hk H _ e po en fun vx x Hk1 H1 g1 rx ⟨b1, h1, b2, h2, f⟩ => ⟨by show 2 ≤ sizeLine; decide, fun q hq => ?_⟩
  have g2 := Go.new (o := .tup [.ty a, .ty b]) g1.kr g1.po hq
  refine ⟨vx, q, [.ty a, .ty b], .type (tyD x), [.type a, .type b], _, rfl, upd_same, .cons (.ty a) (.cons (.ty b) .nil), tyX (dp_mono g2.kr _ (dp_mono g2.kk _ rx)) (ty_ne hna h1), kitAny2 h1 h2, ?_⟩
  exact k _ _ _ _ (g1.trans g2) (.bl _) f
/-! ### order, sorted, sums -/
theorem od_ord {f : PyData → PyData → Bool} {x y : PyData} (al : PySem.W.alike x y = true) (nn : x ≠ .none) (dp : x.depth ≤ 60) (nx : x.hasDict = false) (ny : y.hasDict = false) (h : Φ (.bool (f x y))) (hK : K' = K := by with_unfolding_all rfl) : OpD K p (rOrd K' f) x y Φ := fun vx vy Hk H Q e po rx ry k => by
  subst hK
  exact ⟨x, y, dx_dp x nx (dp_mono e x rx), dx_dp y ny (dp_mono e y ry), al, nn, dp, k _ _ _ _ (Go.refl e po) (.bl _) h⟩
theorem od_sub_bb {a b : Bool} (h : Φ (.int (b2i a - b2i b))) : OpD K p (fun x y H Q => ∃ a b, x = .bl a ∧ y = .bl b ∧ Q (.int (b2i a - b2i b)) H) (.bool a) (.bool b) Φ := fun vx vy Hk H Q e po rx ry k => by
  rw [dp_bl rx, dp_bl ry]
  exact ⟨a, b, rfl, rfl, k _ _ _ _ (Go.refl e po) (.int _) h⟩
theorem cb_sumT2 {ds : List PyData} (ns : List Int) (hd : ds = ns.map .int) (h : Φ (.int ns.sum)) (hK : K' = K := by with_unfolding_all rfl) : CbD K p (rSumT K') [.tuple ds] Φ := fun vs Hk H Q e po rx k => by
  subst hK
  subst hd
  cases rx with
  | cons rx rr =>
    cases rr
    obtain ⟨a, xs, rfl, hT, r⟩ := dp_tup rx
    have := dpAll_ints r
    subst this
    exact ⟨a, ns, rfl, ex_t e hT, k _ _ _ _ (Go.refl e po) (.int _) h⟩
theorem cb_maxT {ds : List PyData} (n : Int) (ns : List Int) (hd : ds = (n :: ns).map .int) (h : Φ (.int (ns.foldl max n))) (hK : K' = K := by with_unfolding_all rfl) : CbD K p (rMaxT K') [.tuple ds] Φ := fun vs Hk H Q e po rx k => by
  subst hK
  subst hd
  cases rx with
  | cons rx rr =>
    cases rr
    obtain ⟨a, xs, rfl, hT, r⟩ := dp_tup rx
    have := dpAll_ints (ns := n :: ns) r
    subst this
    exact ⟨a, n, ns, rfl, ex_t e hT, k _ _ _ _ (Go.refl e po) (.int _) h⟩
/-- sorted(..), as a new list -/
theorem f_sorted {Ψ : List PyData → Prop} (h : WpA K p ta env fun xs => ∃ ds, xs = [.list ds] ∧ PySem.W.AllAlike ds ∧ PySem.W.Sortable ds ∧ (∀ d ∈ ds, d.depth ≤ 60) ∧ PyData.hasDictAll ds = false ∧ Ψ (sortD ds)) (hK : K' = K := by with_unfolding_all rfl) : WpF K p (tCB (rSortD K') ta) env Ψ := fun H0 σ Hk H Q e po en k => by
  subst hK
  refine h H0 σ Hk H _ e po en fun vs xs Hk1 H1 g1 r ⟨ds, ex, al, so, dp, nd, f⟩ => ?_
  subst ex
  cases r with
  | cons r rr =>
    cases rr
    obtain ⟨a, ws, rfl, hL, r⟩ := dp_lst r
    refine ⟨a, ws, ds, Dp K' Hk1, rfl, ex_l g1.kr hL, paired_dp0 (dxAll_dp ds nd r), fun x d h => dp_mono0 g1.kr d h, al, so, dp, fun ys q hy hq => ?_⟩
    have hp := pot_ne g1.po hq
    exact k q ys (sortD ds) Hk1 _ ((Go.trans g1 (Go.refl g1.kr g1.po)).mut (fresh0 g1 hq) hp (fresh_back g1.kr hq)) (fresh0 g1 hq) (fresh_back g1.kr hq) upd_same (dpAll_dx _ (dp_paired0 hy)) f
/-- list(..), as a new list -/
theorem f_list {Ψ : List PyData → Prop} {r : List V → Hp → VK → Prop} (h : WpE K p te env fun x => ∃ ds, (x = .tuple ds ∨ x = .list ds) ∧ Ψ ds) (hr : r = fun xs H Q => ∃ p ys, xs = [V.ref p] ∧ (SqL K H p ys ∨ SqT K H p ys) ∧ ∀ l, H l = none → Q (.ref l) (upd H l (.lst ys)) := by with_unfolding_all rfl) :
    WpF K p (tCB r (tCons te tNil)) env Ψ := fun H0 σ Hk H Q e po en k => by
  subst hr
  refine h H0 σ Hk H _ e po en fun v x Hk1 H1 g1 rx ⟨ds, ex, f⟩ => ?_
  have fin : ∀ (xs : List V), DxAll K Hk1 xs ds → ∀ l, H1 l = none → Q (.ref l) (upd H1 l (.lst xs)) := fun xs r l hl =>
    k l xs ds Hk1 _ ((Go.trans g1 (Go.refl g1.kr g1.po)).mut (fresh0 g1 hl) (pot_ne g1.po hl) (fresh_back g1.kr hl)) (fresh0 g1 hl) (fresh_back g1.kr hl) upd_same r f
  rcases ex with rfl | rfl
  · obtain ⟨a, xs, rfl, hT, r⟩ := dp_tup rx
    exact ⟨a, xs, rfl, .inr (ex_t g1.kr hT), fin xs r⟩
  · obtain ⟨a, xs, rfl, hT, r⟩ := dp_lst rx
    exact ⟨a, xs, rfl, .inl (ex_l g1.kr hT), fin xs r⟩
/-- a slice of a list, a new one -/
theorem f_slL {Ψ : List PyData → Prop} {tl th : TO} (h : WpE K p te env fun x => WpO K p tl env fun l => WpO K p th env fun u => ∃ ds, x = .list ds ∧ Ψ (cutD ds l u)) (hK : K' = K := by with_unfolding_all rfl) : WpF K p (tSl (rSlL K') te tl th) env Ψ := fun H0 σ Hk H Q e po en k => by
  subst hK
  refine h H0 σ Hk H _ e po en fun v x Hk1 H1 g1 rx h1 => h1 H0 σ Hk1 H1 _ g1.kr g1.po (en.go g1) fun l Hk2 H2 g2 h2 => h2 H0 σ Hk2 H2 _ g2.kr g2.po ((en.go g1).go g2) fun u Hk3 H3 g3 ⟨ds, ex, f⟩ => ?_
  subst ex
  have g := (g1.trans g2).trans g3
  obtain ⟨a, xs, rfl, hL, r⟩ := dp_lst (dp_mono g3.kk _ (dp_mono g2.kk _ rx))
  refine ⟨a, xs, rfl, ex_l g3.kr hL, fun q hq => ?_⟩
  refine k q _ (cutD ds l u) Hk3 _ (g.mut (fresh0 g hq) (pot_ne g.po hq) (fresh_back g.kr hq)) (fresh0 g hq) (fresh_back g.kr hq) upd_same ?_ f
  unfold cutV cutD
  rw [dpAll_len r]
  exact dpAll_take _ (dpAll_drop _ r)
theorem f_revL {Ψ : List PyData → Prop} (h : WpE K p te env fun x => ∃ ds, x = .list ds ∧ Ψ ds.reverse) (hK : K' = K := by with_unfolding_all rfl) : WpF K p (tRevL K' te) env Ψ := fun H0 σ Hk H Q e po en k => by
  subst hK
  refine h H0 σ Hk H _ e po en fun v x Hk1 H1 g rx ⟨ds, ex, f⟩ => ?_
  subst ex
  obtain ⟨a, xs, rfl, hL, r⟩ := dp_lst rx
  refine ⟨a, xs, rfl, ex_l g.kr hL, fun q hq => ?_⟩
  exact k q _ ds.reverse Hk1 _ ((Go.trans g (Go.refl g.kr g.po)).mut (fresh0 g hq) (pot_ne g.po hq) (fresh_back g.kr hq)) (fresh0 g hq) (fresh_back g.kr hq) upd_same (dpAll_rev r) f
theorem e_revT (h : WpE K p te env fun x => ∃ ds, x = .tuple ds ∧ Φ (.tuple ds.reverse)) (hK : K' = K := by with_unfolding_all rfl) : WpE K p (tRevT K' te) env Φ := fun H0 σ Hk H Q e po en k => by
  subst hK
  refine h H0 σ Hk H _ e po en fun v x Hk1 H1 g rx ⟨ds, ex, f⟩ => ?_
  subst ex
  obtain ⟨a, xs, rfl, hT, r⟩ := dp_tup rx
  refine ⟨a, xs, rfl, ex_t g.kr hT, fun q hq => ?_⟩
  exact k _ _ _ _ (g.trans (Go.new g.kr g.po hq)) (.tup (SqT.of upd_same) (dpAll_mono (Ex.new (fresh_back g.kr hq)) _ (dpAll_rev r))) f
end
end Fw
namespace FwU
open PySem PySem.Spec PyProof.Rows L2
/-- list + list, both known or not -/
def rCatL (K : PySem.W.Frag) : R2 := fun x y H Q => ∃ a b xs ys, x = .ref a ∧ y = .ref b ∧ SqL K H a xs ∧ SqL K H b ys ∧ xs.length + ys.length ≤ sizeLine ∧ ∀ p, H p = none → Q (.ref p) (upd H p (.lst (xs ++ ys)))
theorem op_catL {X : Cx} : OpR X (binaryOp .Add) (rCatL X.K) := fun pins s σ H x y v u Q I rx ry h => by
  obtain ⟨a, b, xs, ys, rfl, rfl, ha, hb, hz, q⟩ := h
  cases rx
  cases ry
  obtain ⟨its, r, hl, _⟩ := I.list ha
  obtain ⟨its2, r2, hl2, _⟩ := I.list hb
  have l1 := r.length
  have l2 := r2.length
  obtain ⟨⟨cls, dd, data, sl⟩, ho, hc, n, hd⟩ := hl.isList
  obtain ⟨⟨cls2, dd2, data2, sl2⟩, ho2, hc2, n2, hd2⟩ := hl2.isList
  simp only at hc hd hc2 hd2
  subst hc hd hc2 hd2
  refine concat_meets ⟨_, ho, rfl⟩ ⟨_, ho2, rfl⟩ noFill_list_add seq_list_add PySem.F.slot_list_add PySem.F.entry_list_add (PySem.F.args_list_add_2 _ _) (list_addW a b its.toArray its2.toArray n n2 dd dd2 sl sl2 (by rw [List.size_toArray, List.size_toArray]; omega)) ⟨ho, ho2, ?_⟩
  have ea : its.toArray ++ its2.toArray = (its ++ its2).toArray := by simp
  rw [ea]
  exact ⟨.ref _, _, I.lnew (t' := s.toks) (r.append r2) (by rw [List.length_append]; omega), rfl, q _ I.fresh⟩
/-- a walk over a list or a tuple -/
def iAny (K : PySem.W.Frag) (tl : TE) : L2.TI := fun σ H R => tl σ H fun x H1 => (∃ a, x = .ref a ∧ (∃ xs, SqL K H1 a xs) ∧ R (Itl K a) H1) ∨ ∃ a, x = .ref a ∧ (∃ xs, SqT K H1 a xs) ∧ R (Itt K a) H1
theorem pi_any {X : Cx} {tg l : Expr} {tl : TE} (hl : PE X l tl) : PI X tg l (iAny X.K tl) := by
  refine ⟨fun pins s σ H R I h => ?_⟩
  refine thn (hl.run pins s σ H _ I h) fun v s1 ⟨x, H1, I1, r1, q1⟩ => ?_
  rcases q1 with ⟨a, e, ⟨xs, hq⟩, q⟩ | ⟨a, e, ⟨xs, hq⟩, q⟩
  · subst e
    cases r1
    obtain ⟨its, rv, p, hz⟩ := I1.list hq
    refine wpAny_pyIter_list p.isList ?_
    refine ⟨s1.heap.objs.size, [s1.heap.objs.size], _, _, H1, rfl, I1.kept (t' := s1.toks) fun b o e => Heap.get?_push_of_some _ e, turn_list a _, ⟨_, Heap.get?_push_size _ rfl, rfl, rfl⟩, fun b hb => ?_, q⟩
    have e : b = s1.heap.objs.size := by simpa using hb
    subst e
    exact I1.fpOk (Nat.le_refl _) (I1.hok.fresh (Nat.le_refl _))
  · subst e
    cases r1
    obtain ⟨its, rv, p, hz⟩ := I1.tuple hq
    refine wpAny_pyIter_tuple (show s1.heap.IsTuple a its.toArray from p) ?_
    refine ⟨s1.heap.objs.size, [s1.heap.objs.size], _, _, H1, rfl, I1.kept (t' := s1.toks) fun b o e => Heap.get?_push_of_some _ e, turn_tuple a _, ⟨_, Heap.get?_push_size _ rfl, rfl, rfl⟩, fun b hb => ?_, q⟩
    have e : b = s1.heap.objs.size := by simpa using hb
    subst e
    exact I1.fpOk (Nat.le_refl _) (I1.hok.fresh (Nat.le_refl _))
end FwU
namespace Fw
open PySem PySem.Spec PyProof.Rows L2 Evl FwD FwS FwT FwU
theorem flat_ints0 : ∀ ns : List Int, flatAllD (ns.map PyData.int) = true
  | [] => by simp [flatAllD]
  | n :: ns => by
    have := flat_ints0 ns
    simp [flatAllD, flatD] at this ⊢
    exact this
theorem flat_tupI (ns : List Int) : flatD (.tuple (ns.map PyData.int)) = true := by
  have := flat_ints0 ns
  simp [flatD] at this ⊢
  exact this
section
variable {K K' K2 : PySem.W.Frag} {p : Option Addr} {env : List Slot} {Φ : PyData → Prop} {te tb : TE} {ta : TA} {O : Outs}
/-- list + list, the one known, the other known: a new one -/
theorem f_catL {Ψ : List PyData → Prop} (h : WpE K p te env fun x => WpE K p tb env fun y => ∃ ds es, x = .list ds ∧ y = .list es ∧ ds.length + es.length ≤ 100000 ∧ Ψ (ds ++ es)) (hK : K' = K := by with_unfolding_all rfl) : WpF K p (tOp (rCatL K') te tb) env Ψ := fun H0 σ Hk H Q e po en k => by
  subst hK
  refine h H0 σ Hk H _ e po en fun v x Hk1 H1 g1 rx h1 => h1 H0 σ Hk1 H1 _ g1.kr g1.po (en.go g1) fun w y Hk2 H2 g2 ry ⟨ds, es, ex, ey, hz, f⟩ => ?_
  subst ex ey
  have g := g1.trans g2
  obtain ⟨a, xs, rfl, hL, r⟩ := dp_lst (dp_mono g2.kk _ rx)
  obtain ⟨b, ys, rfl, hM, u⟩ := dp_lst ry
  refine ⟨a, b, xs, ys, rfl, rfl, ex_l g.kr hL, ex_l g.kr hM, sz_of (by rw [dpAll_len r, dpAll_len u]; exact hz), fun q hq => ?_⟩
  exact k q _ (ds ++ es) Hk2 _ (g.mut (fresh0 g hq) (pot_ne g.po hq) (fresh_back g.kr hq)) (fresh0 g hq) (fresh_back g.kr hq) upd_same (dpAll_app r u) f
/-- two names, the second for a new list -/
theorem s_parF {i j : Nat} (h : WpE K p te env fun x => WpF K p tb env fun ds => O.nx ((env.set i (.dat x)).set j (.own ds))) : WpS K p (tPar i j (tCons te (tCons tb tNil))) env O := fun H0 Hk0 σ Hk H D g en k =>
  h H0 σ Hk H _ g.kr g.po en fun v x Hk1 H1 g1 rx h1 => h1 H0 σ Hk1 H1 _ g1.kr g1.po (en.go g1) fun l vs ds Hk' H' g' h0 hk hl r f => by
    have gg := g.trans g1
    refine ⟨v, .ref l, rfl, k.nx _ _ Hk' H' (gg.trans g') ?_ f⟩
    exact En.add_own ((en.go g1).set rx) (((en.go g1).go g').set (dp_mono g'.kk x rx)) (fresh0 gg h0) h0 hl hk (pot_ne g1.po h0) r
/-- two places of an own list are set at once -/
theorem s_set2 {i j1 j2 : Nat} {ds : List PyData} {k1 k2 : Int} (n1 n2 : Nat) (hi : env[i]? = some (.own ds)) (h1 : env[j1]? = some (.dat (.int k1))) (h2 : env[j2]? = some (.dat (.int k2))) (e1 : ixN ds.length k1 = some n1) (e2 : ixN ds.length k2 = some n2)
    (h : WpE K p te env fun d => ∃ a b, d = .tuple [a, b] ∧ O.nx (env.set i (.own ((ds.set n1 a).set n2 b)))) (hK : K' = K := by with_unfolding_all rfl) :
    WpS K p (tAsg te (gTup K' 2 (gCons (gSub (tVar i) (tVar j1) rSetL) (gCons (gSub (tVar i) (tVar j2) rSetL) gNil)))) env O := fun H0 Hk0 σ Hk H D g en k => by
  subst hK
  refine h H0 σ Hk H _ g.kr g.po en fun v d Hk' H' g' r ⟨a, b, ed, q⟩ => ?_
  subst ed
  obtain ⟨t, xs, rfl, hT, rx⟩ := dp_tup r
  cases rx with
  | @cons va _ _ _ ra r2 =>
    cases r2 with
    | @cons vb _ _ _ rb r3 =>
      cases r3
      have en' := en.go g'
      obtain ⟨ov, s1, l, vs, rfl, h0, hk, hp, hl, rr⟩ := en'.slot i _ hi
      obtain ⟨_, q1, v1, rfl, r1⟩ := en'.slot j1 _ h1
      obtain ⟨_, q2, v2, rfl, r2⟩ := en'.slot j2 _ h2
      have z1 := dp_int r1
      have z2 := dp_int r2
      subst z1 z2
      have hlen := dpAll_len rr
      have hlt : i < env.length := (List.getElem?_eq_some_iff.mp hi).1
      have enA := en'.put_own (ws := vs.set n1 va) hi s1 (dpAll_set ra n1 rr)
      have iA : (env.set i (.own (ds.set n1 a)))[i]? = some (.own (ds.set n1 a)) := by rw [List.getElem?_set]; simp [hlt]
      have enB := enA.put_own (ws := (vs.set n1 va).set n2 vb) iA s1 (dpAll_set rb n2 (dpAll_set ra n1 rr))
      rw [List.set_set] at enB
      have gA := (g.trans g').mut (o := .lst (vs.set n1 va)) h0 hp hk
      have gB := gA.mut (o := .lst ((vs.set n1 va).set n2 vb)) h0 hp hk
      refine ⟨t, _, rfl, ex_t g'.kr hT, rfl, va, _, rfl, .ref l, s1, .int k1, q1, l, vs, k1, n1, rfl, rfl, hl, by rw [hlen]; exact e1, vb, [], rfl, .ref l, s1, .int k2, q2, l, _, k2, n2, rfl, rfl, upd_same, by rw [List.length_set, hlen]; exact e2, rfl, ?_⟩
      exact k.nx _ σ Hk' _ gB enB q
/-- insert into an own list -/
theorem s_ins {i : Nat} {ds : List PyData} {r : V → List V → Hp → VK → Prop} (hi : env[i]? = some (.own ds)) (h : WpE K p te env fun x => WpE K p tb env fun d => ∃ k : Nat, x = .int k ∧ k < 100000 ∧ ds.length < 100000 ∧ O.nx (env.set i (.own (ds.take k ++ [d] ++ ds.drop k)))) (hK : K' = K := by with_unfolding_all rfl)
    (hr : r = fun x vs H Q => ∃ (l : Addr) (xs : List V) (i : Int) (y : V), x = .ref l ∧ vs = [.int i, y] ∧ H l = some (.lst xs) ∧ xs.length < sizeLine ∧ 0 ≤ i ∧ i < 2 ^ 63 ∧ Q .non (upd H l (.lst (xs.take i.toNat ++ [y] ++ xs.drop i.toNat))) := by with_unfolding_all rfl) :
    WpS K p (tDrop (tBM K' "list" r (tVar i) (tCons te (tCons tb tNil)))) env O := fun H0 Hk0 σ Hk H D g en k => by
  subst hK hr
  obtain ⟨ov, s1, l, vs, rfl, h0, hk, hp, hl, rr⟩ := en.slot i _ hi
  refine ⟨.ref l, s1, .inl ⟨rfl, vs, SqL.of hl⟩, h H0 σ Hk H _ g.kr g.po en fun v x Hk1 H1 g1 rx h1 => h1 H0 σ Hk1 H1 _ g1.kr g1.po (en.go g1) fun w d Hk2 H2 g2 rd ⟨n, ex, n1, hz, q⟩ => ?_⟩
  subst ex
  have gg := g1.trans g2
  have hl' : H2 l = some (.lst vs) := gg.rr l _ hp hl
  have hk' : Hk2 l = none := gg.nk l (by rw [hl]; exact nofun) hk
  have e1 := dp_int rx
  subst e1
  refine ⟨l, vs, (n : Int), w, rfl, rfl, hl', sz_lt (by rw [dpAll_len rr]; exact hz), Int.natCast_nonneg n, by omega, ?_⟩
  refine k.nx _ σ Hk2 _ ((g.trans gg).mut h0 hp hk') ?_ q
  have r0 := dpAll_mono gg.kk ds rr
  rw [Int.toNat_natCast]
  exact (en.go gg).put_own hi s1 (dpAll_app (dpAll_app (dpAll_take n r0) (.cons rd .nil)) (dpAll_drop n r0))
variable {Ψ : List PyData → Prop}
theorem i_zip3 (h : WpA K p ta env fun ds => ∃ xs ys zs, ds = [.tuple xs, .tuple ys, .tuple zs] ∧ ys.length = xs.length ∧ zs.length = xs.length ∧ ∃ ts : List PyData, ts.length = xs.length ∧ (∀ (i : Nat) (x y z : PyData), xs[i]? = some x → ys[i]? = some y → zs[i]? = some z → ts[i]? = some (.tuple [x, y, z])) ∧ Ψ ts) (hK : K' = K := by with_unfolding_all rfl) : WpI K p (iZip3 K' ta) env Ψ := fun H0 σ Hk H R e po en k => by
  subst hK
  refine h H0 σ Hk H _ e po en fun vs ds Hk1 H1 g rd ⟨xs, ys, zs, ed, ly, lz, ts, lt, ht, f⟩ => ?_
  subst ed
  cases rd with
  | cons r1 r2 =>
    cases r2 with
    | cons r2 r3 =>
      cases r3 with
      | cons r3 r4 =>
        cases r4
        obtain ⟨a, us, rfl, hS, r⟩ := dp_tup r1
        obtain ⟨b, ws, rfl, hT, u⟩ := dp_tup r2
        obtain ⟨c, qs, rfl, hU, q⟩ := dp_tup r3
        refine ⟨a, b, c, us, ws, qs, rfl, ex_t g.kr hS, ex_t g.kr hT, ex_t g.kr hU, k _ _ Hk1 H1 g (fun Hk2 H2 x1 x2 po2 => ?_) f⟩
        have hS2 : SqT K' H2 a us := ex_t (x1.trans x2) hS
        have hT2 : SqT K' H2 b ws := ex_t (x1.trans x2) hT
        have hU2 : SqT K' H2 c qs := ex_t (x1.trans x2) hU
        have l1 := dpAll_len r
        have l2 := dpAll_len u
        have l3 := dpAll_len q
        rw [lt]
        refine ⟨fun i hi => ⟨us, ws, qs, hS2, hT2, hU2, by omega⟩, ⟨us, ws, qs, hS2, hT2, hU2, by omega⟩, fun i x H' hi y => ?_⟩
        obtain ⟨T, x', y', z', rfl, nT, rfl, f1, f2, f3⟩ := y
        have hi1 : i < xs.length := by omega
        have hi2 : i < ys.length := by omega
        have hi3 : i < zs.length := by omega
        obtain ⟨v, hv, rv⟩ := dpAll_get r (List.getElem?_eq_getElem hi1)
        obtain ⟨w, hw, rw'⟩ := dpAll_get u (List.getElem?_eq_getElem hi2)
        obtain ⟨z, hz, rz⟩ := dpAll_get q (List.getElem?_eq_getElem hi3)
        have e1 : x' = v := Option.some.inj ((f1 us hS2).symm.trans hv)
        have e2 : y' = w := Option.some.inj ((f2 ws hT2).symm.trans hw)
        have e3 : z' = z := Option.some.inj ((f3 qs hU2).symm.trans hz)
        subst e1 e2 e3
        have nk := fresh_back x2 nT
        have xn := Ex.new (o := .tup [x', y', z']) nk
        exact ⟨_, _, ht i _ _ _ (List.getElem?_eq_getElem hi1) (List.getElem?_eq_getElem hi2) (List.getElem?_eq_getElem hi3), .tup (SqT.of upd_same) (.cons (dp_mono xn _ (dp_mono x1 _ rv)) (.cons (dp_mono xn _ (dp_mono x1 _ rw')) (.cons (dp_mono xn _ (dp_mono x1 _ rz)) .nil))), Go.new x2 po2 nT⟩
theorem i_any {tl : TE} (h : WpE K p tl env fun d => ∃ xs, (d = .list xs ∨ d = .tuple xs) ∧ Ψ xs) (hK : K' = K := by with_unfolding_all rfl) : WpI K p (iAny K' tl) env Ψ := fun H0 σ Hk H R e po en k => by
  subst hK
  refine h H0 σ Hk H _ e po en fun v d Hk1 H1 g r ⟨xs, ed, f⟩ => ?_
  rcases ed with rfl | rfl
  · obtain ⟨a, vs, rfl, hS, r⟩ := dp_lst r
    refine .inl ⟨a, rfl, ⟨vs, ex_l g.kr hS⟩, k _ xs Hk1 H1 g (fun Hk2 H2 x1 x2 po2 => ?_) f⟩
    have hS2 : SqL K' H2 a vs := ex_l (x1.trans x2) hS
    have hl := dpAll_len r
    refine ⟨fun i hi => ⟨vs, vs[i]'(by omega), hS2, by simp [hl, hi]⟩, ⟨vs, hS2, by omega⟩, fun i x H' hi y => ?_⟩
    obtain ⟨rfl, y⟩ := y
    obtain ⟨v, hv, rv⟩ := dpAll_get r (List.getElem?_eq_getElem hi)
    have ex : x = v := Option.some.inj ((y vs hS2).symm.trans hv)
    subst ex
    exact ⟨xs[i], Hk2, List.getElem?_eq_getElem hi, dp_mono x1 _ rv, Go.refl x2 po2⟩
  · obtain ⟨a, vs, rfl, hS, r⟩ := dp_tup r
    refine .inr ⟨a, rfl, ⟨vs, ex_t g.kr hS⟩, k _ xs Hk1 H1 g (fun Hk2 H2 x1 x2 po2 => ?_) f⟩
    have hS2 : SqT K' H2 a vs := ex_t (x1.trans x2) hS
    have hl := dpAll_len r
    refine ⟨fun i hi => ⟨vs, vs[i]'(by omega), hS2, by simp [hl, hi]⟩, ⟨vs, hS2, by omega⟩, fun i x H' hi y => ?_⟩
    obtain ⟨rfl, y⟩ := y
    obtain ⟨v, hv, rv⟩ := dpAll_get r (List.getElem?_eq_getElem hi)
    have ex : x = v := Option.some.inj ((y vs hS2).symm.trans hv)
    subst ex
    exact ⟨xs[i], Hk2, List.getElem?_eq_getElem hi, dp_mono x1 _ rv, Go.refl x2 po2⟩
end
end Fw
namespace Fw
open PySem PySem.Spec PyProof.Rows L2 Evl
def isInt : PyData → Bool
  | .int _ => true
  | _ => false
def toI : PyData → Int
  | .int n => n
  | _ => 0
theorem iteB {c : Bool} {A B : Prop} (h1 : c = true → A) (h2 : c = false → B) : if c = true then A else B := by
  cases c with
  | true => exact h1 rfl
  | false => exact h2 rfl
theorem iteNT {A B : Prop} (h : B) : if (!true) = true then A else B := h
theorem iteNF {A B : Prop} (h : A) : if (!false) = true then A else B := h
abbrev swap2 {α : Type} (l : List α) : List α := match l with
  | [a, b] => [b, a]
  | _ => []
abbrev same1 {α : Type} (l : List α) : List α := l
theorem e_callSw {K : PySem.W.Frag} {p : Option Addr} {env : List Slot} {Φ : PyData → Prop} {pre : List PyData → (PyData → Prop) → Prop} {E : XK} {tk : TA} (h : WpA K p tk env fun ds => ∃ a b, ds = [a, b] ∧ pre [b, a] Φ) : WpE K p (tCallK (SpF K pre) (onlyK swap2) E tNil tk) env Φ := fun H0 σ Hk H Q e po en k =>
  h H0 σ Hk H _ e po en fun vs ds Hk1 H1 g1 r ⟨a, b, ed, f⟩ => by
    subst ed
    cases r with
    | cons r1 r2 =>
      cases r2 with
      | cons r2 r3 =>
        cases r3
        exact ⟨Hk1, [b, a], Φ, g1.kr, .cons r2 (.cons r1 .nil), f, fun v d Hk' H' g rd f' => k v d Hk' H' (g1.trans (g.lift g1.po)) rd f'⟩
abbrev swap3 {α : Type} (l : List α) : List α := match l with
  | [a, b, c] => [c, b, a]
  | _ => []
theorem e_callS3 {K : PySem.W.Frag} {p : Option Addr} {env : List Slot} {Φ : PyData → Prop} {pre : List PyData → (PyData → Prop) → Prop} {E : XK} {tk : TA} (h : WpA K p tk env fun ds => ∃ a b c, ds = [a, b, c] ∧ pre [c, b, a] Φ) : WpE K p (tCallK (SpF K pre) (onlyK swap3) E tNil tk) env Φ := fun H0 σ Hk H Q e po en k =>
  h H0 σ Hk H _ e po en fun vs ds Hk1 H1 g1 r ⟨a, b, c, ed, f⟩ => by
    subst ed
    cases r with
    | cons r1 r2 =>
      cases r2 with
      | cons r2 r3 =>
        cases r3 with
        | cons r3 r4 =>
          cases r4
          exact ⟨Hk1, [c, b, a], Φ, g1.kr, .cons r3 (.cons r2 (.cons r1 .nil)), f, fun v d Hk' H' g rd f' => k v d Hk' H' (g1.trans (g.lift g1.po)) rd f'⟩
theorem f_callSw {K : PySem.W.Frag} {p : Option Addr} {env : List Slot} {Ψ : List PyData → Prop} {pre : List PyData → (List PyData → Prop) → Prop} {E : XK} {tk : TA} (h : WpA K p tk env fun ds => ∃ a b, ds = [a, b] ∧ pre [b, a] Ψ) : WpF K p (tCallK (SpN K pre) (onlyK swap2) E tNil tk) env Ψ := fun H0 σ Hk H Q e po en k =>
  h H0 σ Hk H _ e po en fun vs ds Hk1 H1 g1 r ⟨a, b, ed, f⟩ => by
    subst ed
    cases r with
    | cons r1 r2 =>
      cases r2 with
      | cons r2 r3 =>
        cases r3
        exact ⟨Hk1, [b, a], Ψ, g1.kr, .cons r2 (.cons r1 .nil), f, fun l us es Hk' H' g h0 hk hl rd f' => k l us es Hk' H' (g1.trans (g.lift g1.po)) (fresh0 g1 h0) hk hl rd f'⟩
theorem cb_reprI {K : PySem.W.Frag} {p : Option Addr} {Φ : PyData → Prop} {i : Int} (hi : i.natAbs.log2 < 1920) (h : Φ (.str (toString i))) {r : List V → Hp → VK → Prop} (hr : r = fun xs H Q => ∃ i : Int, xs = [V.int i] ∧ i.natAbs.log2 < 1920 ∧ Q (.str (toString i)) H := by with_unfolding_all rfl) : CbD K p r [.int i] Φ := fun vs Hk H Q e po rx k => by
  subst hr
  cases rx with
  | cons rx rr =>
    cases rr
    rw [dp_int rx]
    exact ⟨i, rfl, hi, k _ _ _ _ (Go.refl e po) (.str _) h⟩
theorem e_callS1 {K : PySem.W.Frag} {p : Option Addr} {env : List Slot} {Φ : PyData → Prop} {pre : List PyData → (PyData → Prop) → Prop} {E : XK} {tk : TA} (h : WpA K p tk env fun ds => pre ds Φ) : WpE K p (tCallK (SpF K pre) (onlyK same1) E tNil tk) env Φ := fun H0 σ Hk H Q e po en k =>
  h H0 σ Hk H _ e po en fun vs ds Hk1 H1 g1 r f => ⟨Hk1, ds, Φ, g1.kr, r, f, fun v d Hk' H' g rd f' => k v d Hk' H' (g1.trans (g.lift g1.po)) rd f'⟩
theorem e_repL {K : PySem.W.Frag} {p : Option Addr} {env : List Slot} {Φ : PyData → Prop} {ta : TA} {tb : TE} (h : WpA K p ta env fun xs => xs.length ≤ 100 ∧ WpE K p tb env fun y => ∃ k : Int, y = .int k ∧ 0 ≤ k ∧ k ≤ 1000 ∧ Φ (.list (List.replicate k.toNat xs).flatten)) : WpE K p (tOp rRep (tLst ta) tb) env Φ :=
  e_new (f_rep (f_lst fun H0 σ Hk H Q e po en k => h H0 σ Hk H Q e po en fun vs ds Hk' H' g r f => k vs ds Hk' H' g r ⟨by have := f.1; omega, f.2.mono fun y ⟨n, ey, n0, n1, q⟩ => ⟨n, ey, n0, n1, f.1, q⟩⟩))
theorem s_app2 {K K' : PySem.W.Frag} {p : Option Addr} {env : List Slot} {te : TE} {O : Outs} {i : Nat} {ds : List PyData} (hi : env[i]? = some (.own ds)) (h : WpE K p te env fun d => ds.length < 100000 ∧ O.nx (env.set i (.own (ds ++ [d])))) (hK : K' = K := by with_unfolding_all rfl) : WpS K p (tDrop (tBM K' "list" rAppend (tVar i) (tCons te tNil))) env O := s_app_ hi h hK
theorem iteI {m : Int} {A B : Prop} (h : A) : if isInt (.int m) = true then A else B := h
theorem iteNI {m : Int} {A B : Prop} (h : B) : if (!isInt (.int m)) = true then A else B := h
theorem iteD {c : Prop} [Decidable c] {A B : Prop} (hc : c) (h : A) : if decide c = true then A else B := by
  rw [decide_eq_true hc]
  exact h
theorem iteDF {c : Prop} [Decidable c] {A B : Prop} (hc : ¬ c) (h : B) : if decide c = true then A else B := by
  rw [decide_eq_false hc]
  exact h
theorem iteND {c : Prop} [Decidable c] {A B : Prop} (hc : c) (h : B) : if (!decide c) = true then A else B := by
  rw [decide_eq_true hc]
  exact h
theorem iteNDF {c : Prop} [Decidable c] {A B : Prop} (hc : ¬ c) (h : A) : if (!decide c) = true then A else B := by
  rw [decide_eq_false hc]
  exact h
theorem iteP {c : Prop} [Decidable c] {A B : Prop} (h1 : c → A) (h2 : ¬ c → B) : if decide c = true then A else B := by
  by_cases h : c
  · exact iteD h (h1 h)
  · exact iteDF h (h2 h)
theorem iteNP {c : Prop} [Decidable c] {A B : Prop} (h1 : ¬ c → A) (h2 : c → B) : if (!decide c) = true then A else B := by
  by_cases h : c
  · exact iteND h (h2 h)
  · exact iteNDF h (h1 h)
theorem zip_ints (f : Int → Int → Int) : ∀ xs ys : List Int, List.zipWith (fun a b => PyData.int (f (toI a) (toI b))) (xs.map .int) (ys.map .int) = (List.zipWith f xs ys).map .int
  | [], _ => rfl
  | _ :: _, [] => rfl
  | x :: xs, y :: ys => by
    show PyData.int (f x y) :: List.zipWith (fun a b => PyData.int (f (toI a) (toI b))) (xs.map .int) (ys.map .int) = .int (f x y) :: (List.zipWith f xs ys).map .int
    rw [zip_ints f xs ys]
section
variable {K K' K2 : PySem.W.Frag} {p : Option Addr} {env : List Slot} {te : TE} {Φ : PyData → Prop}
theorem e_mapT {i j : Nat} {vs : List Nat} {xs : List PyData} (f : PyData → PyData) (hi : env[i]? = some (.dat (.tuple xs))) (hz : xs.length ≤ 100000) (hs : ∀ x ∈ xs, WpE K p te ((wipeE env vs).set j (.dat x)) (fun y => y = f x)) (q : Φ (.list (xs.map f))) (hj : j ∈ vs := by decide) (hK : K' = K := by with_unfolding_all rfl) :
    WpE K p (tLc (iTup K' (tVar i)) (gName j) tYes te vs) env Φ :=
  e_map (js := [j]) (fun k hk => by rw [List.mem_singleton.mp hk]; exact hj) (i_tup_ (e_var hi ⟨xs, rfl, hz, f, fun i x hx => g_name (hs x (List.mem_of_getElem? hx)), q⟩) hK)
theorem e_relT {i j : Nat} {vs : List Nat} {xs : List PyData} (R : PyData → PyData → Prop) (hi : env[i]? = some (.dat (.tuple xs))) (hz : xs.length ≤ 100000) (hs : ∀ x ∈ xs, WpE K p te ((wipeE env vs).set j (.dat x)) (fun y => R x y)) (q : ∀ ys : List PyData, ys.length = xs.length → (∀ (i : Nat) (x y : PyData), xs[i]? = some x → ys[i]? = some y → R x y) → Φ (.list ys)) (hj : j ∈ vs := by decide) (hK : K' = K := by with_unfolding_all rfl) :
    WpE K p (tLc (iTup K' (tVar i)) (gName j) tYes te vs) env Φ :=
  e_rel (js := [j]) (fun k hk => by rw [List.mem_singleton.mp hk]; exact hj) (i_tup_ (e_var hi ⟨xs, rfl, hz, R, fun i x hx => g_name (hs x (List.mem_of_getElem? hx)), q⟩) hK)
theorem f_map {wi : TI} {g : TG} {vs js : List Nat} {Φ : List PyData → Prop} (hs : ∀ j ∈ js, j ∈ vs) (h : WpI K p wi env fun xs => xs.length ≤ 100000 ∧ ∃ f : PyData → PyData, (∀ (i : Nat) (x : PyData), xs[i]? = some x → WpG K p js g x (wipeE env vs) fun env2 => WpE K p te env2 (fun y => y = f x)) ∧ Φ (xs.map f)) : WpF K p (tLc wi g tYes te vs) env Φ :=
  f_lc hs fun H0 σ Hk H R e po en k => h H0 σ Hk H R e po en fun J xs Hk' H' g it ⟨hz, f, step, last⟩ => k J xs Hk' H' g it ⟨hz, fun i acc => acc = (xs.take i).map f, rfl, fun i x acc hx inv _ => fun H0 σ Hk H v Q e po en r k =>
    step i x hx H0 σ Hk H v Q e po en r fun σ' env' en' same f' => k σ' env' en' same (t_yes (show WpE K p _ env' _ from f'.mono fun y hy => by
      rw [inv, hy]
      show (xs.take i).map f ++ [f x] = (xs.take (i + 1)).map f
      rw [List.take_add_one, hx, List.map_append]
      rfl)), fun acc _ inv => by
      rw [inv, List.take_length]
      exact last⟩
theorem f_mapL {i j : Nat} {vs : List Nat} {xs : List PyData} {Φ : List PyData → Prop} (f : PyData → PyData) (hi : env[i]? = some (.dat (.list xs))) (hz : xs.length ≤ 100000) (hs : ∀ x ∈ xs, WpE K p te ((wipeE env vs).set j (.dat x)) (fun y => y = f x)) (q : Φ (xs.map f)) (hj : j ∈ vs := by decide) (hK : K' = K := by with_unfolding_all rfl) :
    WpF K p (tLc (iList K' (tVar i)) (gName j) tYes te vs) env Φ :=
  f_map (js := [j]) (fun k hk => by rw [List.mem_singleton.mp hk]; exact hj) (i_list_ (e_var hi ⟨xs, rfl, hz, f, fun i x hx => g_name (hs x (List.mem_of_getElem? hx)), q⟩) hK)
theorem s_nil {O : Outs} {i : Nat} (h : O.nx (env.set i (.own []))) : WpS K p (tAsg (tLst tNil) (gName i)) env O := s_ownF (f_lst (a_nil ⟨Nat.zero_le _, h⟩))
theorem map_zipD (f : PyData → PyData → PyData) (g : PyData → PyData) (hg : ∀ a b, g (.tuple [a, b]) = f a b) : ∀ xs ys : List PyData, (zipD xs ys).map g = List.zipWith f xs ys
  | [], _ => rfl
  | _ :: _, [] => rfl
  | x :: xs, y :: ys => by
    show g (.tuple [x, y]) :: (zipD xs ys).map g = f x y :: List.zipWith f xs ys
    rw [hg, map_zipD f g hg xs ys]
theorem zipD_mem {xs ys : List PyData} {i : Nat} {x : PyData} (h : (zipD xs ys)[i]? = some x) : ∃ a b, x = .tuple [a, b] ∧ a ∈ xs ∧ b ∈ ys := by
  unfold zipD at h
  rw [List.getElem?_zipWith] at h
  cases h1 : xs[i]? with
  | none => rw [h1] at h; cases h
  | some a =>
    cases h2 : ys[i]? with
    | none => rw [h1, h2] at h; cases h
    | some b =>
      rw [h1, h2] at h
      cases h
      exact ⟨a, b, rfl, List.mem_of_getElem? h1, List.mem_of_getElem? h2⟩
def pairF (f : PyData → PyData → PyData) : PyData → PyData
  | .tuple [a, b] => f a b
  | d => d
theorem e_mapZ {i1 i2 j1 j2 : Nat} {vs : List Nat} {xs ys : List PyData} (f : PyData → PyData → PyData) (h1 : env[i1]? = some (.dat (.tuple xs))) (h2 : env[i2]? = some (.dat (.tuple ys))) (hz : xs.length ≤ 100000)
    (hs : ∀ a b, a ∈ xs → b ∈ ys → WpE K p te (((wipeE env vs).set j1 (.dat a)).set j2 (.dat b)) (fun y => y = f a b)) (q : Φ (.list (List.zipWith f xs ys))) (hj1 : j1 ∈ vs := by decide) (hj2 : j2 ∈ vs := by decide) (hK : K' = K := by with_unfolding_all rfl) (hK2 : K2 = K := by with_unfolding_all rfl) :
    WpE K p (tLc (RZ.iZipA K' (tCons (tVar i1) (tCons (tVar i2) tNil))) (gTup K2 2 (gCons (gName j1) (gCons (gName j2) gNil))) tYes te vs) env Φ := by
  refine e_map (js := [j1] ++ ([j2] ++ [])) (fun k hk => ?_) (i_zipT_ (a_cons (e_var h1 (a_cons (e_var h2 (a_nil ⟨xs, ys, rfl, ?_, pairF f, fun i x hx => ?_, ?_⟩))))) hK)
  · simp only [List.append_nil, List.singleton_append, List.mem_cons, List.not_mem_nil, or_false] at hk
    rcases hk with rfl | rfl
    · exact hj1
    · exact hj2
  · rw [zipD_len]
    omega
  · obtain ⟨a, b, rfl, ha, hb⟩ := zipD_mem hx
    exact g_tup_ [a, b] rfl rfl (g_cons (g_name (g_cons (g_name (g_nil (hs a b ha hb)))))) hK2
  · rw [map_zipD f (pairF f) (fun _ _ => rfl)]
    exact q
end
/-! ### ints in data -/
abbrev tupI (ns : List Int) : PyData := .tuple (ns.map .int)
theorem ints_of : ∀ {xs : List PyData}, xs.all isInt = true → xs = (xs.map toI).map .int
  | [], _ => rfl
  | x :: xs, h => by
    rw [List.all_cons, Bool.and_eq_true] at h
    cases x with
    | int n =>
      have ih := ints_of h.2
      show PyData.int n :: xs = PyData.int n :: (xs.map toI).map .int
      rw [← ih]
    | _ => cases h.1
theorem all_ints (ns : List Int) : (ns.map PyData.int).all isInt = true := by
  rw [List.all_map]
  exact List.all_eq_true.mpr fun _ _ => rfl
theorem map_bools {f : PyData → Bool} (xs : List PyData) : xs.map (fun x => PyData.bool (f x)) = (xs.map f).map .bool := by rw [List.map_map]; rfl
theorem all_map_id {α : Type} (f : α → Bool) (xs : List α) : (xs.map f).all id = xs.all f := by rw [List.all_map]; rfl
def innerI (row other : List Int) : Int := (List.zipWith (fun a b => a * b) row other).sum
theorem zipD_ints (f : Int → Int → Int) (g : PyData → PyData) (hg : ∀ a b, g (.tuple [.int a, .int b]) = .int (f a b)) : ∀ xs ys : List Int, (zipD (xs.map .int) (ys.map .int)).map g = (List.zipWith f xs ys).map .int
  | [], _ => rfl
  | _ :: _, [] => rfl
  | x :: xs, y :: ys => by
    show g (.tuple [.int x, .int y]) :: (zipD (xs.map .int) (ys.map .int)).map g = .int (f x y) :: (List.zipWith f xs ys).map .int
    rw [hg, zipD_ints f g hg xs ys]
theorem zipD_at {xs ys : List Int} {i : Nat} {x : PyData} (h : (zipD (xs.map .int) (ys.map .int))[i]? = some x) : ∃ a b, x = .tuple [.int a, .int b] ∧ a ∈ xs ∧ b ∈ ys := by
  unfold zipD at h
  rw [List.getElem?_zipWith, List.getElem?_map, List.getElem?_map] at h
  cases h1 : xs[i]? with
  | none => rw [h1] at h; cases h
  | some a =>
    cases h2 : ys[i]? with
    | none => rw [h1, h2] at h; cases h
    | some b =>
      rw [h1, h2] at h
      cases h
      exact ⟨a, b, rfl, List.mem_of_getElem? h1, List.mem_of_getElem? h2⟩
end Fw
namespace Fw
open PySem PySem.Spec PyProof.Rows L2 Evl
/-! ### data that can be shown and compared -/
structure Tm (d : PyData) (k b : Nat) : Prop where
  sh : d.showable = true
  nd : d.hasDict = false
  cl : d.canLay0 = true
  ls : d.leavesShort 13 = true
  dp : d.depth ≤ k
  bk : d.bulk ≤ b
theorem tm_int {i : Int} (h1 : -999999999999 ≤ i) (h2 : i ≤ 999999999999) : Tm (.int i) 0 0 := by
  have e := PyData.shown_int_le2 h1 h2
  refine ⟨?_, rfl, rfl, ?_, Nat.le_refl _, Nat.le_refl _⟩
  · show decide (i.natAbs.log2 < 1920) = true
    have : i.natAbs.log2 < 40 := by
      by_cases z : i.natAbs = 0
      · rw [z]; decide
      · rw [Nat.log2_lt z]
        omega
    exact decide_eq_true (by omega)
  · show decide ((PyData.shown (.int i)).length ≤ 13) = true
    exact decide_eq_true e
theorem tm_none : Tm .none 0 0 := ⟨rfl, rfl, rfl, rfl, Nat.le_refl _, Nat.le_refl _⟩
theorem tm_bool {b : Bool} : Tm (.bool b) 0 0 := ⟨rfl, rfl, rfl, rfl, Nat.le_refl _, Nat.le_refl _⟩
structure TmAll (xs : List PyData) (k b : Nat) : Prop where
  sh : PyData.showableAll xs = true
  nd : PyData.hasDictAll xs = false
  cl : PyData.canLayAll0 xs = true
  ls : PyData.leavesShortAll 13 xs = true
  dp : PyData.depthAll xs ≤ k
  bk : PyData.bulkAll xs ≤ xs.length * (b + 1)
theorem tm_all {k b : Nat} : ∀ {xs : List PyData}, (∀ x ∈ xs, Tm x k b) → TmAll xs k b
  | [], _ => ⟨rfl, rfl, rfl, rfl, Nat.zero_le _, Nat.zero_le _⟩
  | x :: xs, h => by
    have h1 := h x List.mem_cons_self
    have h2 := tm_all fun y hy => h y (List.mem_cons_of_mem _ hy)
    have e : (x :: xs).length * (b + 1) = xs.length * (b + 1) + (b + 1) := by rw [List.length_cons, Nat.add_mul, Nat.one_mul]
    refine ⟨?_, ?_, ?_, ?_, ?_, ?_⟩
    · show (x.showable && PyData.showableAll xs) = true
      rw [h1.sh, h2.sh]; rfl
    · show (x.hasDict || PyData.hasDictAll xs) = false
      rw [h1.nd, h2.nd]; rfl
    · show (x.canLay0 && PyData.canLayAll0 xs) = true
      rw [h1.cl, h2.cl]; rfl
    · show (x.leavesShort 13 && PyData.leavesShortAll 13 xs) = true
      rw [h1.ls, h2.ls]; rfl
    · show max x.depth (PyData.depthAll xs) ≤ k
      have := h1.dp
      have := h2.dp
      omega
    · show x.bulk + 1 + PyData.bulkAll xs ≤ _
      have := h1.bk
      have := h2.bk
      omega
theorem tm_list {xs : List PyData} {k b n : Nat} (h : ∀ x ∈ xs, Tm x k b) (hn : xs.length ≤ n) : Tm (.list xs) (k + 1) (n * (b + 1)) := by
  have a := tm_all h
  exact ⟨a.sh, a.nd, a.cl, a.ls, Nat.succ_le_succ a.dp, Nat.le_trans a.bk (Nat.mul_le_mul_right _ hn)⟩
theorem tm_tuple {xs : List PyData} {k b n : Nat} (h : ∀ x ∈ xs, Tm x k b) (hn : xs.length ≤ n) : Tm (.tuple xs) (k + 1) (n * (b + 1)) := by
  have a := tm_all h
  exact ⟨a.sh, a.nd, a.cl, a.ls, Nat.succ_le_succ a.dp, Nat.le_trans a.bk (Nat.mul_le_mul_right _ hn)⟩
theorem Tm.mono {d : PyData} {k b k' b' : Nat} (h : Tm d k b) (h1 : k ≤ k') (h2 : b ≤ b') : Tm d k' b' := ⟨h.sh, h.nd, h.cl, h.ls, Nat.le_trans h.dp h1, Nat.le_trans h.bk h2⟩
theorem tm_tupI {ns : List Int} {n : Nat} (h : ∀ m ∈ ns, -999999999999 ≤ m ∧ m ≤ 999999999999) (hn : ns.length ≤ n) : Tm (tupI ns) 1 n := by
  have := tm_tuple (xs := ns.map .int) (k := 0) (b := 0) (n := n) (fun x hx => by
    obtain ⟨m, hm, rfl⟩ := List.mem_map.mp hx
    exact tm_int (h m hm).1 (h m hm).2) (by rw [List.length_map]; exact hn)
  exact this.mono (Nat.le_refl _) (by omega)
theorem Tm.fits {d : PyData} {k b : Nat} (h : Tm d k b) (hb : b ≤ 1000000) : d.shown.length ≤ sizeLine := by
  have := PyData.shown_le_bulk 13 (by decide) d h.ls
  have := h.bk
  rw [sizeLine_eq]
  omega
theorem Tm.shaped {d : PyData} {k b : Nat} (h : Tm d k b) (hk : k ≤ 60) : SeqAt.shaped d = true := by
  unfold SeqAt.shaped
  rw [h.cl, decide_eq_true (show d.depth ≤ 64 from Nat.le_trans h.dp (by omega))]
  rfl
section
variable {K K' : PySem.W.Frag} {p : Option Addr} {Φ : PyData → Prop}
theorem cb_reprT {d : PyData} {k b : Nat} (h : Tm d k b) (hd : isDisplay d = true) (hk : k ≤ 60) (hb : b ≤ 1000000) (q : Φ (.str d.shown)) (hK : K' = K := by with_unfolding_all rfl) : CbD K p (FwE.rReprD K') [d] Φ :=
  cb_reprD_ hd h.sh h.nd (Nat.le_trans h.dp hk) (h.fits hb) q hK
end
end Fw
namespace Fw
open PySem
theorem tm_rows {ms : List (List Int)} {n N : Nat} (h : ∀ m ∈ ms, (∀ c ∈ m, -999999999999 ≤ c ∧ c ≤ 999999999999) ∧ m.length ≤ n) (hn : ms.length ≤ N) : Tm (.list (ms.map fun m => tupI m)) 2 (N * (n + 1)) :=
  tm_list (k := 1) (b := n) (fun x hx => by
    obtain ⟨m, hm, rfl⟩ := List.mem_map.mp hx
    exact tm_tupI (h m hm).1 (h m hm).2) (by rw [List.length_map]; exact hn)
open PySem.Spec PyProof.Rows L2 Evl
theorem ints_all {P : Int → Prop} : ∀ {ys : List PyData}, (∀ y ∈ ys, ∃ c, y = .int c ∧ P c) → ∃ ns : List Int, ys = ns.map .int ∧ ∀ c ∈ ns, P c
  | [], _ => ⟨[], rfl, fun _ h => nomatch h⟩
  | y :: ys, h => by
    obtain ⟨c, rfl, hc⟩ := h y List.mem_cons_self
    obtain ⟨ns, rfl, hn⟩ := ints_all (ys := ys) fun z hz => h z (List.mem_cons_of_mem _ hz)
    refine ⟨c :: ns, rfl, fun d hd => ?_⟩
    rcases List.mem_cons.mp hd with e | e
    · rw [e]; exact hc
    · exact hn d e
theorem e_rngInts {K : PySem.W.Frag} {p : Option Addr} {env : List Slot} {Φ : PyData → Prop} {te : TE} {i j n : Nat} {vs : List Nat} (P : Int → Prop) (hi : env[i]? = some (.dat (.int n))) (hn : n ≤ 1000) (hs : ∀ x : PyData, WpE K p te ((wipeE env vs).set j (.dat x)) (fun y => ∃ c : Int, y = .int c ∧ P c)) (q : ∀ ns : List Int, ns.length = n → (∀ c ∈ ns, P c) → Φ (.list (ns.map .int))) (hj : j ∈ vs := by decide) :
    WpE K p (tLc (iRng1 (tCons (tVar i) tNil)) (gName j) tYes te vs) env Φ := by
  refine e_rel (js := [j]) (fun k hk => by rw [List.mem_singleton.mp hk]; exact hj) (i_rng1 (a_cons (e_var hi (a_nil ⟨_, rfl, by omega, by omega, by rw [rng_len]; omega, fun _ y => ∃ c : Int, y = .int c ∧ P c, fun k x hx => g_name (hs x), fun ys hl hr => ?_⟩))))
  rw [rng_len] at hl
  have : ∀ y ∈ ys, ∃ c, y = .int c ∧ P c := fun y hy => by
    obtain ⟨k, hk, rfl⟩ := List.getElem_of_mem hy
    have hk2 : k < (rng 0 (n : Int).toNat).length := by rw [rng_len]; omega
    exact hr k _ _ (List.getElem?_eq_getElem hk2) (List.getElem?_eq_getElem hk)
  obtain ⟨ns, rfl, h⟩ := ints_all this
  rw [List.length_map] at hl
  exact q ns (by omega) h
section
variable {K K' : PySem.W.Frag} {p : Option Addr} {env : List Slot} {Φ : PyData → Prop}
theorem set_other {i j : Nat} {s t u : Slot} (hi : env[i]? = some s) (hj : env[j]? = some t) (ne : s ≠ t) : (env.set i u)[j]? = some t := by
  rw [List.getElem?_set_ne]
  · exact hj
  · intro e
    subst e
    rw [hi] at hj
    exact ne (Option.some.inj hj)
theorem e_ixO {i j : Nat} {ds : List PyData} {k : Int} {d : PyData} (hi : env[i]? = some (.own ds)) (hj : env[j]? = some (.dat (.int k))) (ha : atI ds k = some d) (fl : flatD d = true) (h : Φ d) (hK : K' = K := by with_unfolding_all rfl) : WpE K p (tOp (rIxL K') (tVar i) (tVar j)) env Φ :=
  e_own hi (e_op (e_var (by rw [List.getElem?_set]; simp [(List.getElem?_eq_some_iff.mp hi).1]) (e_var (set_other hi hj (fun z => nomatch z)) (od_ixL_ ha ⟨fl, h⟩ hK))))
theorem e_ixOc {i : Nat} {ds : List PyData} {k : Int} {d : PyData} (hi : env[i]? = some (.own ds)) (ha : atI ds k = some d) (fl : flatD d = true) (h : Φ d) (hK : K' = K := by with_unfolding_all rfl) : WpE K p (tOp (rIxL K') (tVar i) (tC (.int k))) env Φ :=
  e_own hi (e_op (e_var (by rw [List.getElem?_set]; simp [(List.getElem?_eq_some_iff.mp hi).1]) (e_int (od_ixL_ ha ⟨fl, h⟩ hK))))
theorem e_ixOn {i : Nat} {ds : List PyData} {d : PyData} (hi : env[i]? = some (.own ds)) (ha : atI ds (-1) = some d) (fl : flatD d = true) (h : Φ d) (hK : K' = K := by with_unfolding_all rfl) : WpE K p (tOp (rIxL K') (tVar i) (tUn (rU fun i => .int (-i)) (tC (.int 1)))) env Φ :=
  e_own hi (e_op (e_var (by rw [List.getElem?_set]; simp [(List.getElem?_eq_some_iff.mp hi).1]) (e_un (e_int (ud_neg (od_ixL_ ha ⟨fl, h⟩ hK))))))
theorem e_lenO {i : Nat} {ds : List PyData} {r : List V → Hp → VK → Prop} (hi : env[i]? = some (.own ds)) (h : Φ (.int ds.length)) (hr : r = fun xs H Q => ∃ p ys, xs = [.ref p] ∧ (SqL K H p ys ∨ SqT K H p ys) ∧ Q (.int ys.length) H := by with_unfolding_all rfl) : WpE K p (tCB r (tCons (tVar i) tNil)) env Φ :=
  e_own hi (e_cb (a_cons (e_var (by rw [List.getElem?_set]; simp [(List.getElem?_eq_some_iff.mp hi).1]) (a_nil (cb_len_ (.inr rfl) ⟨rfl, h⟩ hr)))))
theorem e_ixO2 {i j : Nat} {ds : List PyData} {k : Int} (hi : env[i]? = some (.own ds)) (hj : env[j]? = some (.dat (.int k))) (h : ∃ d, atI ds k = some d ∧ flatD d = true ∧ Φ d) (hK : K' = K := by with_unfolding_all rfl) : WpE K p (tOp (rIxL K') (tVar i) (tVar j)) env Φ := by
  obtain ⟨d, a, b, c⟩ := h
  exact e_ixO hi hj a b c hK
theorem e_ixOc2 {i : Nat} {ds : List PyData} {k : Int} (hi : env[i]? = some (.own ds)) (h : ∃ d, atI ds k = some d ∧ flatD d = true ∧ Φ d) (hK : K' = K := by with_unfolding_all rfl) : WpE K p (tOp (rIxL K') (tVar i) (tC (.int k))) env Φ := by
  obtain ⟨d, a, b, c⟩ := h
  exact e_ixOc hi a b c hK
theorem e_ixOn2 {i : Nat} {ds : List PyData} (hi : env[i]? = some (.own ds)) (h : ∃ d, atI ds (-1) = some d ∧ flatD d = true ∧ Φ d) (hK : K' = K := by with_unfolding_all rfl) : WpE K p (tOp (rIxL K') (tVar i) (tUn (rU fun i => .int (-i)) (tC (.int 1)))) env Φ := by
  obtain ⟨d, a, b, c⟩ := h
  exact e_ixOn hi a b c hK
theorem ixN_nat {n : Nat} {k : Int} (h0 : 0 ≤ k) (h1 : k < n) : ixN n k = some k.toNat := by
  unfold ixN
  rw [if_pos h0, if_pos h1]
end
end Fw
/-! sorted of a set of tuples of ints -/
namespace FwW
open PySem PySem.Spec PyProof.Rows L2
theorem perm_map {α β : Type} (f : α → β) : ∀ {us vs : List β}, us.Perm vs → ∀ L : List α, vs = L.map f → ∃ M : List α, us = M.map f ∧ M.Perm L := by
  intro us vs p
  induction p with
  | nil =>
    intro L e
    cases L with
    | nil => exact ⟨[], rfl, .nil⟩
    | cons _ _ => cases e
  | @cons x l m _ ih =>
    intro L e
    cases L with
    | nil => cases e
    | cons q L =>
      simp only [List.map_cons, List.cons.injEq] at e
      obtain ⟨M, e1, e2⟩ := ih L e.2
      exact ⟨q :: M, by rw [List.map_cons, e.1, e1], e2.cons q⟩
  | swap x y l =>
    intro L e
    match L, e with
    | q :: r :: L, e =>
      simp only [List.map_cons, List.cons.injEq] at e
      exact ⟨r :: q :: L, by rw [List.map_cons, List.map_cons, e.1, e.2.1, e.2.2], List.Perm.swap q r L⟩
  | trans _ _ ih1 ih2 =>
    intro L e
    obtain ⟨M, e1, e2⟩ := ih2 L e
    obtain ⟨N, f1, f2⟩ := ih1 M e1
    exact ⟨N, f1, f2.trans e2⟩
abbrev rowT (q : Addr × List Int) : PyData := .tuple (q.2.map .int)
theorem each_refs : ∀ L : List (Addr × List Int), PySem.W.EachIs (fun (v : Value) (q : Addr × List Int) => v = Value.ref q.1) (L.map fun q => Value.ref q.1) L
  | [] => .nil
  | _ :: L => .cons rfl (each_refs L)
theorem refs_each : ∀ {us : List Value} {L : List (Addr × List Int)}, PySem.W.EachIs (fun (v : Value) (q : Addr × List Int) => v = Value.ref q.1) us L → us = L.map fun q => Value.ref q.1
  | _, _, .nil => rfl
  | _, _, .cons h t => by rw [List.map_cons, h, refs_each t]
theorem each_ref {R : Value → Addr × List Int → Prop} : ∀ {L : List (Addr × List Int)}, (∀ q ∈ L, R (Value.ref q.1) q) → PySem.W.EachIs R (L.map fun q => Value.ref q.1) L
  | [], _ => .nil
  | q :: L, h => .cons (h q List.mem_cons_self) (each_ref fun r hr => h r (List.mem_cons_of_mem _ hr))
theorem alike_all : ∀ a b : List Int, PySem.W.alikeAll (a.map .int) (b.map .int) = true
  | [], _ => by simp [PySem.W.alikeAll]
  | _ :: _, [] => by simp [PySem.W.alikeAll]
  | x :: a, y :: b => by
    have ih := alike_all a b
    simp [PySem.W.alikeAll, PySem.W.alike, ih]
theorem deep_ints : ∀ m : List Int, PyData.depthAll (m.map .int) = 0
  | [] => rfl
  | x :: m => by
    show max (PyData.depth (.int x)) (PyData.depthAll (m.map .int)) = 0
    rw [deep_ints m]
    rfl
theorem lt_rows (a b : List Int) : PySem.W.dataLt (.tuple (a.map .int)) (.tuple (b.map .int)) = decide (a < b) := by
  rw [PySem.W.dataLt_tuple]
  exact PySem.W.dataLt_ints a b
section
variable {P : Program} {w : World} {A : Around} {E : Value → Shared → Prop} {s : Shared}
theorem sorted_setD {a : Addr} {L : List (Addr × List Int)} {es : Array (Int × Value)} {ep : Nat} {t : SetTable} {Q : Value → Shared → Prop} (R : SetTR P w s.heap a L es ep t) (hh : A.handled = none) (hu : A.units + 64 < cLine)
    (rd : ∀ q ∈ L, ∃ o n its, s.heap.get? q.1 = some o ∧ o.cls = .type "tuple" ∧ o.data = .seq its n ∧ ReadsAll s.heap its.toList (q.2.map .int) []) (ne : ∀ q ∈ L, q.2 ≠ [])
    (hQ : ∀ (s' : Shared) (p : Addr) (out : List Value) (c : Nat) (M : List (Addr × List Int)), (∀ b o, s.heap.get? b = some o → s'.heap.get? b = some o) → s'.gens = s.gens → s'.os = s.os → s.heap.objs.size ≤ p → s'.heap.get? p = some (seqObj "list" out.toArray c) →
      out = M.map (fun q => Value.ref q.1) → M.Perm L → M.Pairwise (fun q r => ¬ r.2 < q.2) → Q (.ref p) s') : wpAny (model P w) A (call (.builtin "sorted") [.ref a]) Q E s := by
  obtain ⟨o, ho, hex, hd⟩ := R.ob
  have hsz := R.size
  have hfew := R.few
  refine Calls.call_function_entry kind_sorted plain_sorted entry_sorted (args_sorted1 _) ?_
  unfold Builtin.«sorted»
  refine wpAny_bind (m := checkCount "sorted" 1 1 _) (wpAny_pure ?_)
  refine wpAny_bind (collect_set (A := A.in1) hh ⟨o, ho, hex.1, hd⟩ R.fits (by unfold scanBound; omega) R.tab.ris R.led fun s1 vs k1 hz g1 o1 pm => ?_)
  have hes : es.toList.map (·.2) = L.map fun q => Value.ref q.1 := by
    rw [R.rows]
    unfold rowsOf
    rw [List.map_map] <;> rfl
  rw [hes] at pm
  obtain ⟨M, rfl, pM⟩ := perm_map _ pm L rfl
  have hml : M.length < 64 := by rw [pM.length_eq]; exact hfew
  refine wpAny_bind (wpAny_newList ?_ (by rw [sizeLine_eq, List.length_map]; omega))
  have hoL : (s1.heap.push (seqObj "list" (M.map fun q => Value.ref q.1).toArray 0)).get? s1.heap.objs.size = some (seqObj "list" (M.map fun q => Value.ref q.1).toArray 0) := Heap.get?_push_size _ rfl
  have rdM : ∀ q ∈ M, ∃ as, Reads (s1.heap.push (seqObj "list" (M.map fun q => Value.ref q.1).toArray 0)) (Value.ref q.1) (rowT q) as ∧ s1.heap.objs.size ∉ as := fun q hq => by
    obtain ⟨o, n, its, h1, h2, h3, h4⟩ := rd q (pM.mem_iff.mp hq)
    refine ⟨[], ?_, by simp⟩
    exact .tuple (Heap.get?_push_of_some _ (k1 _ _ h1)) h2 h3 (PyProof.Rows.ReadsAll.keeps (fun b u e => Heap.get?_push_of_some _ (k1 b u e)) h4)
  refine wpAny_bind (wpAny_holding (PySem.W.list_sort_data (s := { s1 with heap := s1.heap.push (seqObj "list" (M.map fun q => Value.ref q.1).toArray 0) }) (enc := rowT) (bs := M) hoL (each_refs M) (each_ref rdM) (fun d hd d' hd' => ?_) (.inl fun d hd => ?_) (by rw [sizeLine_eq]; omega) (fun q _ => ?_) fun out ho' hb => ?_))
  · obtain ⟨q, _, rfl⟩ := List.mem_map.mp hd
    obtain ⟨r, _, rfl⟩ := List.mem_map.mp hd'
    have := alike_all q.2 r.2
    simpa [PySem.W.alike] using this
  · obtain ⟨q, hq, rfl⟩ := List.mem_map.mp hd
    cases e : q.2 with
    | nil => exact absurd e (ne q (pM.mem_iff.mp hq))
    | cons x r => exact ⟨.int x, r.map .int, by show PyData.tuple (q.2.map .int) = _; rw [e]; rfl⟩
  · show A.in1.units + 1 + (PyData.depthAll (q.2.map .int) + 1) < cLine
    rw [deep_ints]
    simp only [Around.in1_units]
    omega
  · have eo := refs_each hb
    obtain ⟨c, hc⟩ := sortedHeap_at (vs := M.map fun q => Value.ref q.1) (out := out.toArray) hoL
    have T := PySem.W.sortLe_total (PyProof.Rows.listOrd PyProof.Rows.itemOrd) false fun q : Addr × List Int => PySem.W.keyToks (rowT q)
    have pw := List.pairwise_mergeSort (le := PySem.W.dataLe false rowT) (fun a b c h1 h2 => T.trans _ _ _ h1 h2) (fun a b => by
      rcases T.total a b with h | h
      · exact Bool.or_eq_true_iff.mpr (.inl h)
      · exact Bool.or_eq_true_iff.mpr (.inr h)) M
    refine wpAny_pure ⟨_, rfl, hQ _ s1.heap.objs.size out c _ (fun b u e => ?_) g1 o1 hz hc eo ((List.mergeSort_perm _ _).trans pM) (pw.imp fun {q r} h => ?_)⟩
    · have q := k1 b u e
      have hlt := Heap.lt_size q
      show (sortedHeap (s1.heap.push (seqObj "list" (M.map fun q => Value.ref q.1).toArray 0)) s1.heap.objs.size (M.map fun q => Value.ref q.1) out.toArray).get? b = some u
      rw [sortedHeap_old (Nat.ne_of_lt hlt) (by rw [size_push']; exact Nat.lt_succ_of_lt hlt)]
      exact Heap.get?_push_of_some _ q
    · have h3 : (!PySem.W.dataLt (rowT r) (rowT q)) = true := h
      rw [lt_rows] at h3
      simpa using h3
end
def rSortS (K : PySem.W.Frag) (P : Program) (w : World) : List V → Hp → VK → Prop := fun vs H Q => ∃ (a : Addr) (L : List (Addr × List Int)), vs = [V.ref a] ∧ H a = some (SetTO P w a L) ∧ (∀ p ∈ L, SqT K H p.1 (p.2.map V.int)) ∧ (∀ p ∈ L, p.2 ≠ []) ∧
  ∀ (M : List (Addr × List Int)) (p : Addr), M.Perm L → (M.map (·.2)).Nodup → M.length < 64 → M.Pairwise (fun q r => ¬ r.2 < q.2) → H p = none → Q (.ref p) (upd H p (.lst (M.map fun q => V.ref q.1)))
theorem vals_ints0 {h : Heap} : ∀ {us : List Value} {ns : List Int}, Vals (ns.map V.int) us → ReadsAll h us (ns.map .int) [] := FwT.reads_ints
theorem cr_sortedS {X : Cx} (hc : X.calm = true) (hu : X.A.units + 64 < cLine) : CallR X (.builtin "sorted") (rSortS X.K X.prog X.w) := fun pins s σ H vs us Q I r h => by
  obtain ⟨a, L, rfl, ha, hk, ne, q⟩ := h
  have R0 : SetT0 X.prog X.w s.heap a L := (I.hok a _ ha).1
  obtain ⟨es, ep, t, R⟩ := R0.full fun p hp => I.isT (hk p hp)
  rw [Vals.ref1 r]
  refine sorted_setD R (I.ok.hd hc) hu (fun p hp => ?_) ne fun s' p out c M k g o hp hg hout pm pw => ?_
  · obtain ⟨its, rv, ⟨ob, hob, hcl, n, hdt⟩, _⟩ := I.tuple (hk p hp)
    refine ⟨ob, n, its.toArray, hob, hcl, hdt, ?_⟩
    rw [List.toList_toArray]
    exact vals_ints0 rv
  · have few : M.length < 64 := by rw [pm.length_eq]; exact R.few
    have len : (M.map fun q => V.ref q.1).length ≤ sizeLine := by rw [List.length_map, sizeLine_eq]; omega
    have nn : H p = none := I.hok.fresh hp
    have vv : Vals (M.map fun q => V.ref q.1) out := by rw [hout]; exact vals_of_refs M
    have J : Inv X pins σ (upd H p (.lst (M.map fun q => V.ref q.1))) { s with heap := s'.heap, gens := s'.gens, drawn := s'.drawn, toks := s'.toks } :=
      I.call (ch := []) (Un.laid k hp nn) (I.hok.laid k hp ⟨len, out, c, vv, hg⟩) (by rw [g]; exact I.bare) (fun _ z => nomatch z)
    have e : s' = { s with heap := s'.heap, gens := s'.gens, drawn := s'.drawn, toks := s'.toks } := by
      cases s'
      cases s
      cases o
      rfl
    rw [e]
    exact ⟨.ref p, _, J, rfl, q M p pm ((pm.map (·.2)).nodup_iff.mpr R.nd) few pw nn⟩
end FwW
namespace Fw
open PySem PySem.Spec PyProof.Rows L2 Evl FwW
theorem rows_refs {K : PySem.W.Frag} {H : Hp} : ∀ {ms : List (List Int)} {xs : List V}, DxAll K H xs (ms.map fun m => tupI m) → ∃ ks : List (Addr × List Int), xs = ks.map (fun q => V.ref q.1) ∧ ks.map (·.2) = ms ∧ ∀ q ∈ ks, SqT K H q.1 (q.2.map V.int)
  | [], _, h => by
    cases h
    exact ⟨[], rfl, rfl, fun _ h => nomatch h⟩
  | m :: ms, _, h => by
    cases h with
    | cons h t =>
      obtain ⟨ks, rfl, e2, e3⟩ := rows_refs t
      obtain ⟨a, us, rfl, hT, r⟩ := dp_tup h
      have := dpAll_ints r
      subst this
      refine ⟨(a, m) :: ks, rfl, by rw [List.map_cons, e2], fun q hq => ?_⟩
      rcases List.mem_cons.mp hq with e | e
      · rw [e]
        exact hT
      · exact e3 q e
theorem refs_rows {K : PySem.W.Frag} {H : Hp} : ∀ {ks : List (Addr × List Int)}, (∀ q ∈ ks, SqT K H q.1 (q.2.map V.int)) → DxAll K H (ks.map fun q => V.ref q.1) ((ks.map (·.2)).map fun m => tupI m)
  | [], _ => .nil
  | q :: ks, h => by
    refine .cons (.tup (h q List.mem_cons_self) ?_) (refs_rows fun r hr => h r (List.mem_cons_of_mem _ hr))
    have all : ∀ ns : List Int, DxAll K H (ns.map V.int) (ns.map .int) := fun ns => by
      induction ns with
      | nil => exact .nil
      | cons n ns ih => exact .cons (.int n) ih
    exact all q.2
theorem asc_of {l : List (List Int)} (tri : ∀ a b : List Int, a < b ∨ a = b ∨ b < a) (nd : l.Nodup) (h : l.Pairwise fun a b => ¬ b < a) : l.Pairwise (· < ·) := by
  refine (List.Pairwise.and h nd).imp fun {a b} z => ?_
  rcases tri a b with q | q | q
  · exact q
  · exact absurd q z.2
  · exact absurd q z.1
theorem ints_tri : ∀ a b : List Int, a < b ∨ a = b ∨ b < a
  | [], [] => .inr (.inl rfl)
  | [], _ :: _ => .inl (List.nil_lt_cons ..)
  | _ :: _, [] => .inr (.inr (List.nil_lt_cons ..))
  | x :: a, y :: b => by
    rw [List.cons_lt_cons_iff, List.cons_lt_cons_iff]
    rcases Int.lt_trichotomy x y with h | h | h
    · exact .inl (.inl h)
    · subst h
      rcases ints_tri a b with h | h | h
      · exact .inl (.inr ⟨rfl, h⟩)
      · exact .inr (.inl (by rw [h]))
      · exact .inr (.inr (.inr ⟨rfl, h⟩))
    · exact .inr (.inr (.inl h))
/-- sorted(set(rows)): a new list -/
theorem f_sortSet {K K' : PySem.W.Frag} {p : Option Addr} {env : List Slot} {te : TE} {P : Program} {w : World} {Ψ : List PyData → Prop} (h : WpE K p te env fun x => ∃ ms : List (List Int), x = .list (ms.map fun m => tupI m) ∧ ms.length < 64 ∧ (∀ m ∈ ms, m ≠ []) ∧ ∀ rs : List (List Int), rs.Pairwise (· < ·) → (∀ y, y ∈ rs ↔ y ∈ ms) → Ψ (rs.map fun m => tupI m)) (hK : K' = K := by with_unfolding_all rfl) :
    WpF K p (tCB (rSortS K' P w) (tCons (tCB (rSetOfT K' P w) (tCons te tNil)) tNil)) env Ψ := fun H0 σ Hk H Q e po en k => by
  subst hK
  refine h H0 σ Hk H _ e po en fun v x Hk1 H1 g1 rx ⟨ms, ex, few, ne, f⟩ => ?_
  subst ex
  obtain ⟨l, xs, rfl, hL, r⟩ := dp_lst rx
  obtain ⟨ks, rfl, e2, e3⟩ := rows_refs r
  have kl : ks.length = ms.length := by rw [← e2, List.length_map]
  refine ⟨l, ks, rfl, ex_l g1.kr hL, fun q hq => ex_t g1.kr (e3 q hq), by omega, fun a L ha hs hm => ?_⟩
  have gA := g1.mut (o := SetTO P w a L) (fresh0 g1 ha) (pot_ne g1.po ha) (fresh_back g1.kr ha)
  refine ⟨a, L, rfl, upd_same, fun q hq => ex_t gA.kr (e3 q (hs q hq)), fun q hq => ne q.2 (by rw [← e2]; exact List.mem_map.mpr ⟨q, hs q hq, rfl⟩), fun M b pm nd ml pw hb => ?_⟩
  have mM : ∀ y, y ∈ M.map (·.2) ↔ y ∈ ms := fun y => by
    rw [← e2]
    constructor
    · intro hy
      obtain ⟨q, hq, rfl⟩ := List.mem_map.mp hy
      exact List.mem_map.mpr ⟨q, hs q (pm.mem_iff.mp hq), rfl⟩
    · intro hy
      obtain ⟨q, hq, rfl⟩ := List.mem_map.mp hy
      obtain ⟨q', hq', e⟩ := List.mem_map.mp (hm q hq)
      exact List.mem_map.mpr ⟨q', pm.mem_iff.mpr hq', e⟩
  refine k b _ ((M.map (·.2)).map fun m => tupI m) Hk1 _ (gA.mut (fresh0 gA hb) (pot_ne gA.po hb) (fresh_back gA.kr hb)) (fresh0 gA hb) (fresh_back gA.kr hb) upd_same (refs_rows fun q hq => e3 q (hs q (pm.mem_iff.mp hq))) (f _ (asc_of ints_tri nd (List.pairwise_map.mpr pw)) mM)
end Fw
namespace Fw
open PySem PySem.Spec PyProof.Rows L2 Evl
/-! ### repr of any data, {} -/
def rReprA (K : PySem.W.Frag) : List V → Hp → VK → Prop := fun vs H Q => ∃ (x : V) (d : PyData), vs = [x] ∧ Dx K H x d ∧ (d.hasDict = false ∨ d = .dict []) ∧ d.showable = true ∧ d.depth ≤ 60 ∧ d.shown.length ≤ sizeLine ∧ Q (.str d.shown) H
theorem call_reprA {X : Cx} (hg : X.A.guards = some []) (hu : X.A.units + 61 < cLine) : CallR X (.builtin "repr") (rReprA X.K) := fun pins s σ H vs us Q I r h => by
  obtain ⟨x, d, rfl, hd, hk, sh, dp, sz, q⟩ := h
  obtain ⟨u, rfl, rx⟩ := vals1 r
  have big : ∀ {a : Addr} {as : List Addr}, u = .ref a → d.hasDict = false → Reads s.heap (.ref a) d as → wpAny (model X.prog X.w) X.A (call (.builtin "repr") [u]) (EP X pins σ Q) X.xe s := fun {a as} e n rd => by
    subst e
    exact repr_of_reads' rd sh (PyData.noDict_hsm n) hg (by omega) (fun _ _ e => e) (fun h' t tk hk => ⟨.str d.shown, H, I.kept hk, ⟨_, rfl⟩, q⟩) sz
  cases hd with
  | non =>
    cases rx
    exact PySem.P.repr_of_none ⟨.str _, H, I.tok _, ⟨_, rfl⟩, q⟩
  | bl b =>
    cases rx
    refine PySem.P.repr_of_bool ⟨.str _, H, I.tok _, ?_, q⟩
    cases b
    · exact ⟨_, rfl⟩
    · exact ⟨_, rfl⟩
  | int i =>
    obtain ⟨t, rfl⟩ := rx
    exact PySem.P.repr_of_int (of_decide_eq_true sh) ⟨.str _, H, I.tok _, ⟨_, rfl⟩, q⟩
  | str z =>
    obtain ⟨t, rfl⟩ := rx
    exact PySem.P.repr_of_str ⟨.str _, H, I.tok _, ⟨_, rfl⟩, q⟩ sz
  | lst hl hr =>
    have n : PyData.hasDict (.list _) = false := hk.elim id fun z => nomatch z
    cases rx
    obtain ⟨as, rd⟩ := Dp.reads I _ _ (.ref _) (dx_dp _ n (.lst hl hr)) rfl
    exact big rfl n rd
  | tup hl hr =>
    have n : PyData.hasDict (.tuple _) = false := hk.elim id fun z => nomatch z
    cases rx
    obtain ⟨as, rd⟩ := Dp.reads I _ _ (.ref _) (dx_dp _ n (.tup hl hr)) rfl
    exact big rfl n rd
  | obj _ _ _ =>
    rcases hk with n | n
    · cases n
    · cases n
  | dct _ ne nn _ =>
    obtain ⟨q, r, e⟩ := dct_ne ne nn
    rw [e] at hk
    rcases hk with n | n
    · cases n
    · cases n
  | dc0 _ =>
    rcases hk with n | n
    · cases n
    · cases n
  | @dic a hl =>
    cases rx
    obtain ⟨_, nm, ws, kv, o, es, ep, ho, ex, hdt, _, pr, _⟩ := I.hok a _ hl
    cases kv
    have e0 : es = #[] := by
      cases hh : es.toList with
      | nil => exact Array.toList_eq_nil_iff.mp hh
      | cons e t => rw [hh] at pr; cases pr
    subst e0
    have rd : Reads s.heap (.ref a) (.dict []) [a] := Reads.dict (as := []) (bs := []) ho ex.1 hdt .nil .nil
    exact repr_of_reads' rd sh (fun _ m => by rw [List.mem_singleton.mp m] at nm; simp at nm) hg (by omega) (fun _ _ e => e) (fun h' t tk hk => ⟨.str _, H, I.kept hk, ⟨_, rfl⟩, q⟩) sz
section
variable {K K' : PySem.W.Frag} {p : Option Addr} {env : List Slot} {Φ : PyData → Prop}
theorem cb_reprA {d : PyData} (hk : d.hasDict = false ∨ d = .dict []) (sh : d.showable = true) (dp : d.depth ≤ 60) (sz : d.shown.length ≤ sizeLine) (q : Φ (.str d.shown)) (hK : K' = K := by with_unfolding_all rfl) : CbD K p (rReprA K') [d] Φ := fun vs Hk H Q e po rx k => by
  subst hK
  cases rx with
  | cons rx rr =>
    cases rr
    exact ⟨_, d, rfl, dp_mono e d rx, hk, sh, dp, sz, k _ _ _ _ (Go.refl e po) (.str _) q⟩
/-- {} -/
theorem e_dict0 (h : Φ (.dict [])) : WpE K p tDNewK env Φ := fun H0 σ Hk H Q e po en k => fun q hq =>
  k _ _ _ _ (Go.new e po hq) (.dic upd_same) h
end
end Fw
namespace Fw
open PySem PySem.Spec PyProof.Rows L2 Evl
theorem rows_at {ms : List (List Int)} {k : Nat} {m : List Int} (h : ms[k]? = some m) : atI (ms.map fun m => tupI m) (k : Int) = some (tupI m) := by
  have hk := (List.getElem?_eq_some_iff.mp h).1
  unfold atI
  rw [ixN_nat (by omega) (by rw [List.length_map]; omega)]
  show (ms.map fun m => tupI m)[((k : Int)).toNat]? = _
  rw [Int.toNat_natCast, List.getElem?_map, h]
  rfl
theorem ints_at {ns : List Int} {k : Nat} {n : Int} (h : ns[k]? = some n) : atI (ns.map PyData.int) (k : Int) = some (.int n) := by
  have hk := (List.getElem?_eq_some_iff.mp h).1
  unfold atI
  rw [ixN_nat (by omega) (by rw [List.length_map]; omega)]
  show (ns.map PyData.int)[((k : Int)).toNat]? = _
  rw [Int.toNat_natCast, List.getElem?_map, h]
  rfl
/-- a comprehension within another one -/
def relabelS (sc sc0 : Scope) : Scope := { sc with names := sc.names.map fun (n, k) => if (k == .free && sc0.kind == .function && sc0.names.lookup n == some .cell) then (n, .cell) else (n, k) }
theorem blkOk_in {X : Cx} {st : Shared} {H : Hp} {sc : Scope} {cl : List (Str × Addr)} {C : Addr} {env0 : Env} {fp : List Addr} {N : List Str} {scope : Scope} {own : List (Str × Nat)} (sc0 : Scope) (hN : X.N = N) (h0 : env0.scope = sc0) (h : blkC N (relabelS sc sc0) scope own = true) :
    BlkOk (X.blk st H sc (compEnvC sc cl C env0) fp).N (X.blk st H sc (compEnvC sc cl C env0) fp).env.scope scope own := by
  subst hN
  subst h0
  exact blkOk_by h
theorem kd_dict_int : kitB (tyD (PyData.dict [])) "int" = some false := by show kitB "dict" "int" = some false; decide +kernel
theorem kd_dict_bool : kitB (tyD (PyData.dict [])) "bool" = some false := by show kitB "dict" "bool" = some false; decide +kernel
theorem kd_dict_str : kitB (tyD (PyData.dict [])) "str" = some false := by show kitB "dict" "str" = some false; decide +kernel
theorem kd_dict_list : kitB (tyD (PyData.dict [])) "list" = some false := by show kitB "dict" "list" = some false; decide +kernel
theorem kd_dict_tuple : kitB (tyD (PyData.dict [])) "tuple" = some false := by show kitB "dict" "tuple" = some false; decide +kernel
section
variable {K K' : PySem.W.Frag} {p : Option Addr} {env : List Slot} {Φ : PyData → Prop} {te tb : TE} {O : Outs}
/-- own.extend(a new list) -/
theorem s_ext {i : Nat} {ds : List PyData} (hi : env[i]? = some (.own ds)) (h : WpF K p tb env fun es => ds.length + es.length ≤ 100000 ∧ O.nx (env.set i (.own (ds ++ es)))) (hK : K' = K := by with_unfolding_all rfl) : WpS K p (tDrop (tBM K' "list" rExtend (tVar i) (tCons tb tNil))) env O := fun H0 Hk0 σ Hk H D g en k => by
  subst hK
  obtain ⟨ov, s1, l, vs, rfl, h0, hk, hp, hl, rr⟩ := en.slot i _ hi
  refine ⟨.ref l, s1, .inl ⟨rfl, vs, SqL.of hl⟩, h H0 σ Hk H _ g.kr g.po en fun b zs es Hk1 H1 g1 b0 bk bh br ⟨hz, q⟩ => ?_⟩
  have hl' : H1 l = some (.lst vs) := g1.rr l _ hp hl
  have hk' : Hk1 l = none := g1.nk l (by rw [hl]; exact nofun) hk
  have r0 := dpAll_mono g1.kk ds rr
  refine ⟨l, b, vs, zs, rfl, rfl, hl', bh, sz_of (by rw [dpAll_len rr, dpAll_len br]; exact hz), ?_⟩
  exact k.nx _ σ Hk1 _ ((g.trans g1).mut h0 hp hk') ((en.go g1).put_own hi s1 (dpAll_app r0 br)) q
/-- one place of an own list is set -/
theorem s_set1 {i : Nat} {ti : TE} {ds : List PyData} (hi : env[i]? = some (.own ds)) (h : WpE K p te env fun d => WpE K p ti env fun x => ∃ (j : Int) (n : Nat), x = .int j ∧ ixN ds.length j = some n ∧ O.nx (env.set i (.own (ds.set n d)))) : WpS K p (tAsg te (gSub (tVar i) ti rSetL)) env O := fun H0 Hk0 σ Hk H D g en k =>
  h H0 σ Hk H _ g.kr g.po en fun v d Hk1 H1 g1 r h1 => by
    have en1 := en.go g1
    obtain ⟨ov, s1, l, vs, rfl, h0, hk, hp, hl, rr⟩ := en1.slot i _ hi
    refine ⟨.ref l, s1, h1 H0 σ Hk1 H1 _ g1.kr g1.po en1 fun w x Hk2 H2 g2 rx ⟨j, n, ex, en2, q⟩ => ?_⟩
    subst ex
    have e1 := dp_int rx
    subst e1
    have hl' : H2 l = some (.lst vs) := g2.rr l _ hp hl
    have hk' : Hk2 l = none := g2.nk l (by rw [hl]; exact nofun) hk
    have r0 := dpAll_mono g2.kk ds rr
    refine ⟨l, vs, j, n, rfl, rfl, hl', by rw [dpAll_len rr]; exact en2, ?_⟩
    exact k.nx _ σ Hk2 _ (((g.trans g1).trans g2).mut h0 hp hk') ((en1.go g2).put_own hi s1 (dpAll_set (dp_mono g2.kk d r) n r0)) q
theorem dpAll_blt {H : Hp} {bs : List Bool} {vs : List V} (h : DxAll K H vs (bs.map .bool)) : vs = bs.map V.bl := dpAll_bools h
theorem cb_any_ {ds : List PyData} (bs : List Bool) (hd : ds = bs.map .bool) (h : Φ (.bool (bs.any id))) (hK : K' = K := by with_unfolding_all rfl) : CbD K p (rAny K') [.list ds] Φ := fun vs Hk H Q e po rx k => by
  subst hK
  subst hd
  cases rx with
  | cons rx rr =>
    cases rr
    obtain ⟨a, xs, rfl, hL, r⟩ := dp_lst rx
    have := dpAll_bools r
    subst this
    exact ⟨a, bs, rfl, ex_l e hL, k _ _ _ _ (Go.refl e po) (.bl _) h⟩
theorem dpAll_erase {H : Hp} : ∀ {vs : List V} {ds : List PyData}, DxAll K H vs ds → ∀ j : Nat, DxAll K H (vs.eraseIdx j) (ds.eraseIdx j)
  | _, _, .nil, _ => .nil
  | _, _, .cons _ t, 0 => t
  | _, _, .cons h t, j + 1 => .cons h (dpAll_erase t j)
/-- own.append(other own.pop(j)): the one grows by what the other loses -/
theorem s_appPop {i m : Nat} {tj : TE} {ds es : List PyData} (hi : env[i]? = some (.own ds)) (hm : env[m]? = some (.own es)) (im : i ≠ m) (h : WpE K p tj env fun x => ∃ (j : Nat) (d : PyData), x = .int j ∧ es[j]? = some d ∧ ds.length < 100000 ∧ es.length ≤ 100000 ∧ O.nx ((env.set i (.own (ds ++ [d]))).set m (.own (es.eraseIdx j)))) (hK : K' = K := by with_unfolding_all rfl) :
    WpS K p (tDrop (tBM K' "list" rAppend (tVar i) (tCons (tBM K' "list" rPopAt (tVar m) (tCons tj tNil)) tNil))) env O := fun H0 Hk0 σ Hk H D g en k => by
  subst hK
  obtain ⟨ov, s1, l, vs, rfl, h0, hk, hp, hl, rr⟩ := en.slot i _ hi
  obtain ⟨ov2, s2, l2, vs2, rfl, h02, hk2, hp2, hl2, rr2⟩ := en.slot m _ hm
  have ll : l ≠ l2 := fun z => im (en.apart i m l ds es hi hm s1 (by rw [s2, z]))
  refine ⟨.ref l, s1, .inl ⟨rfl, vs, SqL.of hl⟩, .ref l2, s2, .inl ⟨rfl, vs2, SqL.of hl2⟩, h H0 σ Hk H _ g.kr g.po en fun v x Hk1 H1 g1 rx ⟨j, d, ex, hj, hz, he, q⟩ => ?_⟩
  subst ex
  have e1 := dp_int rx
  subst e1
  have a1 : H1 l = some (.lst vs) := g1.rr l _ hp hl
  have a2 : H1 l2 = some (.lst vs2) := g1.rr l2 _ hp2 hl2
  have b1 : Hk1 l = none := g1.nk l (by rw [hl]; exact nofun) hk
  have b2 : Hk1 l2 = none := g1.nk l2 (by rw [hl2]; exact nofun) hk2
  have r1 := dpAll_mono g1.kk ds rr
  have r2 := dpAll_mono g1.kk es rr2
  obtain ⟨w, hw, rw'⟩ := dpAll_get r2 hj
  have jl : j < vs2.length := (List.getElem?_eq_some_iff.mp hw).1
  have jz : vs2.length ≤ 100000 := by rw [dpAll_len rr2]; exact he
  refine ⟨l2, vs2, (j : Int), j, w, rfl, rfl, a2, by omega, by omega, (seqIndex_of (by omega) (by omega)).trans (by rw [Int.toNat_natCast]), hw, ?_⟩
  have c1 : (upd H1 l2 (.lst (vs2.eraseIdx j))) l = some (.lst vs) := by rw [upd_ne ll]; exact a1
  refine ⟨l, vs, w, rfl, rfl, c1, sz_lt (by rw [dpAll_len rr]; exact hz), ?_⟩
  have gA := ((g.trans g1).mut (o := .lst (vs2.eraseIdx j)) h02 hp2 b2).mut (o := .lst (vs ++ [w])) h0 hp b1
  have enA := (en.go g1).put_own (ws := vs2.eraseIdx j) (es := es.eraseIdx j) hm s2 (dpAll_erase r2 j)
  have iA : (env.set m (.own (es.eraseIdx j)))[i]? = some (.own ds) := by rw [List.getElem?_set_ne (Ne.symm im)]; exact hi
  have enB := enA.put_own (ws := vs ++ [w]) (es := ds ++ [d]) iA s1 (dpAll_app r1 (.cons rw' .nil))
  rw [List.set_comm _ _ (Ne.symm im)] at enB
  exact k.nx _ σ Hk1 _ gA enB q
/-- any over a list or a tuple of ints -/
def rAnyN (K : PySem.W.Frag) : List V → Hp → VK → Prop := fun vs H Q => ∃ (a : Addr) (ns : List Int), vs = [V.ref a] ∧ (SqL K H a (ns.map V.int) ∨ SqT K H a (ns.map V.int)) ∧ Q (.bl (ns.any fun n => n != 0)) H
theorem plain_ints : ∀ ns : List Int, PyData.plainAll (ns.map .int) = true
  | [] => rfl
  | n :: ns => by
    show (PyData.plain (.int n) && PyData.plainAll (ns.map .int)) = true
    rw [plain_ints ns]
    rfl
theorem any_truthy (ns : List Int) : (ns.map PyData.int).any PyData.truthy = ns.any fun n => n != 0 := by
  rw [List.any_map]
  rfl
theorem cr_anyN {X : Cx} (hc : X.calm = true) : CallR X (.builtin "any") (rAnyN X.K) := fun pins s σ H vs us Q I r h => by
  obtain ⟨a, ns, rfl, hs, q⟩ := h
  obtain ⟨u, rfl, ru⟩ := vals1 r
  cases ru
  have fit : ∀ x ∈ ns.map PyData.int, PyData.fits63 x := fun x hx => by
    obtain ⟨n, _, rfl⟩ := List.mem_map.mp hx
    exact True.intro
  rcases hs with hs | hs
  · obtain ⟨its, rv, pl, _⟩ := I.list hs
    have rd : ReadsAll s.heap its.toArray.toList (ns.map .int) [] := by
      rw [List.toList_toArray]
      exact FwT.reads_ints rv
    refine PySem.W.any_list_data (I.ok.hd hc) pl.isList rd (plain_ints ns) fit fun h' tk hk => ⟨.bl _, H, I.kept hk, ?_, q⟩
    rw [any_truthy]
    rfl
  · obtain ⟨its, rv, pl, _⟩ := I.tuple hs
    have rd : ReadsAll s.heap its.toArray.toList (ns.map .int) [] := by
      rw [List.toList_toArray]
      exact FwT.reads_ints rv
    refine PySem.W.any_tuple_data (I.ok.hd hc) (show s.heap.IsTuple a its.toArray from pl) rd (plain_ints ns) fit fun h' tk hk => ⟨.bl _, H, I.kept hk, ?_, q⟩
    rw [any_truthy]
    rfl
theorem cb_anyN {x : PyData} (ns : List Int) (hx : x = .list (ns.map .int) ∨ x = .tuple (ns.map .int)) (h : Φ (.bool (ns.any fun n => n != 0))) (hK : K' = K := by with_unfolding_all rfl) : CbD K p (rAnyN K') [x] Φ := fun vs Hk H Q e po rx k => by
  subst hK
  cases rx with
  | cons rx rr =>
    cases rr
    rcases hx with rfl | rfl
    · obtain ⟨a, xs, rfl, hL, r⟩ := dp_lst rx
      have := dpAll_ints r
      subst this
      exact ⟨a, ns, rfl, .inl (ex_l e hL), k _ _ _ _ (Go.refl e po) (.bl _) h⟩
    · obtain ⟨a, xs, rfl, hT, r⟩ := dp_tup rx
      have := dpAll_ints r
      subst this
      exact ⟨a, ns, rfl, .inr (ex_t e hT), k _ _ _ _ (Go.refl e po) (.bl _) h⟩
/-- max, min of a list of ints -/
theorem cb_maxL {ds : List PyData} (ns : List Int) (hd : ds = ns.map .int) (ne : 0 < ns.length) (h : ∀ m ∈ ns, (∀ y ∈ ns, y ≤ m) → Φ (.int m)) (hK : K' = K := by with_unfolding_all rfl) : CbD K p (rMax K') [.list ds] Φ := fun vs Hk H Q e po rx k => by
  subst hK
  subst hd
  cases rx with
  | cons rx rr =>
    cases rr
    obtain ⟨a, xs, rfl, hL, r⟩ := dp_lst rx
    have := dpAll_ints r
    subst this
    exact ⟨a, ns, rfl, ex_l e hL, ne, fun m m1 m2 => k _ _ _ _ (Go.refl e po) (.int _) (h m m1 m2)⟩
theorem cb_minL {ds : List PyData} (ns : List Int) (hd : ds = ns.map .int) (ne : 0 < ns.length) (h : ∀ m ∈ ns, (∀ y ∈ ns, m ≤ y) → Φ (.int m)) (hK : K' = K := by with_unfolding_all rfl) : CbD K p (rMin K') [.list ds] Φ := fun vs Hk H Q e po rx k => by
  subst hK
  subst hd
  cases rx with
  | cons rx rr =>
    cases rr
    obtain ⟨a, xs, rfl, hL, r⟩ := dp_lst rx
    have := dpAll_ints r
    subst this
    exact ⟨a, ns, rfl, ex_l e hL, ne, fun m m1 m2 => k _ _ _ _ (Go.refl e po) (.int _) (h m m1 m2)⟩
def isNo : PyData → Bool
  | .none => true
  | _ => false
theorem isNo_val {H : Hp} {v : V} {d : PyData} (h : Dx K H v d) : decide (v = .non) = isNo d := by
  cases h <;> rfl
theorem od_isN {x : PyData} (h : Φ (.bool (isNo x))) : OpD K p (fun x y H Q => y = .non ∧ Q (.bl (decide (x = .non))) H) x .none Φ := fun vx vy Hk H Q e po rx ry k => by
  rw [dp_non ry]
  refine ⟨rfl, ?_⟩
  rw [isNo_val rx]
  exact k _ _ _ _ (Go.refl e po) (.bl _) h
theorem od_notN {x : PyData} (h : Φ (.bool (!isNo x))) : OpD K p (fun x y H Q => y = .non ∧ Q (.bl (!decide (x = .non))) H) x .none Φ := fun vx vy Hk H Q e po rx ry k => by
  rw [dp_non ry]
  refine ⟨rfl, ?_⟩
  rw [isNo_val rx]
  exact k _ _ _ _ (Go.refl e po) (.bl _) h
end
end Fw
namespace FwB
open PySem PySem.Spec PyProof.Rows L2
/-! a set of the items of a tuple, each a tuple of ints -/
section
variable {P : Program} {w : World} {A : Around} {E : Value → Shared → Prop} {s : Shared}
abbrev eset (w : World) : Obj := { cls := .type "set", dict := none, data := .set #[] 0 (.fresh 0 0 (!w.params.followText "set-order")) }
theorem setT_of_tuple {t : Addr} {its : Array Value} (ks : List (Addr × List Int)) {Q : Value → Shared → Prop} (calm : A.handled = none) (ht : s.heap.IsTuple t its) (same : its.toList = ks.map fun q => Value.ref q.1) (rows : ∀ q ∈ ks, IsT P w s.heap q.2 q.1) (few : ks.length < 64) (un : A.units + 3 < cLine)
    (end_ : ∀ (g : Heap) (tk : Nat) L es ep tb, SetTR P w g s.heap.objs.size L es ep tb → Got ks ks.length L → (∀ b o, s.heap.get? b = some o → g.get? b = some o) → Q (.ref s.heap.objs.size) { s with heap := g, toks := tk }) : wpAny (model P w) A (call (.type "set") [.ref t]) Q E s := by
  have nits : its.size = ks.length := by rw [← Array.length_toList, same, List.length_map]
  obtain ⟨c, tl, mro_⟩ := F.called_set.mro
  have made_ := F.called_set.made
  have sub_ := F.called_set.sub
  refine wpAny_call (codeAny_of_tree ?_)
  refine (show wpAny _ _ (callAny (.type "set") _) _ _ _ from wpAny_pure ⟨Code.quiet_builtin _ (by decide +kernel), codeAny_builtin F.entry_type_call ?_⟩)
  rw [Around.under_plain (weight_type_call_type "set" [.ref t] []) rfl]
  have nt_ := F.called_set.notType
  have cc_ := F.called_set.canCreate
  have tc_ := F.typeCall_set_1 (.ref t)
  repeat (any_goals (first | wp_step | assumption))
  refine codeAny_mono (code_set_led1 (.ref t) (E := E) (Q₁ := fun ob u => ob = .ref s.heap.objs.size ∧ u = { s with heap := s.heap.push (eset w) }) ⟨rfl, rfl⟩) fun r u hr => ?_
  match r, hr with
  | .error e, hr => exact hr
  | .ok .next, hr => exact hr.elim
  | .ok .brk, hr => exact hr.elim
  | .ok .cont, hr => exact hr.elim
  | .ok (.ret ob), hr =>
    obtain ⟨rfl, rfl⟩ := hr
    have here : (s.heap.push (eset w)).get? s.heap.objs.size = some (eset w) := Heap.get?_push_size _ rfl
    have typ : Shared.TypeIs { s with heap := s.heap.push (eset w) } (.ref s.heap.objs.size) "set" := ⟨_, here, rfl⟩
    have il_ := F.called_set.init.lookup
    have ib_ := F.called_set.init.bind (.ref s.heap.objs.size)
    repeat (any_goals (first | wp_step | assumption))
    refine codeAny_mono (codeAny_call_builtin (R := wants (fun r u => r = .none ∧ ∃ g tk L es ep tb, u = { s with heap := g, toks := tk } ∧ SetTR P w g s.heap.objs.size L es ep tb ∧ Got ks ks.length L ∧ (∀ b o, s.heap.get? b = some o → g.get? b = some o)) E) F.called_set.init.plain F.entry_set_init (check_set_init_1 typ ?_)) fun r2 u2 hr2 => ?_
    · obtain ⟨⟨kc, kd, kdat, ksl⟩, ot, oc, nt, od⟩ := ht
      simp only at oc od
      subst oc od
      have ot2 : (s.heap.push (eset w)).get? t = some { cls := .type "tuple", dict := kd, data := .seq its nt, slots := ksl } := Heap.get?_push_of_some _ ot
      have ss_ := F.sub_tuple_set
      have sf_ := F.sub_tuple_frozenset
      have nd_ : (Value.type "tuple" == Value.type "dict") = false := by decide
      have ht2 : (s.heap.push (eset w)).IsTuple t its := ⟨_, ot2, rfl, nt, rfl⟩
      unfold Builtin.«set.__init__» noKeywords Builtin.Frozenset.updateFrom
      generalize kept : pyIter = PI
      wp_walk
      subst kept
      refine wpAny_pyIter_tuple ht2 (wpAny_bind (wpAny_runValue ?_))
      have lt_ : t < s.heap.objs.size := Heap.lt_size ot
      have size_ : (s.heap.push (eset w)).objs.size = s.heap.objs.size + 1 := Heap.size_push ..
      have apart_ : t ≠ (s.heap.push (eset w)).objs.size := by rw [size_]; exact fun z => absurd (z ▸ Nat.lt_succ_of_lt lt_ : _ < _) (Nat.lt_irrefl _)
      have off_ : s.heap.objs.size ∉ [(s.heap.push (eset w)).objs.size, t] := by
        rw [size_]
        intro z
        rcases List.mem_cons.mp z with z | z
        · exact absurd z (Nat.ne_of_lt (Nat.lt_succ_self _))
        · exact absurd (List.mem_singleton.mp z) (Nat.ne_of_gt lt_)
      have void : ∀ b, s.heap.objs.size ≤ b → s.heap.get? b = none := fun b hb => by
        cases z : s.heap.get? b with
        | none => rfl
        | some o => exact absurd (Nat.lt_of_lt_of_le (Heap.lt_size z) hb) (Nat.lt_irrefl _)
      have each : ∀ (i : Nat) (v : Value), its[i]? = some v → ∃ q, ks[i]? = some q ∧ v = .ref q.1 := fun i v hv => by
        have z : (ks.map fun q => Value.ref q.1)[i]? = some v := by rw [← same, Array.getElem?_toList]; exact hv
        rw [List.getElem?_map] at z
        obtain ⟨q, h1, h2⟩ := Option.map_eq_some_iff.mp z
        exact ⟨q, h1, h2.symm⟩
      have hw : A.in1.in1.in1.handled = none := by simp [calm]
      refine set_update_tups ((Walks.tuple hw _ t apart_ its).toS) s.heap.objs.size off_ ks nits few each s.heap rows (void _ (Nat.le_refl _)) (fun b hb => void b (by rw [List.mem_singleton.mp hb, size_]; omega)) un (its.size - 0) 0 _ (by omega) (Nat.zero_le _) ⟨⟨_, Heap.get?_push_size _ rfl, rfl, rfl⟩, ht2.push _⟩ (fun b o e => Heap.get?_push_of_some _ (Heap.get?_push_of_some _ e)) ?start ?last
      case start =>
        refine ⟨[], #[], 0, _, setTR_fresh (h := (s.heap.push (eset w)).push { cls := .type "tuple_iterator", data := .fields #[.ref t, .int 0 0] }) (Heap.get?_push_of_some _ here), Got.zero ks⟩
      case last =>
        rintro ⟨g, gs, dr, tk, os⟩ L es ep tb mv R got keep
        have e1 : gs = s.gens := mv.gens
        have e2 : dr = s.drawn := mv.drawn
        have e3 : os = s.os := mv.os
        subst e1 e2 e3
        rw [nits] at got
        refine (show wpAny _ _ _ _ _ _ from wpAny_pure ?_)
        refine (show wpAny _ _ (ret Value.none) _ _ _ from wpAny_pure ⟨rfl, g, tk, L, es, ep, tb, rfl, R, got, keep⟩)
    · match r2, hr2 with
      | .error e, hr2 => exact hr2
      | .ok .next, hr2 => exact hr2.elim
      | .ok .brk, hr2 => exact hr2.elim
      | .ok .cont, hr2 => exact hr2.elim
      | .ok (.ret r), hr2 =>
        obtain ⟨rfl, g, tk, L, es, ep, tb, rfl, R, got, keep⟩ := hr2
        repeat (any_goals (first | wp_step | assumption))
        exact end_ g tk L es ep tb R got keep
end
end FwB
/-! sorted of a known dict; set of a tuple of tuples; dicts held by a name -/
namespace FwB
open PySem PySem.Spec PyProof.Rows L2 FwD FwS
mutual
theorem reads_there {h : Heap} : ∀ (d : PyData) {v : Value} {as : List Addr}, d.hasDict = false → Reads h v d as → ∀ a ∈ as, ∃ o, h.get? a = some o
  | .none, _, _, _, r, a, m => by cases r; cases m
  | .bool _, _, _, _, r, a, m => by cases r; cases m
  | .int _, _, _, _, r, a, m => by cases r; cases m
  | .str _, _, _, _, r, a, m => by cases r; cases m
  | .list ds, _, _, n, r, a, m => by
    cases r with
    | list e1 _ _ e4 =>
      rcases List.mem_cons.mp m with z | z
      · rw [z]; exact ⟨_, e1⟩
      · exact readsAll_there ds n e4 a z
  | .tuple ds, _, _, n, r, a, m => by
    cases r with
    | tuple _ _ _ e4 => exact readsAll_there ds n e4 a m
  | .dict _, _, _, n, _, _, _ => by cases n
theorem readsAll_there {h : Heap} : ∀ (ds : List PyData) {vs : List Value} {as : List Addr}, PyData.hasDictAll ds = false → ReadsAll h vs ds as → ∀ a ∈ as, ∃ o, h.get? a = some o
  | [], _, _, _, r, a, m => by cases r; cases m
  | d :: ds, _, _, n, r, a, m => by
    have n' : (d.hasDict || PyData.hasDictAll ds) = false := n
    rw [Bool.or_eq_false_iff] at n'
    cases r with
    | cons r1 r2 =>
      rcases List.mem_append.mp m with z | z
      · exact reads_there d n'.1 r1 a z
      · exact readsAll_there ds n'.2 r2 a z
end
def rSortDic (K : PySem.W.Frag) : List V → Hp → VK → Prop := fun vs H Q => ∃ (l : Addr) (o : Obj) (es : Array DictEntry) (ep : Nat) (kvs : List (PyData × PyData)) (Rk : PyData → Addr → Prop) (Rv : PyData → Value → Prop),
  vs = [.ref l] ∧ DicO Rk Rv H l o es ep kvs ∧ kvs.length ≤ 100000 ∧ (∀ d a, Rk d a → Dp K H (.ref a) d) ∧ PySem.W.AllAlike (kvs.map (·.1)) ∧ PySem.W.Sortable (kvs.map (·.1)) ∧ (∀ d ∈ kvs.map (·.1), d.depth ≤ 60) ∧
  ∀ ys p, Paired (fun x d => ∃ a, x = V.ref a ∧ Rk d a) ys (sortD (kvs.map (·.1))) → H p = none → Q (.ref p) (upd H p (.lst ys))
theorem cr_sortedDic {X : Cx} (hc : X.calm = true) (hu : X.A.units + 64 < cLine) : CallR X (.builtin "sorted") (rSortDic X.K) := fun pins s σ H vs us Q I r h => by
  obtain ⟨l, o, es, ep, kvs, Rk, Rv, rfl, D, hz, hR, al, so, dp, q⟩ := h
  rw [Vals.ref1 r]
  obtain ⟨raw, sz, at_⟩ := DicO.raw I D
  refine Calls.call_function_entry kind_sorted plain_sorted entry_sorted (args_sorted1 _) ?_
  unfold Builtin.«sorted»
  refine wpAny_bind (m := checkCount "sorted" 1 1 _) (wpAny_pure ?_)
  refine wpAny_bind (PySem.W.kdu_collect (A := X.A.in1) (PySem.KdlSrc.rawDict D.2.1) (I.ok.hd hc) raw (by rw [sz, sizeLine_eq]; omega) fun h' tk acc hk hacc => ?_)
  have I1 : Inv X pins σ H { s with heap := h', toks := tk } := I.kept hk
  have al0 : acc.toList.length = kvs.length := by rw [Array.length_toList, hacc.1, sz]
  have bo : PySem.W.EachIs (fun v (d : PyData) => ∃ a, v = Value.ref a ∧ Rk d a) acc.toList (kvs.map (·.1)) := by
    have gen : ∀ (us : List Value) (ds : List PyData), us.length = ds.length → (∀ (j : Nat) (u : Value) (d : PyData), us[j]? = some u → ds[j]? = some d → ∃ a, u = Value.ref a ∧ Rk d a) → PySem.W.EachIs (fun v (d : PyData) => ∃ a, v = Value.ref a ∧ Rk d a) us ds := fun us => by
      induction us with
      | nil =>
        intro ds hl _
        cases ds with
        | nil => exact .nil
        | cons _ _ => cases hl
      | cons u us ih =>
        intro ds hl h
        cases ds with
        | nil => cases hl
        | cons d ds => exact .cons (h 0 u d rfl rfl) (ih ds (Nat.succ.inj hl) fun j u' d' e1 e2 => h (j + 1) u' d' e1 e2)
    refine gen _ _ (by rw [al0, List.length_map]) fun j u d e1 e2 => ?_
    rw [Array.getElem?_toList] at e1
    obtain ⟨hi, rfl⟩ := hacc.2 j u e1
    rw [List.getElem?_map] at e2
    cases e3 : kvs[j]? with
    | none => rw [e3] at e2; cases e2
    | some kv =>
      rw [e3] at e2
      cases e2
      exact at_ j hi kv.1 kv.2 e3
  refine wpAny_bind (wpAny_newList ?_ (by rw [al0, sizeLine_eq]; omega))
  have hoL : (h'.push (seqObj "list" acc.toList.toArray 0)).get? h'.objs.size = some (seqObj "list" acc.toList.toArray 0) := Heap.get?_push_size _ rfl
  have hnone : H h'.objs.size = none := I1.hok.fresh (Nat.le_refl _)
  have I2 : Inv X pins σ H { s with heap := h'.push (seqObj "list" acc.toList.toArray 0), toks := tk } := I.kept fun b u e => Heap.get?_push_of_some _ (hk b u e)
  have rd : PySem.W.EachIs (fun v d => ∃ as, Reads (h'.push (seqObj "list" acc.toList.toArray 0)) v d as ∧ h'.objs.size ∉ as) acc.toList (kvs.map (·.1)) := bo.mono fun v d ⟨a, ev, ra⟩ => by
    subst ev
    obtain ⟨as, r⟩ := Dp.reads I1 d (.ref a) (.ref a) (hR d a ra) rfl
    exact ⟨as, PyProof.Rows.Reads.keeps (fun b u e => Heap.get?_push_of_some _ e) r, fun z => by
      obtain ⟨u, hu⟩ := reads_there d (Fw.dp_noDict d (hR d a ra)) r _ z
      exact absurd (Heap.lt_size hu) (Nat.lt_irrefl _)⟩
  have e0 : (kvs.map (·.1)).map (fun d : PyData => d) = kvs.map (·.1) := List.map_id' _
  refine wpAny_bind (wpAny_holding (PySem.W.list_sort_data (s := { s with heap := h'.push (seqObj "list" acc.toList.toArray 0), toks := tk }) (enc := fun d : PyData => d) hoL bo rd (by rw [e0]; exact al) (by rw [e0]; exact so) (by rw [List.length_map, sizeLine_eq]; omega) (fun d hd => ?_) fun out lo eo => ?_))
  · have := dp d hd
    show X.A.in1.units + 1 + d.depth < cLine
    simp only [Around.in1_units]
    omega
  obtain ⟨c, hat⟩ := sortedHeap_at (vs := acc.toList) (out := out.toArray) hoL
  obtain ⟨ys, ry, hy⟩ : ∃ ys, Vals ys out ∧ Paired (fun x (d : PyData) => ∃ a, x = V.ref a ∧ Rk d a) ys (sortD (kvs.map (·.1))) := by
    have gen : ∀ {us : List Value} {ds : List PyData}, PySem.W.EachIs (fun v (d : PyData) => ∃ a, v = Value.ref a ∧ Rk d a) us ds → ∃ ys, Vals ys us ∧ Paired (fun x (d : PyData) => ∃ a, x = V.ref a ∧ Rk d a) ys ds := fun z => by
      induction z with
      | nil => exact ⟨[], .nil, .nil⟩
      | cons h _ ih =>
        obtain ⟨a, e, r⟩ := h
        obtain ⟨ys, h1, h2⟩ := ih
        exact ⟨.ref a :: ys, .cons e h1, .cons ⟨a, rfl, r⟩ h2⟩
    exact gen eo
  have ll : ys.length ≤ sizeLine := by
    have e1 := ry.length
    rw [lo, List.length_map] at e1
    rw [e1, sizeLine_eq]
    omega
  refine wpAny_pure ⟨_, rfl, .ref h'.objs.size, upd H h'.objs.size (.lst ys), I1.laid (t' := tk) (fun b u e => ?_) (Nat.le_refl _) ⟨ll, out, c, ry, hat⟩, rfl, q ys _ hy hnone⟩
  have hb : b < h'.objs.size := Heap.lt_size e
  rw [sortedHeap_old (Nat.ne_of_lt hb) (by rw [size_push']; exact Nat.lt_succ_of_lt hb)]
  exact Heap.get?_push_of_some _ e
end FwB
namespace FwB
open PySem PySem.Spec PyProof.Rows L2
def rSetTT (K : PySem.W.Frag) (P : Program) (w : World) : List V → Hp → VK → Prop := fun xs H Q => ∃ (l : Addr) (ks : List (Addr × List Int)), xs = [V.ref l] ∧ SqT K H l (ks.map fun p => V.ref p.1) ∧ (∀ p ∈ ks, SqT K H p.1 (p.2.map V.int)) ∧ ks.length < 64 ∧
  ∀ a L, H a = none → (∀ p ∈ L, p ∈ ks) → (∀ p ∈ ks, p.2 ∈ L.map (·.2)) → Q (.ref a) (upd H a (SetTO P w a L))
theorem cr_setTT {X : Cx} (hc : X.calm = true) (hu : X.A.units + 64 < cLine) : CallR X (.type "set") (rSetTT X.K X.prog X.w) := fun pins s σ H xs us Q I r h => by
  obtain ⟨l, ks, rfl, hl, rows, few, q⟩ := h
  rw [Vals.ref1 r]
  obtain ⟨its, rv, pl, hz⟩ := I.tuple hl
  refine setT_of_tuple ks (I.ok.hd hc) (show s.heap.IsTuple l its.toArray from pl) (by simpa using refs_of_vals rv) (fun p hp => I.isT (rows p hp)) few (by omega) fun g tk L es ep tb R got keep => ⟨.ref s.heap.objs.size, upd H s.heap.objs.size (SetTO X.prog X.w s.heap.objs.size L), I.laid (t' := tk) keep (Nat.le_refl _) (setTO_new R.t0), rfl, q _ L I.fresh (fun p hp => ?_) fun p hp => ?_⟩
  · exact List.mem_of_mem_take (got.sub p hp)
  · exact got.all p (by rw [List.take_length]; exact hp)
end FwB
namespace Fw
open PySem PySem.Spec PyProof.Rows L2 Evl FwW FwB FwD FwS
section
variable {K K' : PySem.W.Frag} {p : Option Addr} {env : List Slot} {te ta tb : TE} {O : Outs} {Φ : PyData → Prop}
/-- sorted(set(a tuple of rows)): a new list -/
theorem f_sortSetT {P : Program} {w : World} {Ψ : List PyData → Prop} (h : WpE K p te env fun x => ∃ ms : List (List Int), x = .tuple (ms.map fun m => tupI m) ∧ ms.length < 64 ∧ (∀ m ∈ ms, m ≠ []) ∧ ∀ rs : List (List Int), rs.Pairwise (· < ·) → (∀ y, y ∈ rs ↔ y ∈ ms) → Ψ (rs.map fun m => tupI m)) (hK : K' = K := by with_unfolding_all rfl) :
    WpF K p (tCB (rSortS K' P w) (tCons (tCB (rSetTT K' P w) (tCons te tNil)) tNil)) env Ψ := fun H0 σ Hk H Q e po en k => by
  subst hK
  refine h H0 σ Hk H _ e po en fun v x Hk1 H1 g1 rx ⟨ms, ex, few, ne, f⟩ => ?_
  subst ex
  obtain ⟨l, xs, rfl, hL, r⟩ := dp_tup rx
  obtain ⟨ks, rfl, e2, e3⟩ := rows_refs r
  have kl : ks.length = ms.length := by rw [← e2, List.length_map]
  refine ⟨l, ks, rfl, ex_t g1.kr hL, fun q hq => ex_t g1.kr (e3 q hq), by omega, fun a L ha hs hm => ?_⟩
  have gA := g1.mut (o := SetTO P w a L) (fresh0 g1 ha) (pot_ne g1.po ha) (fresh_back g1.kr ha)
  refine ⟨a, L, rfl, upd_same, fun q hq => ex_t gA.kr (e3 q (hs q hq)), fun q hq => ne q.2 (by rw [← e2]; exact List.mem_map.mpr ⟨q, hs q hq, rfl⟩), fun M b pm nd ml pw hb => ?_⟩
  have mM : ∀ y, y ∈ M.map (·.2) ↔ y ∈ ms := fun y => by
    rw [← e2]
    constructor
    · intro hy
      obtain ⟨q, hq, rfl⟩ := List.mem_map.mp hy
      exact List.mem_map.mpr ⟨q, hs q (pm.mem_iff.mp hq), rfl⟩
    · intro hy
      obtain ⟨q, hq, rfl⟩ := List.mem_map.mp hy
      obtain ⟨q', hq', e⟩ := List.mem_map.mp (hm q hq)
      exact List.mem_map.mpr ⟨q', pm.mem_iff.mpr hq', e⟩
  refine k b _ ((M.map (·.2)).map fun m => tupI m) Hk1 _ (gA.mut (fresh0 gA hb) (pot_ne gA.po hb) (fresh_back gA.kr hb)) (fresh0 gA hb) (fresh_back gA.kr hb) upd_same (refs_rows fun q hq => e3 q (hs q (pm.mem_iff.mp hq))) (f _ (asc_of ints_tri nd (List.pairwise_map.mpr pw)) mM)
/-- a dict that is known and stays -/
def dctS (K : PySem.W.Frag) (kvs : List (PyData × PyData)) : Ext := ⟨fun Hk v => ∃ l, v = .ref l ∧ DicK K Hk Hk l kvs, fun _ _ _ x ⟨l, e, D⟩ => ⟨l, e, D.mono (fun d _ r => dp_mono0 x d r) (fun d _ ⟨v, rv, h⟩ => ⟨v, rv, dp_mono x d h⟩) fun o h => x l o h⟩⟩
theorem s_dic {i : Nat} (h : WpD K p te env fun kvs => O.nx (env.set i (.ext (dctS K kvs)))) : WpS K p (tAsg te (gName i)) env O := fun H0 Hk0 σ Hk H D g en k =>
  h H0 σ Hk H _ g.kr g.po en fun l kvs Hk' H' g' h0 hk Dk f => by
    obtain ⟨o, es, ep, DO⟩ := dicO_of Dk
    have hp := pot_ne g.po h0
    have gA := g'.pub h0 hp hk DO.1
    have gp : Go p Hk0 H0 (upd Hk' l (exact l o)) H' := (g.trans g').pub (fresh0 g h0) hp hk DO.1
    have D2 : DicK K (upd Hk' l (exact l o)) (upd Hk' l (exact l o)) l kvs := Dk.mono (fun d _ r => dp_mono0 (Ex.new hk) d r) (fun d _ ⟨v, rv, h⟩ => ⟨v, rv, dp_mono (Ex.new hk) d h⟩) fun u hu => by
      rw [DO.1] at hu
      rw [← Option.some.inj hu]
      exact upd_same
    exact k.nx _ _ _ H' gp ((en.go gA).set_any (ov := some (.ref l)) (sl := .ext (dctS K kvs)) ⟨.ref l, rfl, l, rfl, D2⟩ (fun _ q => Slot.noConfusion q) (fun _ q => Slot.noConfusion q) (fun q => nomatch q)) f
theorem dctS_at {H0 Hk H : Hp} {σ : List (Option V)} {i : Nat} {kvs : List (PyData × PyData)} (e : Ex Hk H) (en : En K p H0 Hk H σ env) (hi : env[i]? = some (.ext (dctS K kvs))) : ∃ l, σ[i]? = some (some (.ref l)) ∧ DicAt (RkOf K Hk) (RvOf K Hk) H l kvs := by
  obtain ⟨ov, h1, v, rfl, l, rfl, D⟩ := en.slot i _ hi
  exact ⟨l, h1, D.mono (fun _ _ r => r) (fun _ _ r => r) fun o h => e l o h⟩
theorem e_lenX {i : Nat} {kvs : List (PyData × PyData)} (hi : env[i]? = some (.ext (dctS K kvs))) (h : Φ (.int kvs.length)) {r : List V → Hp → VK → Prop} (hr : r = fun xs H Q => ∃ (p : Addr) (kvs : List (PyData × PyData)) (Rk : PyData → Addr → Prop) (Rv : PyData → Value → Prop), xs = [.ref p] ∧ DicAt Rk Rv H p kvs ∧ (∀ d a, Rk d a → Dp K H (.ref a) d) ∧ Q (.int kvs.length) H := by with_unfolding_all rfl) :
    WpE K p (tCB r (tCons (tVar i) tNil)) env Φ := fun H0 σ Hk H Q e po en k => by
  subst hr
  obtain ⟨l, h1, D⟩ := dctS_at e en hi
  exact ⟨.ref l, h1, l, kvs, _, _, rfl, D, fun d a r => dp_mono0 e d r, k _ _ Hk H (Go.refl e po) (.int _) h⟩
theorem f_sortX {i : Nat} {kvs : List (PyData × PyData)} {Ψ : List PyData → Prop} (hi : env[i]? = some (.ext (dctS K kvs))) (hz : kvs.length ≤ 100000) (al : PySem.W.AllAlike (kvs.map (·.1))) (so : PySem.W.Sortable (kvs.map (·.1))) (dp : ∀ d ∈ kvs.map (·.1), d.depth ≤ 60) (h : Ψ (sortD (kvs.map (·.1)))) (hK : K' = K := by with_unfolding_all rfl) :
    WpF K p (tCB (rSortDic K') (tCons (tVar i) tNil)) env Ψ := fun H0 σ Hk H Q e po en k => by
  subst hK
  obtain ⟨l, h1, D⟩ := dctS_at e en hi
  obtain ⟨o, es, ep, DO⟩ := dicO_of D
  refine ⟨.ref l, h1, l, o, es, ep, kvs, _, _, rfl, DO, hz, fun d a r => dp_mono0 e d r, al, so, dp, fun ys q py hq => ?_⟩
  have all : ∀ {ys : List V} {ds : List PyData}, Paired (fun x d => ∃ a, x = V.ref a ∧ RkOf K' Hk d a) ys ds → DxAll K' Hk ys ds := fun z => by
    induction z with
    | nil => exact .nil
    | cons h _ ih =>
      obtain ⟨a, rfl, r⟩ := h
      exact .cons (dp_dx _ r) ih
  exact k q ys _ Hk _ ((Go.refl e po).mut hq (pot_ne po hq) (fresh_back e hq)) hq (fresh_back e hq) upd_same (all py) h
/-- two names, both for new lists -/
theorem s_parFF {i j : Nat} (h : WpF K p ta env fun xs => WpF K p tb env fun ds => O.nx ((env.set i (.own xs)).set j (.own ds))) : WpS K p (tPar i j (tCons ta (tCons tb tNil))) env O := fun H0 Hk0 σ Hk H D g en k =>
  h H0 σ Hk H _ g.kr g.po en fun l1 us xs Hk1 H1 g1 a0 ak al ar h1 => h1 H0 σ Hk1 H1 _ g1.kr g1.po (en.go g1) fun l vs ds Hk' H' g' h0 hk hl r f => by
    have gg := g.trans g1
    have p1 := pot_ne g.po a0
    have al2 : H' l1 = some (.lst us) := g'.rr l1 _ p1 al
    have ak2 : Hk' l1 = none := g'.nk l1 (by rw [al]; exact nofun) ak
    refine ⟨.ref l1, .ref l, rfl, k.nx _ _ Hk' H' (gg.trans g') ?_ f⟩
    have enA : En K p H0 Hk1 H1 (σ.set i (some (.ref l1))) (env.set i (.own xs)) := En.add_own en (en.go g1) (fresh0 g a0) a0 al ak p1 ar
    exact En.add_own enA (enA.go g') (fresh0 gg h0) h0 hl hk (pot_ne g1.po h0) r
end
end Fw
namespace FwD
open PySem PySem.Spec PyProof.Rows L2
section
variable {X : Cx}
theorem sw_dict {kx vx : Expr} {gs : List Comprehension} {scope : Scope} {pos py : Pos} {y : Str} {l : Nat} {env : Env} (hk : env.scope.kind = .function) (hy : env.scope.names.lookup y = some .local) (hl : (py.line == pos.line) = true)
    (ha : (scope.names.any fun (n, k) => n == y && (k == .local || k == .cell)) = false) : swapsWith (.DictComp kx vx gs scope pos) (some (.Name y py)) l env = pure true := by
  have e1 : env.kindOf y = some .local := hy
  have e2 : env.blockKind = .function := by
    unfold Env.blockKind
    rw [hk]
    rfl
  unfold swapsWith
  simp only [e1, e2, ha, Expr.pos, hl]
  rfl
/-- name = {k: v for ..}, the name a local -/
theorem ps_setDc {i : Nat} {y : Str} {py spos : Pos} {kx vx tg iter : Expr} {ifs : List Expr} {scope : Scope} {own : List (Str × Nat)} {pos : Pos} {wi : TI} {g : TG} {tt : TT} {tk tv : TE} (hu : X.A.units + 64 < cLine) (calm : X.calm = true) (nd : X.N.Nodup) (at_ : X.N[i]? = some y) (loc : X.env.scope.names.lookup y = some .local)
    (sw : swapsWith (.DictComp kx vx [⟨tg, iter, ifs, 0⟩] scope pos) (some (.Name y py)) spos.line X.env = pure true) (hi : PI X tg iter wi) (ok : BlkOk X.N X.env.scope scope own)
    (pg : BlkFor X scope fun Y => PG Y tg g) (pt : BlkFor X scope fun Y => PTs Y ifs tt) (pk : BlkFor X scope fun Y => PE Y kx tk) (pv : BlkFor X scope fun Y => PE Y vx tv)
    (fold : ∀ x, foldedSetIterable iter X.env x = pure x := by intro _; rfl) : PS X (.Assign [.Name y py] (.DictComp kx vx [⟨tg, iter, ifs, 0⟩] scope pos) spos) (tAsg (tDcX X.K wi g tt tk tv (own.map (·.2))) (gName i)) := by
  constructor
  intro pins s σ H D I h
  rw [exec_Assign_Name_used _ _ _ _ sw]
  refine wpAny_bind (wpAny_standAt (wpAny_bind ?_))
  have h2 : tDcX X.K wi g tt tk tv (own.map (·.2)) σ H (fun x H1 => gName i x σ H1 D.nx) := h
  refine (show wpAny _ X.A (do let _ ← comprehension (.DictComp kx vx [⟨tg, iter, ifs, 0⟩] scope pos) scope X.env (firstIterPos [⟨tg, iter, ifs, 0⟩] pos) newDict false (eval iter X.env) (some (assign (.Name y py) X.env))) _ _ s from ?_)
  refine wpAny_bind (thn (dcX_core (Qf := fun _ s' => SP X pins D .next s') hu calm nd I hi ok pg pt pk pv fold h2 fun L C s' m H' I' q ns f => ?_) fun _ s' hq => wpAny_pure (wpAny_pure hq))
  refine (show wpAny _ _ (assign (.Name y py) X.env (.ref L)) _ _ _ from ?_)
  refine wpAny_assign_Name (store_ok2 (v := V.ref L) I' nd at_ (.inl loc) rfl (fun s2 I2 ⟨a, sb, ha⟩ => ?_) (.inr loc))
  obtain ⟨f0, f1, f2, f3, f4, f5⟩ := f
  have apart : C ≠ a := by
    rcases ha with z | z
    · rw [z]
      exact f1
    · exact fun e => f4 y a z e.symm
  refine ⟨m, ns.sameBut sb apart, fun h3 sb3 => ⟨_, H', I2.turned (t' := s2.toks) (fun b o hb e => (sb3.2 b hb).trans e) f0 f1 f3 f4 f5, q⟩⟩
end
end FwD
/-! rows of ints as data: sorted, keys of dicts -/
namespace FwN
open PySem PySem.Spec PyProof.Rows L2 Fw FwS FwD FwW
theorem alike_row (a b : List Int) : PySem.W.alike (tupI a) (tupI b) = true := by
  have := alike_all a b
  simpa [PySem.W.alike] using this
theorem sort_rows (ks : List (List Int)) : ∃ rs : List (List Int), sortD (ks.map fun m => tupI m) = rs.map (fun m => tupI m) ∧ rs.Perm ks ∧ rs.Pairwise fun a b => ¬ b < a := by
  have T := PySem.W.sortLe_total (PyProof.Rows.listOrd PyProof.Rows.itemOrd) false fun d : PyData => PySem.W.keyToks d
  have hle : ∀ a b : List Int, (fun a b => PySem.W.dataLe false (fun d : PyData => d) (tupI a) (tupI b)) a b = PySem.W.dataLe false (fun d : PyData => d) (tupI a) (tupI b) := fun _ _ => rfl
  have P := List.pairwise_mergeSort (le := fun a b : List Int => PySem.W.dataLe false (fun d : PyData => d) (tupI a) (tupI b)) (fun a b c h1 h2 => T.trans _ _ _ h1 h2) (fun a b => by
    rcases T.total (tupI a) (tupI b) with h | h
    · exact Bool.or_eq_true_iff.mpr (.inl h)
    · exact Bool.or_eq_true_iff.mpr (.inr h)) ks
  have pm := List.mergeSort_perm ks (fun a b => PySem.W.dataLe false (fun d : PyData => d) (tupI a) (tupI b))
  refine ⟨_, (List.map_mergeSort (f := fun m => tupI m) (fun a _ b _ => hle a b)).symm, pm, P.imp fun {a b} h => ?_⟩
  have h3 : (!PySem.W.dataLt (tupI b) (tupI a)) = true := h
  rw [lt_rows] at h3
  simpa using h3
theorem alike_rows (ks : List (List Int)) : PySem.W.AllAlike (ks.map fun m => tupI m) := fun d hd d' hd' => by
  obtain ⟨a, _, rfl⟩ := List.mem_map.mp hd
  obtain ⟨b, _, rfl⟩ := List.mem_map.mp hd'
  exact alike_row a b
theorem sortable_rows {ks : List (List Int)} (h : ∀ k ∈ ks, k ≠ []) : PySem.W.Sortable (ks.map fun m => tupI m) := .inl fun d hd => by
  obtain ⟨a, ha, rfl⟩ := List.mem_map.mp hd
  cases e : a with
  | nil => exact absurd e (h a ha)
  | cons x r => exact ⟨.int x, r.map .int, rfl⟩
theorem deep_rows (ks : List (List Int)) : ∀ d ∈ ks.map (fun m => tupI m), d.depth ≤ 60 := fun d hd => by
  obtain ⟨a, _, rfl⟩ := List.mem_map.mp hd
  show PyData.depthAll (a.map .int) + 1 ≤ 60
  rw [deep_ints]
  decide
theorem noDict_ints : ∀ m : List Int, PyData.hasDictAll (m.map .int) = false
  | [] => rfl
  | x :: m => by
    show (PyData.hasDict (.int x) || PyData.hasDictAll (m.map .int)) = false
    rw [noDict_ints m]
    rfl
theorem noDict_rows : ∀ ks : List (List Int), PyData.hasDictAll (ks.map fun m => tupI m) = false
  | [] => rfl
  | k :: ks => by
    show (PyData.hasDictAll (k.map .int) || PyData.hasDictAll (ks.map fun m => tupI m)) = false
    rw [noDict_ints k, noDict_rows ks]
    rfl
theorem eqvAll_ints : ∀ a b : List Int, PyData.eqvAll (a.map .int) (b.map .int) = decide (a = b)
  | [], [] => rfl
  | [], _ :: _ => rfl
  | _ :: _, [] => rfl
  | x :: a, y :: b => by
    show ((x == y) && PyData.eqvAll (a.map .int) (b.map .int)) = _
    rw [eqvAll_ints a b]
    by_cases h : x = y
    · subst h
      by_cases h2 : a = b
      · subst h2; simp
      · simp [h2]
    · simp [h]
theorem eqv_row (a b : List Int) : PyData.eqv (tupI a) (tupI b) = decide (a = b) := eqvAll_ints a b
theorem keyTs_ints : ∀ m : List Int, keyTs (m.map .int) = some (m.map .num)
  | [] => rfl
  | x :: m => by
    show (keyT (.int x)).bind (fun k => (keyTs (m.map .int)).map fun ks => k :: ks) = _
    rw [keyTs_ints m]
    rfl
theorem depth_nums : ∀ m : List Int, PySem.NestedKey.depthAll (m.map .num) = 0
  | [] => rfl
  | x :: m => by
    show max (PySem.NestedKey.depth (.num x)) (PySem.NestedKey.depthAll (m.map .num)) = 0
    rw [depth_nums m]
    rfl
theorem key_ok (m : List Int) : KeyOk (tupI m) := by
  refine ⟨⟨.tup (m.map .num), ?_, ?_⟩, fun i h => nomatch h⟩
  · show (keyTs (m.map .int)).map PySem.NestedKey.tup = _
    rw [keyTs_ints]
    rfl
  · show PySem.NestedKey.depthAll (m.map .num) + 1 ≤ 8
    rw [depth_nums]
    decide
/-- the keys, when a row is put -/
theorem put_rows {acc : List (PyData × PyData)} {ks : List (List Int)} (h : acc.map (·.1) = ks.map fun m => tupI m) (m : List Int) (z : PyData) : (putD acc (tupI m) z).map (·.1) = (if m ∈ ks then ks else ks ++ [m]).map fun m => tupI m := by
  have e : hasD acc (tupI m) = decide (m ∈ ks) := by
    have e1 : hasD acc (tupI m) = (acc.map (·.1)).any fun d => PyData.eqv d (tupI m) := by
      unfold hasD
      rw [List.any_map]
      rfl
    rw [e1, h, List.any_map]
    by_cases hm : m ∈ ks
    · rw [decide_eq_true hm]
      exact List.any_eq_true.mpr ⟨m, hm, by show PyData.eqv (tupI m) (tupI m) = true; rw [eqv_row]; simp⟩
    · rw [decide_eq_false hm, Bool.eq_false_iff]
      intro z
      obtain ⟨x, hx, hz⟩ := List.any_eq_true.mp z
      have hz2 : PyData.eqv (tupI x) (tupI m) = true := hz
      rw [eqv_row] at hz2
      exact hm (by rw [← of_decide_eq_true hz2]; exact hx)
  unfold putD
  rw [e]
  by_cases hm : m ∈ ks
  · rw [decide_eq_true hm, if_pos rfl, if_pos hm, ← h, List.map_map]
    refine List.map_congr_left fun p _ => ?_
    show (if PyData.eqv p.1 (tupI m) = true then (p.1, z) else p).1 = p.1
    split <;> rfl
  · rw [decide_eq_false hm, if_neg (by simp), if_neg hm, List.map_append, List.map_append, h]
    rfl
end FwN
namespace FwN
theorem erase_map {α β : Type} (f : α → β) : ∀ (l : List α) (j : Nat), (l.map f).eraseIdx j = (l.eraseIdx j).map f
  | [], _ => rfl
  | _ :: _, 0 => rfl
  | a :: l, j + 1 => congrArg (f a :: ·) (erase_map f l j)
end FwN
namespace FwN
open PySem Fw L2 Evl
theorem at_nat {xs : List PyData} {j : Nat} (h : j < xs.length) : atI xs (j : Int) = some xs[j] := by
  unfold atI
  rw [ixN_nat (by omega) (by omega)]
  show xs[((j : Int)).toNat]? = _
  rw [Int.toNat_natCast, List.getElem?_eq_getElem h]
theorem cut_mem {xs : List PyData} {lo hi : Option Int} {z : PyData} (h : z ∈ cutD xs lo hi) : z ∈ xs := List.mem_of_mem_drop (List.mem_of_mem_take h)
theorem cut_one {xs : List PyData} {i : Int} (h : 0 ≤ i) : (cutD xs (some i) (some (i + 1))).length ≤ 1 := by
  unfold cutD
  have e1 : HT.sIx xs.length 0 (some i) = min i.toNat xs.length := if_neg (show ¬ i < 0 by omega)
  have e2 : HT.sIx xs.length xs.length (some (i + 1)) = min (i + 1).toNat xs.length := if_neg (show ¬ i + 1 < 0 by omega)
  rw [e1, e2, List.length_take]
  omega
end FwN
/-! dict comprehensions with words as keys -/
namespace FwK
open PySem PySem.Spec PyProof.Rows L2 Evl Fw FwD
scoped instance memDec (ks : List L2.Key) (k : L2.Key) : Decidable (k ∈ ks) := decidable_of_iff ((ks.any fun x => decide (x = k)) = true) (by simp [List.any_eq_true])
def keyD : L2.Key → PyData
  | .inl i => .int i
  | .inr x => .str x
def putKey (ks : List L2.Key) (k : L2.Key) : List L2.Key := if k ∈ ks then ks else ks ++ [k]
theorem putK_keys (kvs : List (L2.Key × V)) (k : L2.Key) (z : V) : (putK kvs k z).map (·.1) = putKey (kvs.map (·.1)) k := by
  unfold putK putKey
  by_cases h : k ∈ kvs.map (·.1)
  · have a : (kvs.any fun kv => decide (kv.1 = k)) = true := by
      obtain ⟨p, hp, e⟩ := List.mem_map.mp h
      exact List.any_eq_true.mpr ⟨p, hp, by simpa using e⟩
    rw [if_pos a, if_pos h, List.map_map]
    apply List.map_congr_left
    intro p hp
    by_cases q : p.1 = k
    · simp [q]
    · simp [q]
  · have a : ¬ (kvs.any fun kv => decide (kv.1 = k)) = true := fun t => by
      obtain ⟨p, hp, e⟩ := List.any_eq_true.mp t
      exact h (List.mem_map.mpr ⟨p, hp, by simpa using e⟩)
    rw [if_neg a, if_neg h]
    simp
theorem putKey_len (ks : List L2.Key) (k : L2.Key) : (putKey ks k).length ≤ ks.length + 1 := by
  unfold putKey
  split
  · omega
  · simp
/-- the unlike ones, in their sequence of first standing, are fewer than all exactly if two are alike -/
theorem putKeys_nodup (ks : List L2.Key) : (ks.foldl putKey []).length = ks.length ↔ ks.Nodup := by
  have key : ∀ (ks acc : List L2.Key), acc.Nodup → (ks.foldl putKey acc).length ≤ acc.length + ks.length ∧ ((ks.foldl putKey acc).length = acc.length + ks.length ↔ (acc ++ ks).Nodup) := by
    intro ks
    induction ks with
    | nil => intro acc h; simp [h]
    | cons k ks ih =>
      intro acc h
      rw [List.foldl_cons]
      by_cases m : k ∈ acc
      · have e : putKey acc k = acc := if_pos m
        rw [e]
        have := ih acc h
        refine ⟨by simp only [List.length_cons]; omega, ⟨fun t => absurd t (by simp only [List.length_cons]; omega), fun t => ?_⟩⟩
        have := (List.nodup_append.mp t).2.2 k m k (List.mem_cons_self ..)
        exact absurd rfl this
      · have e : putKey acc k = acc ++ [k] := if_neg m
        rw [e]
        have nd : (acc ++ [k]).Nodup := List.nodup_append.mpr ⟨h, by simp, fun a ha b hb => by rw [List.mem_singleton.mp hb]; exact fun z => m (z ▸ ha)⟩
        have := ih (acc ++ [k]) nd
        simp only [List.length_append, List.length_cons, List.length_nil, List.append_assoc, List.singleton_append, Nat.zero_add] at this ⊢
        refine ⟨by omega, ⟨fun t => this.2.mp (by omega), fun t => by have := this.2.mpr t; omega⟩⟩
  have := key ks [] .nil
  simpa using this.2
/-- te makes a new dict with words or numbers as keys that nobody knows -/
def WpK (K : PySem.W.Frag) (p : Option Addr) (te : TE) (env : List Slot) (Φ : List L2.Key → Prop) : Prop := ∀ (H0 : Hp) (σ : List (Option V)) (Hk H : Hp) (Q : VK), Ex Hk H → PotOk Hk H p → En K p H0 Hk H σ env →
  (∀ l kvs Hk' H', Go p Hk H Hk' H' → H l = none → Hk' l = none → H' l = some (.dK kvs) → Φ (kvs.map (·.1)) → Q (.ref l) H') → te σ H Q
section
variable {K K' : PySem.W.Frag} {p : Option Addr} {env : List Slot} {Φ : PyData → Prop} {te tk tv : TE} {tt : TT}
theorem k_dc {wi : TI} {g : TG} {vs js : List Nat} {Ψ : List L2.Key → Prop} (hs : ∀ j ∈ js, j ∈ vs) (h : WpI K p wi env fun xs => xs.length ≤ 100000 ∧ ∃ Wd : Nat → List L2.Key → Prop, Wd 0 [] ∧
    (∀ (i : Nat) (x : PyData) (acc : List L2.Key), xs[i]? = some x → Wd i acc → acc.length ≤ i → WpG K p js g x (wipeE env vs) fun env2 => WpT K p tt env2 fun b =>
      if b = true then WpE K p tk env2 (fun y => ∃ k, y = keyD k ∧ WpE K p tv env2 fun _ => Wd (i + 1) (putKey acc k)) else Wd (i + 1) acc) ∧
    ∀ acc, acc.length ≤ xs.length → Wd xs.length acc → Ψ acc) : WpK K p (tDc wi g tt tk tv vs) env Ψ := fun H0 σ Hk H Q e po en k => by
  refine h H0 σ Hk H _ e po en fun J xs Hk1 H1 g1 it ⟨hz, Wd, i0, step, last⟩ D hD => ?_
  have pD : p ≠ some D := pot_ne g1.po hD
  have g0 : Go p Hk1 H1 Hk1 (upd H1 D (.dK [])) := (Go.refl g1.kr g1.po).mut hD pD (fresh_back g1.kr hD)
  refine ⟨fun i m H' => m = xs.length - i ∧ i ≤ xs.length ∧ ∃ Hk' kvs, Go p Hk1 H1 Hk' H' ∧ Hk' D = none ∧ H' D = some (.dK kvs) ∧ kvs.length ≤ i ∧ Wd i (kvs.map (·.1)), ⟨xs.length, by omega, by omega, Hk1, [], g0, fresh_back g1.kr hD, upd_same, Nat.le_refl _, i0⟩, ?_⟩
  rintro i m H' ⟨rfl, hi, Hk', kvs, go, kD, dd, hlen, inv⟩
  obtain ⟨o1, o2, o3⟩ := it Hk' H' go.kk go.kr go.po
  by_cases hlt : i < xs.length
  · refine .inr ⟨o1 i hlt, fun H'' => i + 1 ≤ xs.length ∧ ∃ Hk' kvs, Go p Hk1 H1 Hk' H'' ∧ Hk' D = none ∧ H'' D = some (.dK kvs) ∧ kvs.length ≤ i + 1 ∧ Wd (i + 1) (kvs.map (·.1)), fun H'' q => ⟨xs.length - (i + 1), by omega, rfl, q⟩, fun x H'' y => ?_⟩
    obtain ⟨d, Hk2, hd, rd, g2⟩ := o3 i x H'' hlt y
    have en2 : En K p H0 Hk2 H'' (L2.wipe σ vs) (wipeE env vs) := (((en.go g1).go go).go g2).wipe vs
    have live : ∀ {H : Hp}, H D = some (.dK kvs) → H D ≠ none := fun d => by rw [d]; exact nofun
    have k2 : Hk2 D = none := g2.nk D (live dd) kD
    have d2 := g2.rr D _ pD dd
    refine step i d _ hd inv (by rw [List.length_map]; exact hlen) H0 _ Hk2 H'' x _ g2.kr g2.po en2 rd fun σ2 env2 en3 same f3 => ⟨wipe_eq (by rw [same.1, wipe_length]) same.2 hs, ?_⟩
    refine f3 H0 σ2 Hk2 H'' _ g2.kr g2.po en3 fun b Hk4 H4 g4 f4 => ?_
    have k4 : Hk4 D = none := g4.nk D (live d2) k2
    have d4 := g4.rr D _ pD d2
    cases b with
    | false => exact ⟨by omega, Hk4, kvs, (go.trans g2).trans g4, k4, d4, by omega, f4⟩
    | true =>
      refine (show WpE K p tk env2 _ from f4) H0 σ2 Hk4 H4 _ g4.kr g4.po (en3.go g4) fun y dy Hk5 H5 g5 r5 ⟨ky, hy, f5⟩ => ?_
      have k5 : Hk5 D = none := g5.nk D (live d4) k4
      have d5 := g5.rr D _ pD d4
      subst hy
      have ey : y = kV ky := by
        cases ky with
        | inl i => cases r5; rfl
        | inr x => cases r5; rfl
      refine f5 H0 σ2 Hk5 H5 _ g5.kr g5.po ((en3.go g4).go g5) fun z dz Hk6 H6 g6 r6 f6 => ?_
      have k6 : Hk6 D = none := g6.nk D (live d5) k5
      have d6 := g6.rr D _ pD d5
      refine ⟨kvs, ky, ey, d6, sz_lt (by omega), ?_⟩
      have gg := (((go.trans g2).trans g4).trans g5).trans g6
      have e2 : (putK kvs ky z).length = (putKey (kvs.map (·.1)) ky).length := by rw [← putK_keys kvs ky z, List.length_map]
      exact ⟨by omega, Hk6, _, gg.mut hD pD k6, k6, upd_same, by have := putKey_len (kvs.map (·.1)) ky; rw [List.length_map] at this; omega, by rw [putK_keys]; exact f6⟩
  · have hi2 : i = xs.length := by omega
    subst hi2
    have h0 : H D = none := by
      cases z : H D with
      | none => rfl
      | some o => exact absurd hD (g1.live (by rw [z]; exact nofun))
    exact .inl ⟨o2, k D kvs Hk' _ (g1.trans go) h0 kD dd (last _ (by rw [List.length_map]; exact hlen) inv)⟩
end
/-- either reading -/
def tOr (t1 t2 : TE) : TE := fun σ H Q => t1 σ H Q ∨ t2 σ H Q
def rOr (r1 r2 : List V → Hp → VK → Prop) : List V → Hp → VK → Prop := fun xs H Q => r1 xs H Q ∨ r2 xs H Q
theorem pe_or {X : Cx} {e : Expr} {t1 t2 : TE} (h1 : PE X e t1) (h2 : PE X e t2) : PE X e (tOr t1 t2) := ⟨fun pins s σ H Q I h => h.elim (fun q => h1.run pins s σ H Q I q) (fun q => h2.run pins s σ H Q I q)⟩
theorem cr_or {X : Cx} {f : Value} {r1 r2 : List V → Hp → VK → Prop} (h1 : CallR X f r1) (h2 : CallR X f r2) : CallR X f (rOr r1 r2) := fun pins s σ H xs us Q I r h => h.elim (fun q => h1 pins s σ H xs us Q I r q) (fun q => h2 pins s σ H xs us Q I r q)
/-- len of a dict of words, of a dict of rows -/
def rLenK : List V → Hp → VK → Prop := fun xs H Q => ∃ (a : Addr) (kvs : List (L2.Key × V)), xs = [V.ref a] ∧ H a = some (.dK kvs) ∧ Q (.int kvs.length) H
def rLenX (K : PySem.W.Frag) : List V → Hp → VK → Prop := fun xs H Q => ∃ (p : Addr) (kvs : List (PyData × PyData)) (Rk : PyData → Addr → Prop) (Rv : PyData → Value → Prop), xs = [.ref p] ∧ DicAt Rk Rv H p kvs ∧ (∀ d a, Rk d a → Dp K H (.ref a) d) ∧ Q (.int kvs.length) H
section
variable {K : PySem.W.Frag} {p : Option Addr} {env : List Slot} {Φ : PyData → Prop} {t1 t2 : TE} {r1 r2 : List V → Hp → VK → Prop}
theorem e_lenK (h : WpK K p t1 env fun ks => Φ (.int ks.length)) : WpE K p (tCB (rOr rLenK r2) (tCons (tOr t1 t2) tNil)) env Φ := fun H0 σ Hk H Q e po en k =>
  .inl (h H0 σ Hk H _ e po en fun l kvs Hk' H' g h0 hk D f => .inl ⟨l, kvs, rfl, D, k _ _ Hk' H' g (.int _) (by have f' : Φ (.int ((kvs.map (·.1)).length : Nat)) := f; rw [List.length_map] at f'; exact f')⟩)
theorem e_lenX2 (h : WpD K p t2 env fun kvs => Φ (.int kvs.length)) : WpE K p (tCB (rOr r1 (rLenX K)) (tCons (tOr t1 t2) tNil)) env Φ := fun H0 σ Hk H Q e po en k =>
  .inr (h H0 σ Hk H _ e po en fun l kvs Hk' H' g h0 hk D f => .inr ⟨l, kvs, _, _, rfl, D, fun d a r => dp_mono0 g.kr d r, k _ _ Hk' H' g (.int _) f⟩)
end
end FwK
/-! dicts with rows as keys that change -/
namespace FwD
open PySem PySem.Spec PyProof.Rows L2
section
variable {X : Cx}
/-- key in d, key not in d -/
def rInX (K : PySem.W.Frag) (neg : Bool) : R2 := fun x y H Q => ∃ (l : Addr) (kvs : List (PyData × PyData)) (Rk : PyData → Addr → Prop) (Rv : PyData → Value → Prop) (d : PyData) (k : NestedKey), y = .ref l ∧ DicAt Rk Rv H l kvs ∧ (∀ d a, Rk d a → Dp K H (.ref a) d) ∧ Dp K H x d ∧ keyT d = some k ∧ (∀ i, d ≠ .int i) ∧ k.depth ≤ 8 ∧ Q (.bl (if neg then !hasD kvs d else hasD kvs d)) H
theorem key_ref {K : PySem.W.Frag} {H : Hp} {x : V} {d : PyData} {k : NestedKey} (hx : Dp K H x d) (hk : keyT d = some k) (hn : ∀ i, d ≠ .int i) : ∃ a, x = .ref a := by
  cases d with
  | int i => exact absurd rfl (hn i)
  | tuple ds =>
    cases hx
    exact ⟨_, rfl⟩
  | _ => cases hk
theorem op_inX (hu : X.A.units + 16 < cLine) : OpR X (compareOp .In) (rInX X.K false) := by
  intro pins s σ H x y v u Q I rx ry h
  obtain ⟨l, kvs, Rk, Rv, d, k, rfl, D, rk, hx, hk, hn, dp, q⟩ := h
  obtain ⟨a, rfl⟩ := key_ref hx hk hn
  cases rx
  cases ry
  obtain ⟨o, xs, e1, e2, e8, dd, g⟩ := dic_of I rk D
  obtain ⟨as, rd⟩ := Dp.reads I _ _ (.ref a) hx rfl
  refine wpAny_in_heap (knd := nestedKind X.prog X.w) (show X.A.units + 1 + 8 < cLine by omega) ⟨key_is _ _ _ _ hk rd, dp⟩ e2 dd ⟨.bl _, H, I.tok _, rfl, ?_⟩
  rw [← ents_has e8 hk]
  exact q
theorem op_ninX (hu : X.A.units + 16 < cLine) : OpR X (compareOp .NotIn) (rInX X.K true) := by
  intro pins s σ H x y v u Q I rx ry h
  obtain ⟨l, kvs, Rk, Rv, d, k, rfl, D, rk, hx, hk, hn, dp, q⟩ := h
  obtain ⟨a, rfl⟩ := key_ref hx hk hn
  cases rx
  cases ry
  obtain ⟨o, xs, e1, e2, e8, dd, g⟩ := dic_of I rk D
  obtain ⟨as, rd⟩ := Dp.reads I _ _ (.ref a) hx rfl
  refine wpAny_notIn_heap (knd := nestedKind X.prog X.w) (show X.A.units + 1 + 8 < cLine by omega) ⟨key_is _ _ _ _ hk rd, dp⟩ e2 dd ⟨.bl _, H, I.tok _, rfl, ?_⟩
  rw [← ents_has e8 hk]
  exact q
/-- d[key] = value -/
def sPutX (K : PySem.W.Frag) : TSet := fun o i v H Q => ∃ (l : Addr) (kvs : List (PyData × PyData)) (Rk : PyData → Addr → Prop) (Rv : PyData → Value → Prop) (d z : PyData) (k : NestedKey), o = .ref l ∧ DicAt Rk Rv H l kvs ∧ (∀ d a, Rk d a → Dp K H (.ref a) d) ∧ Dp K H i d ∧ keyT d = some k ∧ (∀ i, d ≠ .int i) ∧ k.depth ≤ 8 ∧
  (∀ a, i = .ref a → Rk d a) ∧ (∀ r, RelV v r → Rv z r) ∧ kvs.length < sizeLine ∧ ∀ u, DicAt Rk Rv (upd H l u) l (putD kvs d z) → Q (upd H l u)
theorem set_putX (hu : X.A.units + 16 < cLine) : PSet X (sPutX X.K) := by
  intro pins s σ H o i v ov iv u Q I ro ri rv h
  obtain ⟨l, kvs, Rk, Rv, d, z, k, rfl, D, rk, hx, hk, hn, dp, ky, kz, hz, q⟩ := h
  obtain ⟨a, rfl⟩ := key_ref hx hk hn
  cases ro
  cases ri
  obtain ⟨o, xs, e1, e2, e8, dd, g⟩ := dic_of I rk D
  obtain ⟨as, rd⟩ := Dp.reads I _ _ (.ref a) hx rfl
  refine wpAny_setItem_heap (hsz := by rw [← paired_len e8]; omega) (knd := nestedKind X.prog X.w) (show X.A.units + 1 + 8 < cLine by omega) ⟨key_is _ _ _ _ hk rd, dp⟩ dd fun h' dd' sb => ?_
  obtain ⟨w, I', D'⟩ := dic_new (t' := s.toks + (nestedKind X.prog X.w).draws k) I e1 e2 sb dd' (by have := putD_len kvs d z; omega) (ents_put hk dp (ky a rfl) (kz u rv) e8)
  exact ⟨_, I', q w D'⟩
def tNewX : TE := fun _ H Q => ∀ D u0, H D = none → (∀ Rk Rv, DicAt Rk Rv (upd H D u0) D []) → Q (.ref D) (upd H D u0)
theorem new_inv {pins : List (Addr × Obj)} {s : Shared} {σ : L2.St} {H : Hp} (I : Inv X pins σ H s) : H s.heap.objs.size = none ∧ (s.heap.objs.size == sysModules) = false ∧
    Inv X pins σ (upd H s.heap.objs.size (exact s.heap.objs.size { cls := .type "dict", data := .dict #[] })) { s with heap := s.heap.push { cls := .type "dict", data := .dict #[] } } := by
  refine ⟨I.hok.fresh (Nat.le_refl _), beq_eq_false_iff_ne.mpr (Nat.ne_of_gt I.big), ?_⟩
  have at0 : (s.heap.push { cls := .type "dict", data := .dict #[] }).get? s.heap.objs.size = some { cls := .type "dict", data := .dict #[] } := Heap.get?_push_size _ rfl
  exact I.laid (t' := s.toks) (fun b o e => Heap.get?_push_of_some _ e) (Nat.le_refl _) ⟨at0, ⟨_, at0⟩, fun h1 h2 a k => k _ a⟩
/-- {} -/
theorem pe_newX {pos : Pos} : PE X (.Dict [] [] pos) tNewX := ⟨fun pins s σ H Q I h => by
  obtain ⟨f, nm, I1⟩ := new_inv I
  exact wpAny_Dict_empty ⟨.ref s.heap.objs.size, _, I1, rfl, h _ _ f fun _ _ => dic_empty nm⟩⟩
/-- {key: value} -/
def Put1X (K : PySem.W.Frag) (D : Addr) (y zv : V) (H : Hp) (Nx : Hp → Prop) : Prop := ∃ (Rk : PyData → Addr → Prop) (Rv : PyData → Value → Prop) (d z : PyData) (k : NestedKey), DicAt Rk Rv H D [] ∧ (∀ d a, Rk d a → Dp K H (.ref a) d) ∧ Dp K H y d ∧ keyT d = some k ∧ (∀ i, d ≠ .int i) ∧ k.depth ≤ 8 ∧
  (∀ a, y = .ref a → Rk d a) ∧ (∀ r, RelV zv r → Rv z r) ∧ ∀ v, DicAt Rk Rv (upd H D v) D (putD [] d z) → Nx (upd H D v)
def tOneX (K : PySem.W.Frag) (tk tv : TE) : TE := fun σ H Q => ∀ D u0, H D = none → (∀ Rk Rv, DicAt Rk Rv (upd H D u0) D []) → tk σ (upd H D u0) fun y H1 => tv σ H1 fun z H2 => Put1X K D y z H2 fun H3 => Q (.ref D) H3
theorem vv_one {y z : V} {vs : List (Value × Value)} (h : VV [(y, z)] vs) : ∃ u r, vs = [(u, r)] ∧ RelV y u ∧ RelV z r := match vs, h with
  | [(u, r)], .cons hh .nil => ⟨u, r, rfl, hh.1, hh.2⟩
theorem pe_oneX {pos : Pos} {k v : Expr} {tk tv : TE} (hu : X.A.units + 16 < cLine) (hk : PE X k tk) (hv : PE X v tv) : PE X (.Dict [some k] [v] pos) (tOneX X.K tk tv) := ⟨fun pins s σ H Q I h => by
  obtain ⟨f, nm, I1⟩ := new_inv I
  have run := (pps_cons (pos := pos) hk hv pps_nil).run pins _ σ _ (fun ps H2 => match ps with | [(y, z)] => Put1X X.K s.heap.objs.size y z H2 fun H3 => Q (.ref s.heap.objs.size) H3 | _ => False) I1 ?_
  · rw [arm_eval_Dict, zip_pairTrees [some k] [v] X.env pos rfl rfl, dictDisplay_pairs _ (by intro z; cases z) (by show 1 < 17; omega)]
    refine wpAny_bind (wpAny_standAt (wpAny_bind (wpAny_subDictH (knd := nestedKind X.prog X.w) (Q := fun d s' => wpAny (model X.prog X.w) X.A (pure (Value.ref d)) (EP X pins σ Q) X.xe s') (show X.A.units + 8 < cLine by omega) (show 1 ≤ 15 by omega) (thn run fun vs s1 ⟨ps, H2, I2, rel, put⟩ => ?_))))
    obtain ⟨y, z, rfl⟩ : ∃ y z, ps = [(y, z)] := by
      split at put
      · exact ⟨_, _, rfl⟩
      · exact put.elim
    obtain ⟨u1, u2, rfl, r1, r2⟩ := vv_one rel
    obtain ⟨Rk, Rv, d, dz, kk, D, rk, hy, hkk, hn, dp, ky, kz, q⟩ := put
    obtain ⟨a, rfl⟩ := key_ref hy hkk hn
    cases r1
    obtain ⟨o, xs, e1, e2, e8, dd, g⟩ := dic_of I2 rk D
    obtain ⟨as, rd⟩ := Dp.reads I2 _ _ (.ref a) hy rfl
    have e9 : xs = [] := by
      cases e8
      rfl
    subst e9
    refine ⟨[(kk, a, u2)], ⟨rfl, rfl, ⟨key_is _ _ _ _ hkk rd, dp⟩, True.intro⟩, dd, fun h' tk' dd' sb => ?_⟩
    obtain ⟨w, I', D'⟩ := dic_new (t' := tk') I2 e1 e2 sb dd' (by have := putD_len ([] : List (PyData × PyData)) d dz; have := sizeLine_eq; simp only [List.length_nil] at *; omega) (ents_put hkk dp (ky a rfl) (kz u2 r2) e8)
    exact wpAny_pure ⟨.ref _, _, I', rfl, q w D'⟩
  · exact h _ _ f (fun _ _ => dic_empty nm)⟩
end
end FwD
namespace Fw
open PySem PySem.Spec PyProof.Rows L2 Evl FwD
/-- a dict of the def's own -/
def dicM (K : PySem.W.Frag) (kvs : List (PyData × PyData)) : Mov := ⟨fun Hk l o => DicK K Hk (upd (fun _ => none) l o) l kvs, fun Hk Hk' l o x D => D.mono (fun d _ r => dp_mono0 x d r) (fun d _ ⟨v, rv, h⟩ => ⟨v, rv, dp_mono x d h⟩) fun _ h => h,
  fun Hk l o D vs e => by
    obtain ⟨u, _, _, _, h, _⟩ := D
    rw [upd_same, e] at h
    cases (Option.some.inj h)⟩
section
variable {K K' : PySem.W.Frag} {p : Option Addr} {env : List Slot} {Φ : PyData → Prop} {te tk tv : TE} {O : Outs}
theorem dicM_at {H0 Hk H : Hp} {σ : List (Option V)} {i : Nat} {kvs : List (PyData × PyData)} (en : En K p H0 Hk H σ env) (hi : env[i]? = some (.mov (dicM K kvs))) : ∃ l, σ[i]? = some (some (.ref l)) ∧ H0 l = none ∧ Hk l = none ∧ p ≠ some l ∧ DicK K Hk H l kvs := by
  obtain ⟨ov, h1, l, o, rfl, h0, hk, hp, hl, D⟩ := en.slot i _ hi
  refine ⟨l, h1, h0, hk, hp, D.mono (fun _ _ r => r) (fun _ _ r => r) fun u hu => ?_⟩
  rw [upd_same] at hu
  rw [← Option.some.inj hu]
  exact hl
theorem dicM_of {Hk H : Hp} {l : Addr} {o : HO} {kvs : List (PyData × PyData)} (h : H l = some o) (D : DicK K Hk H l kvs) : (dicM K kvs).S Hk l o := D.mono (fun _ _ r => r) (fun _ _ r => r) fun u hu => by
  rw [h] at hu
  rw [← Option.some.inj hu]
  exact upd_same
/-- name = a new dict -/
theorem s_movDic {i : Nat} (h : WpD K p te env fun kvs => O.nx (env.set i (.mov (dicM K kvs)))) : WpS K p (tAsg te (gName i)) env O := fun H0 Hk0 σ Hk H D g en k =>
  h H0 σ Hk H _ g.kr g.po en fun l kvs Hk' H' g' h0 hk Dk f => by
    obtain ⟨o, ho⟩ := Dk.there
    exact k.nx _ _ Hk' H' (g.trans g') (En.set_mov en (en.go g') (fresh0 g h0) h0 ho hk (pot_ne g.po h0) (dicM_of ho Dk)) f
theorem e_lenM {i : Nat} {kvs : List (PyData × PyData)} (hi : env[i]? = some (.mov (dicM K kvs))) (h : Φ (.int kvs.length)) {r : List V → Hp → VK → Prop} (hr : r = fun xs H Q => ∃ (p : Addr) (kvs : List (PyData × PyData)) (Rk : PyData → Addr → Prop) (Rv : PyData → Value → Prop), xs = [.ref p] ∧ DicAt Rk Rv H p kvs ∧ (∀ d a, Rk d a → Dp K H (.ref a) d) ∧ Q (.int kvs.length) H := by with_unfolding_all rfl) :
    WpE K p (tCB r (tCons (tVar i) tNil)) env Φ := fun H0 σ Hk H Q e po en k => by
  subst hr
  obtain ⟨l, h1, _, _, _, D⟩ := dicM_at en hi
  exact ⟨.ref l, h1, l, kvs, _, _, rfl, D, fun d a r => dp_mono0 e d r, k _ _ Hk H (Go.refl e po) (.int _) h⟩
/-- a new dict without anything in it -/
theorem d_new {Ψ : List (PyData × PyData) → Prop} (h : Ψ []) : WpD K p tNewX env Ψ := fun H0 σ Hk H Q e po en k D u0 hD emp =>
  k D [] Hk _ ((Go.refl e po).mut hD (pot_ne po hD) (fresh_back e hD)) hD (fresh_back e hD) (emp _ _) h
/-- a new dict with one key -/
theorem d_one {Ψ : List (PyData × PyData) → Prop} (h : WpE K p tk env fun y => KeyOk y ∧ WpE K p tv env fun z => Ψ (putD [] y z)) : WpD K p (tOneX K tk tv) env Ψ := fun H0 σ Hk H Q e po en k D u0 hD emp => by
  have g0 : Go p Hk H Hk (upd H D u0) := (Go.refl e po).mut hD (pot_ne po hD) (fresh_back e hD)
  have kD : Hk D = none := fresh_back e hD
  have live : ∀ {H : Hp} {kvs : List (PyData × PyData)} {Rk : PyData → Addr → Prop} {Rv : PyData → Value → Prop}, DicAt Rk Rv H D kvs → H D ≠ none := fun d => by
    obtain ⟨o, e⟩ := d.there
    rw [e]
    exact nofun
  refine h H0 σ Hk _ _ g0.kr g0.po (en.go g0) fun y dy Hk1 H1 g1 ry ⟨⟨⟨ks, hks, hdp⟩, hni⟩, h1⟩ => ?_
  refine h1 H0 σ Hk1 H1 _ g1.kr g1.po ((en.go g0).go g1) fun z dz Hk2 H2 g2 rz f => ?_
  have d0 : DicK K Hk (upd H D u0) D [] := emp _ _
  have k1 : Hk1 D = none := g1.nk D (live d0) kD
  have d1 := d0.go g1 (pot_ne po hD)
  have k2 : Hk2 D = none := g2.nk D (live d1) k1
  have d2 := d1.go g2 (pot_ne po hD)
  have ry2 := dp_mono g2.kk dy ry
  refine ⟨RkOf K Hk2, RvOf K Hk2, dy, dz, ks, d2, fun d a r => dp_mono0 g2.kr d r, dx_dp dy (key_noDict dy ks hks) (dp_mono g2.kr dy ry2), hks, hni, hdp, fun a e => by show Dp K Hk2 (.ref a) dy; rw [← e]; exact dx_dp dy (key_noDict dy ks hks) ry2, fun r rr => ⟨z, rr, rz⟩, fun u D3 => ?_⟩
  exact k D _ Hk2 _ (((g0.trans g1).trans g2).mut hD (pot_ne po hD) k2) hD k2 D3 f
/-- key in name -/
theorem e_inM {i : Nat} {neg : Bool} {kvs : List (PyData × PyData)} (hi : env[i]? = some (.mov (dicM K kvs))) (h : WpE K p tk env fun y => KeyOk y ∧ Φ (.bool (if neg then !hasD kvs y else hasD kvs y))) : WpE K p (tOp (rInX K neg) tk (tVar i)) env Φ := fun H0 σ Hk H Q e po en k =>
  h H0 σ Hk H _ e po en fun y dy Hk1 H1 g1 ry ⟨⟨⟨ks, hks, hdp⟩, hni⟩, f⟩ => by
    obtain ⟨l, h1, _, _, _, D⟩ := dicM_at (en.go g1) hi
    exact ⟨.ref l, h1, l, kvs, _, _, dy, ks, rfl, D, fun d a r => dp_mono0 g1.kr d r, dx_dp dy (key_noDict dy ks hks) (dp_mono g1.kr dy ry), hks, hni, hdp, k _ _ Hk1 H1 g1 (.bl _) f⟩
/-- name[key] = value -/
theorem s_dput {i : Nat} {kvs : List (PyData × PyData)} (hi : env[i]? = some (.mov (dicM K kvs))) (one : OneMov env i) (h : WpE K p tv env fun z => WpE K p tk env fun y => KeyOk y ∧ kvs.length < 100000 ∧ O.nx (env.set i (.mov (dicM K (putD kvs y z))))) :
    WpS K p (tAsg tv (gSub (tVar i) tk (sPutX K))) env O := fun H0 Hk0 σ Hk H D g en k =>
  h H0 σ Hk H _ g.kr g.po en fun z dz Hk1 H1 g1 rz h1 => by
    obtain ⟨l, hs, l0, lk, lp, Dk⟩ := dicM_at (en.go g1) hi
    refine ⟨.ref l, hs, h1 H0 σ Hk1 H1 _ g1.kr g1.po (en.go g1) fun y dy Hk2 H2 g2 ry ⟨⟨⟨ks, hks, hdp⟩, hni⟩, hz, f⟩ => ?_⟩
    obtain ⟨l', hs', _, lk2, _, D2⟩ := dicM_at ((en.go g1).go g2) hi
    have el : l' = l := by
      rw [hs] at hs'
      injection (Option.some.inj (Option.some.inj hs')) with q
      exact q.symm
    subst el
    have dyr := dx_dp dy (key_noDict dy ks hks) (dp_mono g2.kr dy ry)
    have gg := (g.trans g1).trans g2
    refine ⟨l', kvs, RkOf K Hk2, RvOf K Hk2, dy, dz, ks, rfl, D2, fun d a r => dp_mono0 g2.kr d r, dyr, hks, hni, hdp, fun a e => by show Dp K Hk2 (.ref a) dy; rw [← e]; exact dx_dp dy (key_noDict dy ks hks) ry, fun r rr => ⟨z, rr, dp_mono g2.kk dz rz⟩, sz_lt (by omega), fun u D3 => ?_⟩
    exact k.nx _ _ Hk2 _ (gg.mut l0 lp lk2) (En.put_mov ((en.go g1).go g2) one hi hs' (dicM_of upd_same D3)) f
end
end Fw
/-! reading dicts with rows as keys -/
namespace FwD
open PySem PySem.Spec PyProof.Rows L2
def atD (kvs : List (PyData × PyData)) (d : PyData) : Option PyData := (kvs.find? fun p => PyData.eqv p.1 d).map (·.2)
section
variable {Rk : PyData → Addr → Prop} {Rv : PyData → Value → Prop}
theorem ents_at : ∀ {kvs : List (PyData × PyData)} {xs : List (NestedKey × Addr × Value)}, Paired (Ent Rk Rv) kvs xs → ∀ {d : PyData} {k : NestedKey}, keyT d = some k → (∀ z, atD kvs d = some z → ∃ q, atKey xs k = some q ∧ Rv z q.2) ∧ (atD kvs d = none → atKey xs k = none)
  | _, _, .nil, _, _, _ => ⟨fun _ h => (nomatch h), fun _ => rfl⟩
  | _, _, .cons (a := p) (b := q) (l₁ := ps) (l₂ := qs) h t, d, k, hk => by
    have ih := ents_at t hk
    obtain ⟨p1, p2⟩ := p
    obtain ⟨q1, q2, q3⟩ := q
    have e := key_eqv _ _ _ _ h.1 hk
    simp only at e
    by_cases z : q1 = k
    · have e1 : PyData.eqv p1 d = true := by rw [e, decide_eq_true z]
      have e2 : atD ((p1, p2) :: ps) d = some p2 := by simp [atD, e1]
      have e3 : atKey ((q1, q2, q3) :: qs) k = some (q2, q3) := by simp [atKey, z]
      rw [e2, e3]
      exact ⟨fun z h2 => ⟨_, rfl, (Option.some.inj h2) ▸ h.2.2.2⟩, fun h2 => nomatch h2⟩
    · have e1 : PyData.eqv p1 d = false := by rw [e, decide_eq_false z]
      have e2 : atD ((p1, p2) :: ps) d = atD ps d := by simp [atD, e1]
      have e3 : atKey ((q1, q2, q3) :: qs) k = atKey qs k := by simp [atKey, z]
      rw [e2, e3]
      exact ih
end
section
variable {X : Cx}
/-- d[key], the key in it -/
def rGetX (K : PySem.W.Frag) : R2 := fun x y H Q => ∃ (l : Addr) (kvs : List (PyData × PyData)) (Rk : PyData → Addr → Prop) (Rv : PyData → Value → Prop) (d z : PyData) (k : NestedKey), x = .ref l ∧ DicAt Rk Rv H l kvs ∧ (∀ d a, Rk d a → Dp K H (.ref a) d) ∧ Dp K H y d ∧ keyT d = some k ∧ (∀ i, d ≠ .int i) ∧ k.depth ≤ 8 ∧ atD kvs d = some z ∧ ∀ r, Rv z r → ∃ v, RelV v r ∧ Q v H
theorem ix_getX (hu : X.A.units + 16 < cLine) : IxR X (rGetX X.K) := by
  intro value slice pins s σ H x y v u Q I rx ry h hs
  obtain ⟨l, kvs, Rk, Rv, d, z, k, rfl, D, rk, hy, hk, hn, dp, hz, q⟩ := h
  obtain ⟨a, rfl⟩ := key_ref hy hk hn
  cases rx
  cases ry
  obtain ⟨o, xs, e1, e2, e8, dd, g⟩ := dic_of I rk D
  obtain ⟨as, rd⟩ := Dp.reads I _ _ (.ref a) hy rfl
  obtain ⟨p, hp, rv⟩ := (ents_at e8 hk).1 z hz
  obtain ⟨v, rr, qq⟩ := q _ rv
  exact tail_any dd.typeIs F.slot_dict_getitem.lookup (wpAny_getItem_heap (knd := nestedKind X.prog X.w) (show X.A.units + 1 + 8 < cLine by omega) ⟨key_is _ _ _ _ hk rd, dp⟩ dd hp ⟨v, H, I.tok _, rr, qq⟩) hs
end
end FwD
namespace Fw
open PySem PySem.Spec PyProof.Rows L2 Evl FwD
section
variable {K : PySem.W.Frag} {p : Option Addr} {env : List Slot} {Φ : PyData → Prop} {tk : TE}
/-- name[key] -/
theorem e_getM {i : Nat} {kvs : List (PyData × PyData)} (hi : env[i]? = some (.mov (dicM K kvs))) (h : WpE K p tk env fun y => KeyOk y ∧ ∃ z, atD kvs y = some z ∧ Φ z) : WpE K p (tOp (rGetX K) (tVar i) tk) env Φ := fun H0 σ Hk H Q e po en k => by
  obtain ⟨l, h1, _, _, lp, D⟩ := dicM_at en hi
  refine ⟨.ref l, h1, h H0 σ Hk H _ e po en fun y dy Hk1 H1 g1 ry ⟨⟨⟨ks, hks, hdp⟩, hni⟩, z, hz, f⟩ => ?_⟩
  have D1 := D.go g1 lp
  exact ⟨l, kvs, _, _, dy, z, ks, rfl, D1, fun d a r => dp_mono0 g1.kr d r, dx_dp dy (key_noDict dy ks hks) (dp_mono g1.kr dy ry), hks, hni, hdp, hz, fun r ⟨v, rv, dv⟩ => ⟨v, rv, k _ _ Hk1 H1 g1 dv f⟩⟩
/-- what is put in is there, what was there stays -/
theorem atD_put {kvs : List (PyData × PyData)} {d z : PyData} (h : PyData.eqv d d = true) : atD (putD kvs d z) d = some z := by
  unfold putD
  split
  · rename_i t
    unfold hasD at t
    induction kvs with
    | nil => cases t
    | cons p ps ih =>
      rw [List.map_cons]
      by_cases e : PyData.eqv p.1 d = true
      · simp [atD, e]
      · have e' : PyData.eqv p.1 d = false := by simpa using e
        rw [List.any_cons, e', Bool.false_or] at t
        have := ih t
        simp only [atD, e', Bool.false_eq_true, if_false, List.find?_cons] at this ⊢
        exact this
  · rename_i t
    have t' : hasD kvs d = false := by simpa using t
    unfold hasD at t'
    have : kvs.find? (fun p => PyData.eqv p.1 d) = none := List.find?_eq_none.mpr fun p hp e => by
      have := List.any_eq_false.mp t' p hp
      exact this e
    simp [atD, List.find?_append, this, h]
end
end Fw
namespace FwD
open PySem PySem.Spec PyProof.Rows L2
section
variable {X : Cx}
/-- d.get(key), d.get(key, other): the value or what stands for it -/
def rGetM (K : PySem.W.Frag) : V → List V → Hp → VK → Prop := fun x xs H Q => ∃ (l : Addr) (kvs : List (PyData × PyData)) (Rk : PyData → Addr → Prop) (Rv : PyData → Value → Prop) (y : V) (d : PyData) (k : NestedKey), x = .ref l ∧ DicAt Rk Rv H l kvs ∧ (∀ d a, Rk d a → Dp K H (.ref a) d) ∧ Dp K H y d ∧ keyT d = some k ∧ (∀ i, d ≠ .int i) ∧ k.depth ≤ 8 ∧
  ∃ w : V, ((xs = [y] ∧ w = .non) ∨ xs = [y, w]) ∧ (atD kvs d = none → Q w H) ∧ ∀ z, atD kvs d = some z → ∀ r, Rv z r → ∃ v, RelV v r ∧ Q v H
theorem mt_getM (hu : X.A.units + 16 < cLine) : MtR X "dict.get" (rGetM X.K) := by
  intro pins s σ H x xs v us Q I rx rxs h
  obtain ⟨l, kvs, Rk, Rv, y, d, k, rfl, D, rk, hy, hk, hn, dp, w, hx, q0, q1⟩ := h
  obtain ⟨a, rfl⟩ := key_ref hy hk hn
  cases rx
  obtain ⟨o, es, e1, e2, e8, dd, g⟩ := dic_of I rk D
  obtain ⟨as, rd⟩ := Dp.reads I _ _ (.ref a) hy rfl
  have E := ents_at e8 hk
  have fin : ∀ (u : Value), RelV w u → EP X pins σ Q (((atKey es k).map (·.2)).getD u) { s with toks := s.toks + (nestedKind X.prog X.w).draws k } := fun u ru => by
    cases hz : atD kvs d with
    | none =>
      rw [E.2 hz]
      exact ⟨w, H, I.tok _, ru, q0 hz⟩
    | some z =>
      obtain ⟨p, hp, rv⟩ := E.1 z hz
      obtain ⟨v, rr, qq⟩ := q1 z hz _ rv
      rw [hp]
      exact ⟨v, H, I.tok _, rr, qq⟩
  have room : (nestedKind X.prog X.w).room X.A.in1 := show X.A.units + 1 + 8 < cLine by omega
  rcases hx with ⟨rfl, rfl⟩ | rfl
  · obtain ⟨u, rfl, ru⟩ := vals1 rxs
    cases ru
    exact call_meetsIn F.slot_dict_get dd.typeIs F.entry_dict_get (F.args_dict_get_2 _ _) (meetsH_dict_get (nestedKind X.prog X.w) l a e2) ⟨room, k, es, ⟨key_is _ _ _ _ hk rd, dp⟩, dd, fin .none rfl⟩
  · cases rxs with
    | cons r1 rt =>
      cases r1
      obtain ⟨u, rfl, ru⟩ := vals1 rt
      exact call_meetsIn F.slot_dict_get dd.typeIs F.entry_dict_get (F.args_dict_get_3 _ _ _) (meetsH_dict_get_default (nestedKind X.prog X.w) l a e2 u) ⟨room, k, es, ⟨key_is _ _ _ _ hk rd, dp⟩, dd, fin u ru⟩
end
end FwD
namespace FwD
open PySem PySem.Spec PyProof.Rows L2
section
variable {X : Cx}
/-- the call of a method of such a dict -/
def tMX (r : V → List V → Hp → VK → Prop) (to : TE) (t : TA) : TE := fun σ H Q => to σ H fun x H1 => (∃ (l : Addr) (kvs : List (PyData × PyData)) (Rk : PyData → Addr → Prop) (Rv : PyData → Value → Prop), x = .ref l ∧ DicAt Rk Rv H1 l kvs) ∧ t σ H1 fun xs H2 => r x xs H2 Q
theorem pe_mX {o e : Expr} {es : List Expr} {to : TE} {t : TA} {name : Str} {apos cpos : Pos} {id : String} {r : V → List V → Hp → VK → Prop} (slot : Slot "dict" name id) (hty : typeOf (.builtin id) = pure (.type "method_descriptor")) (hm : MtR X id r) (ho : PE X o to) (ha : PA X (e :: es) t)
    (hbase : attributeBase o name X.env (eval o X.env) = eval o X.env := by rfl)
    (hfew : ((backTo cpos (starEach (e :: es) X.env)).all (fun x => !x.1) && (backToKw cpos (keywordEach [] X.env)).all (fun x => x.1.isSome)
      && decide ((e :: es).length + ([] : List Keyword).length + (if ([] : List Keyword).isEmpty then 0 else 1) < 30)) = true := by rfl)
    (hline : (apos.endLine == cpos.line) = true := by rfl) (hs : starEach (e :: es) X.env = (false, eval e X.env) :: starEach es X.env := by rfl) (hplain : (backTo cpos (starEach es X.env)).any (·.1) = false := by rfl) :
    PE X (.Call (.Attribute o name apos) (e :: es) [] cpos) (tMX r to t) := by
  refine ⟨fun pins s σ H Q I h => ?_⟩
  refine wpAny_Call_method_late hbase hfew hline rfl (thn (ho.run pins s σ H _ I h) fun v s1 ⟨x, H1, I1, r1, ⟨l, kvs, Rk, Rv, ex, D⟩, q1⟩ => ?_)
  subst ex
  have r2 := r1
  cases r2
  obtain ⟨ob, es', ep, xs, e1, e2, e3, e4, e5⟩ := D
  have g : s1.heap.get? l = some ob := (show ObjOk X.prog X.w H1 s1.heap l (exact l ob) from I1.hok l _ e1).1
  refine ⟨"dict", id, PySem.F.plainAttrs_dict, slot, hty, ⟨ob, g, e3.1⟩, fun a e => ?_, ?_⟩
  · cases e
    exact ⟨ob, g, e3.2.1⟩
  have hA := ha.run cpos pins s1 σ H1 _ I1 q1
  rw [hs] at hA ⊢
  refine Calls.callWith_builtin (by show (false || (backTo cpos (starEach es X.env)).any (·.1)) = false; rw [hplain] <;> rfl) (Calls.evalArgs_plain ?_)
  exact thn hA fun us s2 ⟨vs, H2, I2, r2, q2⟩ => hm pins s2 σ H2 _ vs _ us Q I2 r1 r2 q2
/-- the two that are wanted -/
theorem pe_getX {o e : Expr} {es : List Expr} {to : TE} {t : TA} {apos cpos : Pos} (hu : X.A.units + 16 < cLine) (ho : PE X o to) (ha : PA X (e :: es) t)
    (hbase : attributeBase o "get" X.env (eval o X.env) = eval o X.env := by rfl)
    (hfew : ((backTo cpos (starEach (e :: es) X.env)).all (fun x => !x.1) && (backToKw cpos (keywordEach [] X.env)).all (fun x => x.1.isSome)
      && decide ((e :: es).length + ([] : List Keyword).length + (if ([] : List Keyword).isEmpty then 0 else 1) < 30)) = true := by rfl)
    (hline : (apos.endLine == cpos.line) = true := by rfl) (hs : starEach (e :: es) X.env = (false, eval e X.env) :: starEach es X.env := by rfl) (hplain : (backTo cpos (starEach es X.env)).any (·.1) = false := by rfl) :
    PE X (.Call (.Attribute o "get" apos) (e :: es) [] cpos) (tMX (rGetM X.K) to t) :=
  pe_mX PySem.F.slot_dict_get PySem.F.type_dict_get (mt_getM hu) ho ha hbase hfew hline hs hplain
end
end FwD
namespace Fw
open PySem PySem.Spec PyProof.Rows L2 Evl FwD
section
variable {K : PySem.W.Frag} {p : Option Addr} {env : List Slot} {Φ : PyData → Prop} {tk tw : TE}
/-- name.get(key) -/
theorem e_mget1 {i : Nat} {kvs : List (PyData × PyData)} (hi : env[i]? = some (.mov (dicM K kvs))) (h : WpE K p tk env fun y => KeyOk y ∧ Φ ((atD kvs y).getD .none)) : WpE K p (tMX (rGetM K) (tVar i) (tCons tk tNil)) env Φ := fun H0 σ Hk H Q e po en k => by
  obtain ⟨l, h1, _, _, lp, D⟩ := dicM_at en hi
  refine ⟨.ref l, h1, ⟨l, kvs, _, _, rfl, D⟩, h H0 σ Hk H _ e po en fun y dy Hk1 H1 g1 ry ⟨⟨⟨ks, hks, hdp⟩, hni⟩, f⟩ => ?_⟩
  have D1 := D.go g1 lp
  refine ⟨l, kvs, _, _, y, dy, ks, rfl, D1, fun d a r => dp_mono0 g1.kr d r, dx_dp dy (key_noDict dy ks hks) (dp_mono g1.kr dy ry), hks, hni, hdp, .non, .inl ⟨rfl, rfl⟩, fun hz => ?_, fun z hz r ⟨v, rv, dv⟩ => ⟨v, rv, ?_⟩⟩
  · rw [hz] at f
    exact k _ _ Hk1 H1 g1 .non f
  · rw [hz] at f
    exact k _ _ Hk1 H1 g1 dv f
/-- name.get(key, other) -/
theorem e_mget2 {i : Nat} {kvs : List (PyData × PyData)} (hi : env[i]? = some (.mov (dicM K kvs))) (h : WpE K p tk env fun y => WpE K p tw env fun w => KeyOk y ∧ Φ ((atD kvs y).getD w)) : WpE K p (tMX (rGetM K) (tVar i) (tCons tk (tCons tw tNil))) env Φ := fun H0 σ Hk H Q e po en k => by
  obtain ⟨l, h1, _, _, lp, D⟩ := dicM_at en hi
  refine ⟨.ref l, h1, ⟨l, kvs, _, _, rfl, D⟩, h H0 σ Hk H _ e po en fun y dy Hk1 H1 g1 ry h2 => h2 H0 σ Hk1 H1 _ g1.kr g1.po (en.go g1) fun w dw Hk2 H2 g2 rw_ ⟨⟨⟨ks, hks, hdp⟩, hni⟩, f⟩ => ?_⟩
  have D2 := (D.go g1 lp).go g2 lp
  refine ⟨l, kvs, _, _, y, dy, ks, rfl, D2, fun d a r => dp_mono0 g2.kr d r, dx_dp dy (key_noDict dy ks hks) (dp_mono g2.kr dy (dp_mono g2.kk dy ry)), hks, hni, hdp, w, .inr rfl, fun hz => ?_, fun z hz r ⟨v, rv, dv⟩ => ⟨v, rv, ?_⟩⟩
  · rw [hz] at f
    exact k _ _ Hk2 H2 (g1.trans g2) rw_ f
  · rw [hz] at f
    exact k _ _ Hk2 H2 (g1.trans g2) dv f
end
end Fw
/-! words, tests by in, truths, comprehensions of two fors, known tuples of words -/
namespace FwWd
open PySem PySem.Spec PyProof.Rows L2 Evl Fw FwD
/-! ### x in data -/
def inD (d : PyData) (xs : List PyData) : Bool := xs.any fun y => PyData.eqv y d
def rInD (K : PySem.W.Frag) (neg : Bool) : R2 := fun x y H Q => ∃ d xs, Dp K H x d ∧ ((Dp K H y (.list xs) ∧ SeqAt.shaped (.list xs) = true) ∨ (Dp K H y (.tuple xs) ∧ SeqAt.shaped (.tuple xs) = true)) ∧ SeqAt.shaped d = true ∧ Q (.bl (if neg then !inD d xs else inD d xs)) H
section
variable {X : Cx}
theorem op_inD (hu : X.A.units + 65 < cLine) : OpR X (compareOp .In) (rInD X.K false) := by
  intro pins s σ H x y v u Q I rx ry h
  obtain ⟨d, xs, hd, hx, sd, q⟩ := h
  obtain ⟨as, r1⟩ := Dp.reads I d x v hd rx
  rcases hx with ⟨he, se⟩ | ⟨he, se⟩
  · obtain ⟨bs, r2⟩ := Dp.reads I _ y u he ry
    exact PySem.SeqAt.in_list_reads r2 r1 (SeqAt.canLay_of_shaped se) (SeqAt.canLay_of_shaped sd) (PyProof.Rows.room_in_shaped sd hu) ⟨.bl _, H, I, rfl, q⟩
  · obtain ⟨bs, r2⟩ := Dp.reads I _ y u he ry
    exact PySem.SeqAt.in_tuple_reads r2 r1 (SeqAt.canLay_of_shaped se) (SeqAt.canLay_of_shaped sd) (PyProof.Rows.room_in_shaped sd hu) ⟨.bl _, H, I, rfl, q⟩
theorem op_notInD (hu : X.A.units + 65 < cLine) : OpR X (compareOp .NotIn) (rInD X.K true) := by
  intro pins s σ H x y v u Q I rx ry h
  obtain ⟨d, xs, hd, hx, sd, q⟩ := h
  obtain ⟨as, r1⟩ := Dp.reads I d x v hd rx
  rcases hx with ⟨he, se⟩ | ⟨he, se⟩
  · obtain ⟨bs, r2⟩ := Dp.reads I _ y u he ry
    exact PySem.SeqAt.notIn_list_reads r2 r1 (SeqAt.canLay_of_shaped se) (SeqAt.canLay_of_shaped sd) (PyProof.Rows.room_in_shaped sd hu) ⟨.bl _, H, I, rfl, q⟩
  · obtain ⟨bs, r2⟩ := Dp.reads I _ y u he ry
    exact PySem.SeqAt.notIn_tuple_reads r2 r1 (SeqAt.canLay_of_shaped se) (SeqAt.canLay_of_shaped sd) (PyProof.Rows.room_in_shaped sd hu) ⟨.bl _, H, I, rfl, q⟩
end
/-! ### known tuples of words -/
def strsB : List Str → List Value → Bool
  | [], [] => true
  | w :: ws, .str z _ :: us => decide (z = w) && strsB ws us
  | _, _ => false
theorem strs_vals : ∀ {ws : List Str} {us : List Value}, strsB ws us = true → Vals (ws.map V.str) us
  | [], [], _ => .nil
  | w :: ws, .str z t :: us, h => by
    have h2 : (decide (z = w) && strsB ws us) = true := h
    obtain ⟨a, b⟩ := Bool.and_eq_true_iff.mp h2
    have e := of_decide_eq_true a
    subst e
    exact .cons ⟨t, rfl⟩ (strs_vals b)
  | [], _ :: _, h => by cases h
  | _ :: _, [], h => by cases h
  | _ :: _, .none :: _, h => by cases h
  | _ :: _, .bool _ :: _, h => by cases h
  | _ :: _, .int _ _ :: _, h => by cases h
  | _ :: _, .float _ _ :: _, h => by cases h
  | _ :: _, .bytes _ _ :: _, h => by cases h
  | _ :: _, .ref _ :: _, h => by cases h
  | _ :: _, .type _ :: _, h => by cases h
  | _ :: _, .builtin _ :: _, h => by cases h
end FwWd
namespace FwWd
open PySem PySem.Spec PyProof.Rows L2 Evl Fw FwD
def tupB (x : Str) (ws : List Str) (K : PySem.W.Frag) : Bool := match PySem.W.nsIn K mainGlobals x with
  | some (some (.ref a)) => (match K.lookup a with
    | some o => decide (o.cls = .type "tuple") && (match o.data with
      | .seq its _ => decide (its.size ≤ 1000) && strsB ws its.toList
      | _ => false)
    | none => false)
  | _ => false
theorem tupB_ok {K : PySem.W.Frag} {h : Heap} {mg : Str → Option Value} {x : Str} {ws : List Str} (X : K.In h) (G : h.Ns mainGlobals mg) (c : tupB x ws K = true) : ∃ a, mg x = some (.ref a) ∧ ∀ H, SqT K H a (ws.map V.str) := by
  unfold tupB at c
  cases e : PySem.W.nsIn K mainGlobals x with
  | none => rw [e] at c; cases c
  | some v =>
    rw [e] at c
    cases v with
    | none => cases c
    | some v =>
      cases v with
      | ref a =>
        refine ⟨a, PySem.W.mg_of X G e, fun H => ?_⟩
        cases q : K.lookup a with
        | none => simp only [q] at c; cases c
        | some o =>
          simp only [q] at c
          obtain ⟨c1, c2⟩ := Bool.and_eq_true_iff.mp c
          cases w : o.data with
          | seq its n =>
            simp only [w] at c2
            obtain ⟨c3, c4⟩ := Bool.and_eq_true_iff.mp c2
            exact .inr ⟨o, its, n, q, of_decide_eq_true c1, w, sz_of (by have := of_decide_eq_true c3; omega), strs_vals c4⟩
          | _ => simp only [w] at c2; cases c2
      | _ => cases c
theorem dx_strs {K : PySem.W.Frag} {H : Hp} {a : Addr} {ws : List Str} (h : SqT K H a (ws.map V.str)) : Dx K H (.ref a) (.tuple (ws.map .str)) := by
  refine .tup h ?_
  have all : ∀ ws : List Str, DxAll K H (ws.map V.str) (ws.map .str) := fun ws => by
    induction ws with
    | nil => exact .nil
    | cons w ws ih => exact .cons (.str w) ih
  exact all ws
section
variable {K K' : PySem.W.Frag} {p : Option Addr} {env : List Slot} {te ta tb tl : TE} {O : Outs} {Φ : PyData → Prop}
theorem od_inL {d : PyData} {xs : List PyData} {neg : Bool} (sd : SeqAt.shaped d = true) (sx : SeqAt.shaped (.list xs) = true) (h : Φ (.bool (if neg then !inD d xs else inD d xs))) (hK : K' = K := by with_unfolding_all rfl) : OpD K p (rInD K' neg) d (.list xs) Φ := fun vx vy Hk H Q e po rx ry k => by
  subst hK
  exact ⟨d, xs, dx_dp d (noDict_shaped sd) (dp_mono e d rx), .inl ⟨dx_dp _ (noDict_shaped sx) (dp_mono e _ ry), sx⟩, sd, k _ _ _ _ (Go.refl e po) (.bl _) h⟩
theorem od_inT {d : PyData} {xs : List PyData} {neg : Bool} (sd : SeqAt.shaped d = true) (sx : SeqAt.shaped (.tuple xs) = true) (h : Φ (.bool (if neg then !inD d xs else inD d xs))) (hK : K' = K := by with_unfolding_all rfl) : OpD K p (rInD K' neg) d (.tuple xs) Φ := fun vx vy Hk H Q e po rx ry k => by
  subst hK
  exact ⟨d, xs, dx_dp d (noDict_shaped sd) (dp_mono e d rx), .inr ⟨dx_dp _ (noDict_shaped sx) (dp_mono e _ ry), sx⟩, sd, k _ _ _ _ (Go.refl e po) (.bl _) h⟩
/-- the signs of a text -/
def signs (x : Str) : List PyData := x.cps.toList.map fun c => .str ⟨#[c]⟩
theorem i_str {Ψ : List PyData → Prop} (h : WpE K p tl env fun d => ∃ x, d = .str x ∧ Ψ (signs x)) : WpI K p (iStr tl) env Ψ := fun H0 σ Hk H R e po en k =>
  h H0 σ Hk H _ e po en fun v d Hk1 H1 g1 rd ⟨x, hd, f⟩ => by
    subst hd
    refine ⟨x, dp_str rd, k _ _ Hk1 H1 g1 (fun Hk2 H2 e1 e2 po2 => ⟨fun i hi => ?_, ?_, fun i y H' hi ⟨hH, c, hc, hy⟩ => ?_⟩) f⟩
    · show i < x.cps.size
      unfold signs at hi
      rw [List.length_map] at hi
      simpa using hi
    · show x.cps.size ≤ (signs x).length
      unfold signs
      rw [List.length_map]
      simp
    · subst hH hy
      refine ⟨.str ⟨#[c]⟩, Hk2, ?_, .str _, Go.refl e2 po2⟩
      unfold signs
      rw [List.getElem?_map, Array.getElem?_toList, hc]
      rfl
theorem od_leS {i j : Str} {r : R2} (h : Φ (.bool (!decide (j.cps.toList < i.cps.toList)))) (hr : r = fun x y H Q => ∃ i j, x = .str i ∧ y = .str j ∧ Q (.bl (!decide (j.cps.toList < i.cps.toList))) H := by with_unfolding_all rfl) : OpD K p r (.str i) (.str j) Φ := fun vx vy Hk H Q e po rx ry k => by
  subst hr
  exact ⟨i, j, dp_str rx, dp_str ry, k _ _ _ _ (Go.refl e po) (.bl _) h⟩
theorem od_ixS {z : Str} {i : Int} {c : Nat} (hz : z.length ≤ 100000) (ha : atI z.cps.toList i = some c) (h : Φ (.str ⟨#[c]⟩)) : OpD K p rIxS (.str z) (.int i) Φ := fun vx vy Hk H Q e po rx ry k =>
  ⟨z, i, c, dp_str rx, dp_int ry, sz_of hz, ha, k _ _ _ _ (Go.refl e po) (.str _) h⟩
theorem od_addS {i j : Str} {r : R2} (hz : i.length + j.length ≤ 100000) (h : Φ (.str (i ++ j))) (hr : r = fun x y H Q => ∃ i j, x = .str i ∧ y = .str j ∧ i.length + j.length ≤ sizeLine ∧ Q (.str (i ++ j)) H := by with_unfolding_all rfl) : OpD K p r (.str i) (.str j) Φ := fun vx vy Hk H Q e po rx ry k => by
  subst hr
  exact ⟨i, j, dp_str rx, dp_str ry, sz_of hz, k _ _ _ _ (Go.refl e po) (.str _) h⟩
theorem cb_strI {i : Int} {r : List V → Hp → VK → Prop} (hi : i.natAbs.log2 < 1920) (h : Φ (.str (toString i))) (hr : r = fun xs H Q => ∃ i, xs = [V.int i] ∧ i.natAbs.log2 < 1920 ∧ Q (.str (toString i)) H := by with_unfolding_all rfl) : CbD K p r [.int i] Φ := fun vs Hk H Q e po rx k => by
  subst hr
  cases rx with
  | cons rx rr =>
    cases rr
    rw [dp_int rx]
    exact ⟨i, rfl, hi, k _ _ _ _ (Go.refl e po) (.str _) h⟩
theorem cb_lenS {x : Str} {r : List V → Hp → VK → Prop} (hz : x.length ≤ 100000) (h : Φ (.int x.length)) (hr : r = fun xs H Q => ∃ z, xs = [V.str z] ∧ z.length ≤ sizeLine ∧ Q (.int z.length) H := by with_unfolding_all rfl) : CbD K p r [.str x] Φ := fun vs Hk H Q e po rx k => by
  subst hr
  cases rx with
  | cons rx rr =>
    cases rr
    rw [dp_str rx]
    exact ⟨x, rfl, sz_of hz, k _ _ _ _ (Go.refl e po) (.int _) h⟩
theorem od_neB {i j : Bool} (h : Φ (.bool (!decide (i = j)))) : OpD K p rNe (.bool i) (.bool j) Φ := fun vx vy Hk H Q e po rx ry k => by
  rw [dp_bl rx, dp_bl ry]
  have := k _ _ _ _ (Go.refl e po) (.bl _) h
  have e : decide (V.bl i = V.bl j) = decide (i = j) := by cases i <;> cases j <;> rfl
  exact ⟨by cases i <;> cases j <;> rfl, by rw [e]; exact this⟩
/-! ### truths -/
def truD : PyData → Option Bool
  | .none => some false
  | .bool b => some b
  | .int i => some (i != 0)
  | .list xs => some !xs.isEmpty
  | .tuple xs => some !xs.isEmpty
  | _ => none
theorem t_tru {Ψ : Bool → Prop} {tt : TT} (h : WpE K p ta env fun d => ∃ k, truD d = some k ∧ Ψ k) (ht : tt = fun σ H Q => ta σ H fun x H' => ∃ k, TruV K x H' k ∧ Q k H' := by with_unfolding_all rfl) : WpT K p tt env Ψ := by
  subst ht
  refine fun H0 σ Hk H Q e po en k => h H0 σ Hk H _ e po en fun v d Hk1 H1 g1 rd ⟨b, hb, f⟩ => ⟨b, ?_, k b Hk1 H1 g1 f⟩
  have r := dp_mono g1.kr d rd
  cases d with
  | none => cases hb; cases r; rfl
  | bool c => cases hb; cases r; rfl
  | int i => cases hb; cases r; rfl
  | list xs =>
    cases hb
    cases r with
    | lst hq ra => exact .inl ⟨_, hq, by cases ra <;> rfl⟩
  | tuple xs =>
    cases hb
    cases r with
    | tup hq ra => exact .inr (.inl ⟨_, hq, by cases ra <;> rfl⟩)
  | str _ => cases hb
  | dict _ => cases hb
end
end FwWd
namespace FwWd
open PySem PySem.Spec PyProof.Rows L2 Evl Fw FwD
section
variable {K K' : PySem.W.Frag} {p : Option Addr} {env : List Slot} {te ta tb tl : TE} {O : Outs}
theorem en_calm {p : Option Addr} {H0 Hk H Hk1 H1 : Hp} {σ : List (Option V)} {env : List Slot} (h : En K p H0 Hk H σ env) (no : ∀ (m : Nat) (ds : List PyData), env[m]? ≠ some (.own ds)) (nm : (∀ (m : Nat) (S : Mov), env[m]? ≠ some (.mov S)) ∧ ∀ (m : Nat) (B : Big), env[m]? ≠ some (.big B)) (x : Ex Hk Hk1) : En K p H0 Hk1 H1 σ env := by
  refine ⟨h.len, fun i sl e => ?_, fun i j l ds es e => absurd e (no i ds), fun i j B s l e => absurd e (nm.2 i B)⟩
  obtain ⟨ov, e1, r⟩ := h.slot i sl e
  refine ⟨ov, e1, ?_⟩
  cases sl with
  | no => exact True.intro
  | pot => exact r
  | dat d => obtain ⟨v, e2, r⟩ := r; exact ⟨v, e2, dp_mono x d r⟩
  | own ds => exact absurd e (no i ds)
  | ext S => obtain ⟨v, e2, r⟩ := r; exact ⟨v, e2, S.mono _ _ v x r⟩
  | mov S => exact absurd e (nm.1 i S)
  | big B => exact absurd e (nm.2 i B)
def Calm (env : List Slot) : Prop := (∀ (m : Nat) (ds : List PyData), env[m]? ≠ some (.own ds)) ∧ (∀ (m : Nat) (S : Mov), env[m]? ≠ some (.mov S)) ∧ ∀ (m : Nat) (B : Big), env[m]? ≠ some (.big B)
/-- a comprehension of two fors: a new list -/
theorem f_lc2 {wi wi1 : TI} {g g1 : TG} {tt tt1 : TT} {vs vs1 js js1 : List Nat} {Φ : List PyData → Prop} (hs : ∀ j ∈ js, j ∈ vs) (hs1 : ∀ j ∈ js1, j ∈ vs1) (h : WpI K p wi env fun xs => xs.length ≤ 100 ∧ ∃ Wd : Nat → List PyData → Prop, Wd 0 [] ∧
    (∀ (i : Nat) (x : PyData) (acc : List PyData), xs[i]? = some x → Wd i acc → acc.length ≤ 100 * i → WpG K p js g x (wipeE env vs) fun env2 => Calm env2 ∧ WpT K p tt env2 fun b => if b = true then
      WpI K p wi1 env2 fun ys => ys.length ≤ 100 ∧ ∃ We : Nat → List PyData → Prop, We 0 acc ∧
        (∀ (j : Nat) (y : PyData) (acc : List PyData), ys[j]? = some y → We j acc → WpG K p js1 g1 y (wipeE env2 vs1) fun env3 => WpT K p tt1 env3 fun b => if b = true then WpE K p te env3 (fun z => We (j + 1) (acc ++ [z])) else We (j + 1) acc) ∧
        ∀ acc, We ys.length acc → Wd (i + 1) acc
      else Wd (i + 1) acc) ∧
    ∀ acc, Wd xs.length acc → Φ acc) : WpF K p (tLc2 wi g tt wi1 g1 tt1 te vs vs1) env Φ := fun H0 σ Hk H Q e po en k => by
  refine h H0 σ Hk H _ e po en fun J xs Hk1 H1 g1' it ⟨hz, Wd, i0, step, last⟩ D hD => ?_
  have pD : p ≠ some D := pot_ne g1'.po hD
  refine ⟨fun i m H' => m = xs.length - i ∧ i ≤ xs.length ∧ ∃ Hk' ws acc, Go p Hk1 H1 Hk' H' ∧ Hk' D = none ∧ H' D = some (.lst ws) ∧ DxAll K Hk' ws acc ∧ acc.length ≤ 100 * i ∧ Wd i acc, ⟨xs.length, by omega, by omega, Hk1, [], [], (Go.refl g1'.kr g1'.po).mut hD pD (fresh_back g1'.kr hD), fresh_back g1'.kr hD, upd_same, .nil, Nat.zero_le _, i0⟩, ?_⟩
  rintro i m H' ⟨rfl, hi, Hk', ws, acc, go, kD, hw, r, hlen, inv⟩
  obtain ⟨o1, o2, o3⟩ := it Hk' H' go.kk go.kr go.po
  by_cases hlt : i < xs.length
  · refine .inr ⟨o1 i hlt, fun H'' => i + 1 ≤ xs.length ∧ ∃ Hk' ws acc, Go p Hk1 H1 Hk' H'' ∧ Hk' D = none ∧ H'' D = some (.lst ws) ∧ DxAll K Hk' ws acc ∧ acc.length ≤ 100 * (i + 1) ∧ Wd (i + 1) acc, fun H'' q => ⟨xs.length - (i + 1), by omega, rfl, q⟩, fun x H'' y => ?_⟩
    obtain ⟨d, Hk2, hd, rd, g2⟩ := o3 i x H'' hlt y
    have en2 : En K p H0 Hk2 H'' (L2.wipe σ vs) (wipeE env vs) := (((en.go g1').go go).go g2).wipe vs
    refine step i d acc hd inv hlen H0 _ Hk2 H'' x _ g2.kr g2.po en2 rd fun σ2 env2 en3 same ⟨calm, f3⟩ => ⟨wipe_eq (by rw [same.1, wipe_length]) same.2 hs, ?_⟩
    refine f3 H0 σ2 Hk2 H'' _ g2.kr g2.po en3 fun b Hk4 H4 g4 f4 => ?_
    have gg := (go.trans g2).trans g4
    have k4 : Hk4 D = none := g4.nk D (g2.live (by rw [hw]; exact nofun)) (g2.nk D (by rw [hw]; exact nofun) kD)
    have h4 : H4 D = some (.lst ws) := g4.rr D _ pD (g2.rr D _ pD hw)
    have r4 := dpAll_mono g4.kk acc (dpAll_mono g2.kk acc r)
    cases b with
    | false => exact ⟨by omega, Hk4, ws, acc, gg, k4, h4, r4, by omega, f4⟩
    | true =>
      have en4 := en3.go g4
      refine (show WpI K p wi1 env2 _ from f4) H0 σ2 Hk4 H4 _ g4.kr g4.po en4 fun J1 ys Hk5 H5 g5 it1 ⟨hz1, We, j0, step1, last1⟩ => ?_
      have k5 : Hk5 D = none := g5.nk D (by rw [h4]; exact nofun) k4
      have h5 : H5 D = some (.lst ws) := g5.rr D _ pD h4
      have r5 := dpAll_mono g5.kk acc r4
      have en5 := en4.go g5
      have gg5 := gg.trans g5
      refine ⟨fun j m H' => m = ys.length - j ∧ j ≤ ys.length ∧ ∃ Hk' ws acc, Go p Hk1 H1 Hk' H' ∧ Ex Hk5 Hk' ∧ Hk' D = none ∧ H' D = some (.lst ws) ∧ DxAll K Hk' ws acc ∧ acc.length ≤ 100 * i + j ∧ We j acc, ⟨ys.length, by omega, by omega, Hk5, ws, acc, gg5, Ex.refl _, k5, h5, r5, by omega, j0⟩, ?_⟩
      rintro j m H6 ⟨rfl, hj, Hk6, ws6, acc6, go6, x6, kD6, hw6, r6, hlen6, inv6⟩
      obtain ⟨p1, p2, p3⟩ := it1 Hk6 H6 x6 go6.kr go6.po
      by_cases hlt1 : j < ys.length
      · refine .inr ⟨p1 j hlt1, fun H'' => j + 1 ≤ ys.length ∧ ∃ Hk' ws acc, Go p Hk1 H1 Hk' H'' ∧ Ex Hk5 Hk' ∧ Hk' D = none ∧ H'' D = some (.lst ws) ∧ DxAll K Hk' ws acc ∧ acc.length ≤ 100 * i + (j + 1) ∧ We (j + 1) acc, fun H'' q => ⟨ys.length - (j + 1), by omega, rfl, q⟩, fun x7 H7 y7 => ?_⟩
        obtain ⟨d7, Hk7, hd7, rd7, g7⟩ := p3 j x7 H7 hlt1 y7
        have en7 : En K p H0 Hk7 H7 (L2.wipe σ2 vs1) (wipeE env2 vs1) := ((en_calm (H1 := H6) en5 calm.1 calm.2 x6).go g7).wipe vs1
        refine step1 j d7 acc6 hd7 inv6 H0 _ Hk7 H7 x7 _ g7.kr g7.po en7 rd7 fun σ3 env3 en8 same8 f8 => ⟨wipe_eq (by rw [same8.1, wipe_length]) same8.2 hs1, ?_⟩
        refine f8 H0 σ3 Hk7 H7 _ g7.kr g7.po en8 fun b Hk9 H9 g9 f9 => ?_
        have gg9 := (go6.trans g7).trans g9
        have k9 : Hk9 D = none := g9.nk D (g7.live (by rw [hw6]; exact nofun)) (g7.nk D (by rw [hw6]; exact nofun) kD6)
        have h9 : H9 D = some (.lst ws6) := g9.rr D _ pD (g7.rr D _ pD hw6)
        have r9 := dpAll_mono g9.kk acc6 (dpAll_mono g7.kk acc6 r6)
        cases b with
        | false => exact ⟨by omega, Hk9, ws6, acc6, gg9, (x6.trans g7.kk).trans g9.kk, k9, h9, r9, by omega, f9⟩
        | true =>
          refine (show WpE K p te env3 _ from f9) H0 σ3 Hk9 H9 _ g9.kr g9.po (en8.go g9) fun v d2 Hk10 H10 g10 r10 f10 => ?_
          have k10 : Hk10 D = none := g10.nk D (by rw [h9]; exact nofun) k9
          refine ⟨ws6, g10.rr D _ pD h9, sz_lt (by rw [dpAll_len r6]; omega), by omega, Hk10, ws6 ++ [v], acc6 ++ [d2], (gg9.trans g10).mut hD pD k10, ((x6.trans g7.kk).trans g9.kk).trans g10.kk, k10, upd_same, dpAll_app (dpAll_mono g10.kk acc6 r9) (.cons r10 .nil), by rw [List.length_append]; simp; omega, f10⟩
      · have hj2 : j = ys.length := by omega
        subst hj2
        exact .inl ⟨p2, by omega, Hk6, ws6, acc6, go6, kD6, hw6, r6, by omega, last1 acc6 inv6⟩
  · have hi2 : i = xs.length := by omega
    subst hi2
    have h0 : H D = none := by
      cases z : H D with
      | none => rfl
      | some o => exact absurd hD (g1'.live (by rw [z]; exact nofun))
    exact .inl ⟨o2, k D ws acc Hk' _ (g1'.trans go) h0 kD hw r (last acc inv)⟩
end
end FwWd
/-! sorted of a list of tuples, the first of which is empty -/
namespace FwSE
open PySem PySem.Spec PyProof.Rows PySem.W PySem.SeqAt PySem.Calls
/-- the call of tuple's own __lt__, as sorting makes it -/
theorem call_tuple_lt {A : Around} {s : Shared} {prog : Program} {w : World} {E : Value → Shared → Prop} {Q : Value → Shared → Prop} {l b : Addr} {items items2 : Array Value} {e r : Nat → Bool} (hl : s.heap.IsTuple l items) (hb : s.heap.IsTuple b items2)
    (he : ∀ j (h1 : j < items.size) (h2 : j < items2.size), EqAt A.in1 s items[j] items2[j] (e j)) (hr : ∀ j (h1 : j < items.size) (h2 : j < items2.size), e j = false → RcLt A.in1 s items[j] items2[j] (r j))
    (h : Q (.bool (firstLt e r (decide (items.size < items2.size)) (List.range (min items.size items2.size)))) s) : wpAny (model prog w) A (call (.builtin "tuple.__lt__") [.ref l, .ref b]) Q E s := by
  obtain ⟨⟨cls, dd, data, sl⟩, ho, hc, n, hd⟩ := id hl
  obtain ⟨⟨cls2, dd2, data2, sl2⟩, ho2, hc2, n2, hd2⟩ := id hb
  simp only at hc hd hc2 hd2
  subst hc hd hc2 hd2
  exact call_meets F.slot_tuple_lt ⟨_, ho, rfl⟩ F.entry_tuple_lt (F.args_tuple_lt_2 _ _) (tuple_ltAt l b items items2 n n2 dd dd2 sl sl2 e r) ⟨ho, ho2, he, hr, h⟩
theorem oneLt_tuple {prog : Program} {w : World} {A : Around} {E : Value → Shared → Prop} {s : Shared} {xs ys : List PyData} {a b : Value} {as bs : List Addr} {Q : Bool → Shared → Prop} (ra : Reads s.heap a (.tuple xs) as) (rb : Reads s.heap b (.tuple ys) bs) (h : alike (.tuple xs) (.tuple ys) = true)
    (hu : A.units + min (PyData.tuple xs).depth (PyData.tuple ys).depth < cLine) (hq : Q (dataLt (.tuple xs) (.tuple ys)) s) : wpAny (model prog w) A (oneLt' true a b) Q E s := by
  have hal : alikeAll xs ys = true := by simpa [alike] using h
  cases ra with
  | @tuple l o vs n _ as₁ h1 h2 h3 h4 =>
    cases rb with
    | @tuple l' o' vs' n' _ bs₁ k1 k2 k3 k4 =>
      have n1 : vs.size = xs.length := by simpa using ReadsAll.length _ _ _ h4
      have n2 : vs'.size = ys.length := by simpa using ReadsAll.length _ _ _ k4
      rw [dataLt_tuple, ← firstLt_toks xs ys hal, ← n1, ← n2] at hq
      rw [oneLt'_eq]
      simp only [if_true]
      refine wpAny_bind (wpAny_cRoomFor (room_here hu) ?_)
      refine wpAny_bind (wpAny_callSpecialIfBound?_slot (T := "tuple") ⟨_, h1, h2⟩ F.slot_tuple_lt (call_tuple_lt (e := pairEq xs ys) (r := fun j => dataLt (xs.getD j .none) (ys.getD j .none)) ⟨_, h1, h2, _, h3⟩ ⟨_, k1, k2, _, k3⟩ (fun j j1 j2 => ?_) (fun j j1 j2 hj => ?_) ?_))
      · have := eqAt_alikeAll xs ys A.in1 s vs.toList vs'.toList _ _ h4 k4 hal (room_in hu) j (by simpa using j1) (by simpa using j2)
        simpa using this
      · have := rcLt_alikeAll xs ys A.in1 s vs.toList vs'.toList _ _ h4 k4 hal (room_in hu) j (by simpa using j1) (by simpa using j2) hj
        simpa using this
      · exact wpAny_truthy_bool hq
/-- a tuple's first item, if there is one -/
theorem first_reads {M : Model} {A : Around} {E : Value → Shared → Prop} {s : Shared} {v : Value} {xs : List PyData} {as : List Addr} (r : Reads s.heap v (.tuple xs) as) {Q : Option Value → Shared → Prop} (h1 : xs = [] → Q none s) (h2 : xs ≠ [] → ∀ f, Q (some f) s) :
    wpAny M A (firstOfTuple' v) Q E s := by
  cases r with
  | @tuple l o vs n _ as₁ k1 k2 k3 k4 =>
    have n1 : vs.size = xs.length := by simpa using ReadsAll.length _ _ _ k4
    rw [kas_first_eq]
    refine wpAny_bind (((show Looks M s.heap (typeOf (Value.ref l)) (Value.type "tuple") from k2 ▸ (Looks.ld k1).andThen .now)).here ?_)
    rw [if_neg (by decide)]
    unfold Builtin.List.listItems
    refine wpAny_bind (wpAny_bind (wpAny_seqItems k1 k3 (wpAny_pure (wpAny_pure ?_))))
    cases q : vs[0]? with
    | none =>
      refine h1 ?_
      have := Array.getElem?_eq_none_iff.mp q
      rw [n1] at this
      exact List.length_eq_zero_iff.mp (by omega)
    | some f =>
      refine h2 (fun e => ?_) f
      have := (Array.getElem?_eq_some_iff.mp q).1
      rw [n1, e] at this
      exact absurd this (by simp)
/-- what stands at the first place of the list is empty -/
theorem kind_empty {M : Model} {A : Around} {E : Value → Shared → Prop} {s : Shared} {v0 : Value} {vs : List Value} {ds : List PyData} {as0 : List Addr} {Q : SortKind → Shared → Prop} (h0 : Reads s.heap v0 (.tuple []) as0) (e : EachIs (fun v d => (∃ as, Reads s.heap v d as) ∧ ∃ xs, d = .tuple xs) vs ds) (h : Q oneType' s) :
    wpAny M A (keyKind' (v0 :: vs).toArray) Q E s := by
  rw [keyKind'_eq, List.mapM_toArray, map_eq_pure_bind]
  refine wpAny_bind (wpAny_bind ?_)
  rw [List.mapM_cons]
  refine wpAny_bind (first_reads h0 (fun _ => ?_) fun z => absurd rfl z)
  have all : ∀ {vs : List Value} {ds : List PyData}, EachIs (fun v d => (∃ as, Reads s.heap v d as) ∧ ∃ xs, d = .tuple xs) vs ds → ∀ {Q : List (Option Value) → Shared → Prop}, (∀ fs, Q fs s) → wpAny M A (vs.mapM firstOfTuple') Q E s := fun {vs ds} e => by
    induction e with
    | nil => intro Q hq; rw [List.mapM_nil]; exact wpAny_pure (hq [])
    | cons hd t ih =>
      intro Q hq
      obtain ⟨⟨as, r⟩, xs, rfl⟩ := hd
      rw [List.mapM_cons]
      exact wpAny_bind (first_reads r (fun _ => wpAny_bind (ih fun fs => wpAny_pure (hq _))) fun _ f => wpAny_bind (ih fun fs => wpAny_pure (hq _)))
  refine wpAny_bind (all e fun fs => wpAny_pure (wpAny_pure ?_))
  rw [if_neg (by simp), if_neg (by simp)]
  rw [oneTypeOnly'_eq, List.mapM_toArray, map_eq_pure_bind]
  have ty : ∀ v ∈ v0 :: vs, Looks M s.heap (typeOf v) (.type "tuple") := fun v hv => by
    rcases List.mem_cons.mp hv with rfl | hv
    · exact looks_reads h0
    · obtain ⟨d, _, ⟨as, r⟩, xs, rfl⟩ := e.left v hv
      exact looks_reads r
  refine wpAny_bind (wpAny_bind (wpAny_bind (kas_mapM (r := Value.type "tuple") _ (fun v hv Q' hq => (ty v hv).here hq) (wpAny_pure ?_))))
  have hall : ((List.map (fun _ => Value.type "tuple") (v0 :: vs)).toArray.all fun x => x == Value.type "tuple") = true := by
    simp only [List.all_toArray, List.all_map, List.all_eq_true]
    intro _ _
    rfl
  have h0' : (List.map (fun _ => Value.type "tuple") (v0 :: vs)).toArray[0]? = some (Value.type "tuple") := by simp
  rw [h0']
  simp only [hall, if_true]
  exact wpAny_pure (wpAny_pure h)
theorem sortsE {prog : Program} {w : World} {A : Around} {s : Shared} {vs : List Value} {ds : List PyData} (e : EachIs (fun v d => ∃ as, Reads s.heap v d as) vs (.tuple [] :: ds)) (hal : AllAlike (.tuple [] :: ds)) (ht : ∀ d ∈ ds, ∃ xs, d = .tuple xs) (hu : ∀ d, d ∈ PyData.tuple [] :: ds → A.units + d.depth < cLine) : SortsAt prog w A s (dataKind s.heap (.tuple [] :: ds)) vs := by
  have room : ∀ {d d' : PyData}, d ∈ PyData.tuple [] :: ds → A.units + min d.depth d'.depth < cLine := fun {d d'} hd => Nat.lt_of_le_of_lt (Nat.add_le_add_left (Nat.min_le_left _ _) _) (hu d hd)
  have tup : ∀ d ∈ PyData.tuple [] :: ds, ∃ xs, d = .tuple xs := fun d hd => by
    rcases List.mem_cons.mp hd with z | z
    · exact ⟨[], z⟩
    · exact ht d z
  refine ⟨fun v hv => ?_, ?_⟩
  · obtain ⟨d, hd, as, r⟩ := e.left v hv
    exact ⟨_, dataKind_some hal hd r⟩
  · refine ⟨oneType', ?_, fun h2 E Q hq => ?_⟩
    · intro E x y a b Q ha hb hq
      obtain ⟨d, as, hd, ra, rfl⟩ := dataKind_inv ha
      obtain ⟨d', as', hd', rb, rfl⟩ := dataKind_inv hb
      obtain ⟨xs, rfl⟩ := tup d hd
      obtain ⟨ys, rfl⟩ := tup d' hd'
      rw [keyLt'_oneType]
      exact oneLt_tuple ra rb (hal _ hd _ hd') (room hd) hq
    · cases e with
      | cons h t =>
        obtain ⟨as, r⟩ := h
        refine kind_empty r (((each_mem t).mono fun v d ⟨a, b⟩ => ⟨a, ht d b⟩)) hq
/-- sorted(xs), the first item an empty tuple, the others tuples -/
theorem sorted_dataE {prog : Program} {w : World} {A : Around} {E : Value → Shared → Prop} {s : Shared} {vs : List Value} {ds : List PyData} {R : Value → PyData → Prop} {l : Addr} {Q : Value → Shared → Prop} (hl : s.heap.IsList l vs.toArray) (e : EachIs R vs (.tuple [] :: ds)) (er : EachIs (fun v b => ∃ as, Reads s.heap v b as) vs (.tuple [] :: ds)) (hal : AllAlike (.tuple [] :: ds)) (ht : ∀ d ∈ ds, ∃ xs, d = .tuple xs) (hL : (PyData.tuple [] :: ds).length ≤ sizeLine)
    (hu : ∀ b, b ∈ PyData.tuple [] :: ds → A.units + 2 + b.depth < cLine) (h : ∀ out, out.length = (PyData.tuple [] :: ds).length → EachIs R out ((PyData.tuple [] :: ds).mergeSort (dataLe false fun d => d)) → Q (.ref (s.heap.objs.size + 1)) { s with heap := sortedAll s.heap vs (List.toArray out) }) :
    wpAny (model prog w) A (call (.builtin "sorted") [.ref l]) Q E s := by
  have er' : EachIs (fun v b => ∃ as, Reads (sortingHeap (copyHeap s.heap vs) (s.heap.objs.size + 1) vs) v b as) vs (.tuple [] :: ds) := er.mono fun _ _ ⟨as, r⟩ => ⟨as, PyProof.Rows.Reads.keeps (fun _ _ => sorting_copy_old) r⟩
  have e0 : (PyData.tuple [] :: ds).map (fun d : PyData => d) = .tuple [] :: ds := List.map_id' _
  have sd := sortVals_data (enc := fun d : PyData => d) false e er' (by rw [e0]; exact hal)
  rw [e0] at sd
  exact sorted_vals hl (sortsE (s := { s with heap := sortingHeap (copyHeap s.heap vs) (s.heap.objs.size + 1) vs }) er' hal ht hu) (by rw [e.length]; exact hL)
    (h _ (by rw [sortVals_length false rfl]; exact e.length) sd)
end FwSE

namespace FwSE
open PySem PySem.Spec PyProof.Rows L2 FwS
def rSortE (K : PySem.W.Frag) : List V → Hp → VK → Prop := fun vs H Q => ∃ (a : Addr) (xs : List V) (ds : List PyData) (R : V → PyData → Prop), vs = [.ref a] ∧ SqL K H a xs ∧ Paired R xs (.tuple [] :: ds) ∧ (∀ x d, R x d → Dp K H x d) ∧ PySem.W.AllAlike (.tuple [] :: ds) ∧ (∀ d ∈ ds, ∃ ys, d = .tuple ys) ∧ (∀ d ∈ PyData.tuple [] :: ds, d.depth ≤ 60) ∧
  ∀ ys p, Paired R ys (sortD (.tuple [] :: ds)) → H p = none → Q (.ref p) (upd H p (.lst ys))
theorem cr_sortedE {X : Cx} (hu : X.A.units + 64 < cLine) : CallR X (.builtin "sorted") (rSortE X.K) := fun pins s σ H vs us Q I r h => by
  obtain ⟨a, xs, ds, R, rfl, hs, hd, hR, al, so, dp, q⟩ := h
  obtain ⟨u, rfl, ru⟩ := vals1 r
  cases ru
  obtain ⟨its, rv, hl, hz⟩ := I.list hs
  have lenD : xs.length = (PyData.tuple [] :: ds).length := lenP hd
  have bo := both_of rv hd
  have rd : PySem.W.EachIs (fun v d => ∃ as, Reads s.heap v d as) its (.tuple [] :: ds) := bo.mono fun v d ⟨x, rx, hx⟩ => Dp.reads I d x v (hR x d hx) rx
  refine sorted_dataE hl.isList bo rd al so (by rw [← lenD]; exact hz) (fun d m => ?_) fun out ho hb => ?_
  · have := dp d m
    show X.A.units + 2 + d.depth < cLine
    omega
  · obtain ⟨ys, ry, hy⟩ := of_both hb
    obtain ⟨n, hn⟩ := sortedAll_at s.heap its out.toArray
    have hd0 : H (s.heap.objs.size + 1) = none := I.hok.fresh (Nat.le_succ _)
    refine ⟨.ref (s.heap.objs.size + 1), upd H (s.heap.objs.size + 1) (.lst ys), I.laid (t' := s.toks) (fun b o e => sortedAll_old e) (Nat.le_succ _) ⟨?_, out, n, ry, hn⟩, rfl, q ys _ hy hd0⟩
    rw [ry.length, ho, ← lenD]
    exact hz
end FwSE
/-! len(set(a tuple of ints)), min of a list of rows, list(range), sorted from an empty tuple on -/
namespace FwSI
open PySem PySem.Spec PyProof.Rows L2
section
variable {P : Program} {w : World} {A : Around} {E : Value → Shared → Prop} {s : Shared}
theorem setI_of_tuple {t : Addr} {its : Array Value} {ns : List Int} {Q : Value → Shared → Prop} (calm : A.handled = none) (ht : s.heap.IsTuple t its) (all : IntsAre its.toList ns) (few : its.size + 1 < scanBound)
    (end_ : ∀ (g : Heap) (tk : Nat), g.SetOf (intKind P w) s.heap.objs.size (fun z => (firstMet (fun i => ns.getD i 0) its.size).any (· == z)) (firstMet (fun i => ns.getD i 0) its.size).length → (∀ b o, s.heap.get? b = some o → g.get? b = some o) → Q (.ref s.heap.objs.size) { s with heap := g, toks := tk }) : wpAny (model P w) A (call (.type "set") [.ref t]) Q E s := by
  obtain ⟨c, tl, mro_⟩ := F.called_set.mro
  have made_ := F.called_set.made
  have sub_ := F.called_set.sub
  refine wpAny_call (codeAny_of_tree ?_)
  refine (show wpAny _ _ (callAny (.type "set") _) _ _ _ from wpAny_pure ⟨Code.quiet_builtin _ (by decide +kernel), codeAny_builtin F.entry_type_call ?_⟩)
  rw [Around.under_plain (weight_type_call_type "set" [.ref t] []) rfl]
  have nt_ := F.called_set.notType
  have cc_ := F.called_set.canCreate
  have tc_ := F.typeCall_set_1 (.ref t)
  repeat (any_goals (first | wp_step | assumption))
  refine codeAny_mono (code_set_led1 (.ref t) (E := E) (Q₁ := fun ob u => ob = .ref s.heap.objs.size ∧ u = { s with heap := s.heap.push (FwB.eset w) }) ⟨rfl, rfl⟩) fun r u hr => ?_
  match r, hr with
  | .error e, hr => exact hr
  | .ok .next, hr => exact hr.elim
  | .ok .brk, hr => exact hr.elim
  | .ok .cont, hr => exact hr.elim
  | .ok (.ret ob), hr =>
    obtain ⟨rfl, rfl⟩ := hr
    have here : (s.heap.push (FwB.eset w)).get? s.heap.objs.size = some (FwB.eset w) := Heap.get?_push_size _ rfl
    have typ : Shared.TypeIs { s with heap := s.heap.push (FwB.eset w) } (.ref s.heap.objs.size) "set" := ⟨_, here, rfl⟩
    have il_ := F.called_set.init.lookup
    have ib_ := F.called_set.init.bind (.ref s.heap.objs.size)
    repeat (any_goals (first | wp_step | assumption))
    refine codeAny_mono (codeAny_call_builtin (R := wants (fun r u => r = .none ∧ ∃ g tk, u = { s with heap := g, toks := tk } ∧ g.SetOf (intKind P w) s.heap.objs.size (fun z => (firstMet (fun i => ns.getD i 0) its.size).any (· == z)) (firstMet (fun i => ns.getD i 0) its.size).length ∧ (∀ b o, s.heap.get? b = some o → g.get? b = some o)) E) F.called_set.init.plain F.entry_set_init (check_set_init_1 typ ?_)) fun r2 u2 hr2 => ?_
    · obtain ⟨⟨kc, kd, kdat, ksl⟩, ot, oc, nt, od⟩ := ht
      simp only at oc od
      subst oc od
      have ot2 : (s.heap.push (FwB.eset w)).get? t = some { cls := .type "tuple", dict := kd, data := .seq its nt, slots := ksl } := Heap.get?_push_of_some _ ot
      have ss_ := F.sub_tuple_set
      have sf_ := F.sub_tuple_frozenset
      have nd_ : (Value.type "tuple" == Value.type "dict") = false := by decide
      have ht2 : (s.heap.push (FwB.eset w)).IsTuple t its := ⟨_, ot2, rfl, nt, rfl⟩
      unfold Builtin.«set.__init__» noKeywords Builtin.Frozenset.updateFrom
      generalize kept : pyIter = PI
      wp_walk
      subst kept
      refine wpAny_pyIter_tuple ht2 (wpAny_bind (wpAny_runValue ?_))
      have lt_ : t < s.heap.objs.size := Heap.lt_size ot
      have size_ : (s.heap.push (FwB.eset w)).objs.size = s.heap.objs.size + 1 := Heap.size_push ..
      have apart_ : t ≠ (s.heap.push (FwB.eset w)).objs.size := by rw [size_]; exact fun z => absurd (z ▸ Nat.lt_succ_of_lt lt_ : _ < _) (Nat.lt_irrefl _)
      have off_ : s.heap.objs.size ∉ [(s.heap.push (FwB.eset w)).objs.size, t] := by
        rw [size_]
        intro z
        rcases List.mem_cons.mp z with z | z
        · exact absurd z (Nat.ne_of_lt (Nat.lt_succ_self _))
        · exact absurd (List.mem_singleton.mp z) (Nat.ne_of_gt lt_)
      have each : ∀ (i : Nat) (v : Value), its[i]? = some v → ∃ tk, v = .int ((fun i => ns.getD i 0) i) tk := fun i v hv => IntsAre.int_at all i v (by rw [Array.getElem?_toList]; exact hv)
      have hw : A.in1.in1.in1.handled = none := by simp [calm]
      refine codeAny_set_update_loopS ((Walks.tuple hw _ t apart_ its).toS) s.heap.objs.size off_ (fun i => ns.getD i 0) each few (its.size - 0) 0 _ (by omega) (Nat.zero_le _) ⟨⟨_, Heap.get?_push_size _ rfl, rfl, rfl⟩, ht2.push _⟩ ?start ?last
      case start =>
        have got : ((s.heap.push (FwB.eset w)).push { cls := .type "tuple_iterator", data := .fields #[.ref t, .int 0 0] }).get? s.heap.objs.size = some (FwB.eset w) := Heap.get?_push_of_some _ here
        exact SetOf_congr ((setObjOf_fresh (knd := intKind P w) _).setOf got (by unfold scanBound; omega)) (fun _ => rfl) rfl
      case last =>
        rintro ⟨g, gs, dr, tk, os⟩ mv so
        have e1 : gs = s.gens := mv.gens
        have e2 : dr = s.drawn := mv.drawn
        have e3 : os = s.os := mv.os
        subst e1 e2 e3
        refine (show wpAny _ _ _ _ _ _ from wpAny_pure ?_)
        refine (show wpAny _ _ (ret Value.none) _ _ _ from wpAny_pure ⟨rfl, g, tk, rfl, so, fun b o e => ?_⟩)
        have lb := Heap.lt_size e
        refine mv.heap b o (fun z => ?_) (Heap.get?_push_of_some _ (Heap.get?_push_of_some _ e))
        rw [size_] at z
        simp only [List.mem_cons, List.mem_singleton, List.not_mem_nil, or_false] at z
        rcases z with z | z
        · exact Nat.ne_of_lt lb z
        · exact Nat.ne_of_lt (Nat.lt_succ_of_lt lb) z
    · match r2, hr2 with
      | .error e, hr2 => exact hr2
      | .ok .next, hr2 => exact hr2.elim
      | .ok .brk, hr2 => exact hr2.elim
      | .ok .cont, hr2 => exact hr2.elim
      | .ok (.ret r), hr2 =>
        obtain ⟨rfl, g, tk, rfl, so, keep⟩ := hr2
        repeat (any_goals (first | wp_step | assumption))
        exact end_ g tk so keep
end
/-- len(set(t)), t a tuple of unlike ints -/
def tLenSetT (K : PySem.W.Frag) (ta : TE) : TE := fun σ H Q => ta σ H fun x H1 => ∃ (l : Addr) (ns : List Int), x = .ref l ∧ SqT K H1 l (ns.map V.int) ∧ ns.Nodup ∧ ns.length ≤ 4000 ∧ Q (.int (ns.length : Nat)) H1
theorem pe_lenSetT {X : Cx} {a : Expr} {ta : TE} {p p2 q pos : Pos} (hc : X.calm = true) (hg : Gl X "len") (hm : X.mg "len" = none) (hg2 : Gl X "set") (hm2 : X.mg "set" = none) (ha : PE X a ta)
    (na : starEach [a] X.env = (false, eval a X.env) :: starEach [] X.env := by rfl) : PE X (.Call (.Name "len" p) [.Call (.Name "set" p2) [a] [] q] [] pos) (tLenSetT X.K ta) := by
  refine ⟨fun pins s σ H Q I h => ?_⟩
  refine Call_ (ld_blt I hg hm boot_len (callWith_builtin1 (args_cons ?_ rfl) rfl rfl))
  refine Call_ (ld_blt I hg2 hm2 boot_set (callWith_type1 (args_cons (thn (ha.run pins s σ H _ I h) fun v s1 ⟨x, H1, I1, r1, q1⟩ => args_nil ?_) na) na rfl))
  obtain ⟨l, ns, rfl, hq, hnd, hl, q1⟩ := q1
  cases r1
  obtain ⟨its, r, pl, hz⟩ := I1.tuple hq
  have many : its.toArray.size = ns.length := by rw [List.size_toArray, ← r.length, List.length_map]
  refine setI_of_tuple (I1.ok.hd hc) (show s1.heap.IsTuple l its.toArray from pl) (ns := ns) (by simpa using RZ.intsAre_vals r) (by rw [many]; unfold scanBound; omega) fun g tk so hk => args_nil ?_
  rw [many, RZ.firstMet_nodup hnd ns.length (Nat.le_refl _), List.take_length] at so
  obtain ⟨o, es, ep, t, ho, hex, hd, _, _, _, hf, hn⟩ := so
  have I2 : Inv X pins σ H1 { s1 with heap := g, toks := tk } := I1.kept fun b o e => hk b o e
  exact call_len_set ho hex hd hf (by rw [hn]; omega) ⟨.int ns.length, H1, I2.tok _, ⟨_, by rw [hn]⟩, q1⟩
end FwSI
namespace FwSJ
open PySem PySem.Spec PyProof.Rows L2 FwSI
/-- min of a list of alike data -/
def rMinD (K : PySem.W.Frag) : List V → Hp → VK → Prop := fun vs H Q => ∃ (a : Addr) (xs : List V) (d : PyData) (ds : List PyData) (R : V → PyData → Prop), vs = [.ref a] ∧ SqL K H a xs ∧ Paired R xs (d :: ds) ∧ (∀ x e, R x e → Dp K H x e) ∧ PySem.W.AlikeAll (d :: ds) ∧ PyData.depthAll (d :: ds) ≤ 60 ∧ ∀ v, R v (PySem.W.minD d ds) → Q v H
theorem paired_at {R : V → PyData → Prop} : ∀ {xs : List V} {ds : List PyData} {i : Nat} {x : V}, Paired R xs ds → xs[i]? = some x → ∃ d, ds[i]? = some d ∧ R x d
  | _, _, _, _, .nil, h => by simp at h
  | _, _, 0, _, .cons h _, e => by
    have e' := Option.some.inj e
    subst e'
    exact ⟨_, rfl, h⟩
  | _, _, i + 1, _, .cons _ t, e => paired_at (i := i) t e
theorem dpAll_of {K : PySem.W.Frag} {H : Hp} {R : V → PyData → Prop} (f : ∀ x e, R x e → Dp K H x e) : ∀ {xs : List V} {ds : List PyData}, Paired R xs ds → DpAll K H xs ds
  | _, _, .nil => .nil
  | _, _, .cons h t => .cons (f _ _ h) (dpAll_of f t)
theorem min_in : ∀ (d : PyData) (ds : List PyData), PySem.W.minD d ds ∈ d :: ds
  | d, [] => List.mem_cons_self
  | d, e :: ds => by
    show PySem.W.minD (if PySem.W.dataLt e d then e else d) ds ∈ d :: e :: ds
    have ih := min_in (if PySem.W.dataLt e d then e else d) ds
    rcases List.mem_cons.mp ih with z | z
    · rw [z]
      split
      · exact List.mem_cons_of_mem _ List.mem_cons_self
      · exact List.mem_cons_self
    · exact List.mem_cons_of_mem _ (List.mem_cons_of_mem _ z)
theorem cr_minD {X : Cx} (hu : X.A.units + 64 < cLine) (hc : X.calm = true) : CallR X (.builtin "min") (rMinD X.K) := fun pins s σ H vs us Q I r h => by
  obtain ⟨a, xs, d, ds, R, rfl, hs, hd, hR, al, dp, q⟩ := h
  obtain ⟨u, rfl, ru⟩ := vals1 r
  cases ru
  obtain ⟨its, rv, hl, hz⟩ := I.list hs
  obtain ⟨as, rd⟩ := Dp.readsAll I (d :: ds) xs its (dpAll_of hR hd) rv
  refine PySem.W.min_list_data (I.ok.hd hc) hl.isList (by rw [List.toList_toArray]; exact rd) al (by omega) fun i v h' tk bs hv hr hk => ?_
  have I2 : Inv X pins σ H { s with heap := h', toks := tk } := I.kept hk
  have hv2 : its[i]? = some v := by simpa using hv
  have hi : i < xs.length := by
    have := (List.getElem?_eq_some_iff.mp hv2).1
    rw [rv.length]
    exact this
  obtain ⟨u', hu', ru'⟩ := Vals.get rv (List.getElem?_eq_getElem hi)
  rw [hv2] at hu'
  cases hu'
  obtain ⟨e, he, de⟩ := paired_at hd (List.getElem?_eq_getElem hi)
  obtain ⟨cs, r2⟩ := Dp.reads I2 e _ v (hR _ _ de) ru'
  have same : e = PySem.W.minD d ds := PySem.W.alike_unique _ _ _ _ _ (al.1 _ (List.mem_of_getElem? he) _ (min_in d ds)) r2 hr
  exact ⟨_, H, I2, ru', q _ (same ▸ de)⟩
end FwSJ
namespace Fw
open PySem PySem.Spec PyProof.Rows L2 Evl FwS FwSE FwSI FwSJ
section
variable {K K' : PySem.W.Frag} {p : Option Addr} {env : List Slot} {te tb : TE} {ta : TA} {O : Outs} {Φ : PyData → Prop}
theorem f_sortedE {Ψ : List PyData → Prop} (h : WpA K p ta env fun xs => ∃ ds, xs = [.list (.tuple [] :: ds)] ∧ PySem.W.AllAlike (.tuple [] :: ds) ∧ (∀ d ∈ ds, ∃ ys, d = .tuple ys) ∧ (∀ d ∈ PyData.tuple [] :: ds, d.depth ≤ 60) ∧ PyData.hasDictAll ds = false ∧ Ψ (sortD (.tuple [] :: ds))) (hK : K' = K := by with_unfolding_all rfl) : WpF K p (tCB (rSortE K') ta) env Ψ := fun H0 σ Hk H Q e po en k => by
  subst hK
  refine h H0 σ Hk H _ e po en fun vs xs Hk1 H1 g1 r ⟨ds, ex, al, so, dp, nd, f⟩ => ?_
  subst ex
  cases r with
  | cons r rr =>
    cases rr
    obtain ⟨a, ws, rfl, hL, r⟩ := dp_lst r
    have nd2 : PyData.hasDictAll (.tuple [] :: ds) = false := by
      show ((PyData.tuple []).hasDict || PyData.hasDictAll ds) = false
      rw [nd]
      rfl
    refine ⟨a, ws, ds, Dp K' Hk1, rfl, ex_l g1.kr hL, paired_dp0 (dxAll_dp _ nd2 r), fun x d h => dp_mono0 g1.kr d h, al, so, dp, fun ys q hy hq => ?_⟩
    have hp := pot_ne g1.po hq
    exact k q ys _ Hk1 _ ((Go.trans g1 (Go.refl g1.kr g1.po)).mut (fresh0 g1 hq) hp (fresh_back g1.kr hq)) (fresh0 g1 hq) (fresh_back g1.kr hq) upd_same (dpAll_dx _ (dp_paired0 hy)) f
theorem cb_minD {d : PyData} {ds : List PyData} (al : PySem.W.AlikeAll (d :: ds)) (dp : PyData.depthAll (d :: ds) ≤ 60) (nd : PyData.hasDictAll (d :: ds) = false) (h : Φ (PySem.W.minD d ds)) (hK : K' = K := by with_unfolding_all rfl) : CbD K p (rMinD K') [.list (d :: ds)] Φ := fun vs Hk H Q e po rx k => by
  subst hK
  cases rx with
  | cons rx rr =>
    cases rr
    obtain ⟨a, ws, rfl, hL, r⟩ := dp_lst rx
    refine ⟨a, ws, d, ds, Dp K' Hk, rfl, ex_l e hL, paired_dp0 (dxAll_dp _ nd r), fun x d h => dp_mono0 e d h, al, dp, fun v hv => ?_⟩
    exact k v _ _ _ (Go.refl e po) (dp_dx _ hv) h
/-- list(range(n)): a new list -/
theorem f_listRg {tn : TE} {Ψ : List PyData → Prop} (h : WpE K p tn env fun x => ∃ n : Nat, x = .int n ∧ n ≤ 10000 ∧ Ψ ((List.range n).map fun i => .int (i : Nat))) : WpF K p (tLstRg (tRg1 tn)) env Ψ := fun H0 σ Hk H Q e po en k =>
  h H0 σ Hk H _ e po en fun v x Hk1 H1 g1 rx ⟨n, ex, hn, f⟩ => by
    subst ex
    refine ⟨n, dp_int rx, RgOk.of_le (Int.le_refl _) (by omega) (by omega) (by omega), fun q hq => ?_⟩
    have e1 : rgV 0 n = ((List.range n).map fun i => V.int (i : Nat)) := by
      unfold rgV
      rw [show ((n : Int) - 0).toNat = n by omega]
      exact List.map_congr_left fun i _ => by rw [Int.zero_add]
    have hp := pot_ne g1.po hq
    have all : ∀ l : List Nat, DxAll K Hk1 (l.map fun i => V.int (i : Nat)) (l.map fun i => .int (i : Nat)) := fun l => by
      induction l with
      | nil => exact .nil
      | cons i l ih => exact .cons (.int _) ih
    exact k q _ _ Hk1 _ ((Go.trans g1 (Go.refl g1.kr g1.po)).mut (fresh0 g1 hq) hp (fresh_back g1.kr hq)) (fresh0 g1 hq) (fresh_back g1.kr hq) (by rw [upd_same, e1]) (all _) f
theorem e_lenSetT (h : WpE K p te env fun x => ∃ ns : List Int, x = tupI ns ∧ ns.Nodup ∧ ns.length ≤ 4000 ∧ Φ (.int ns.length)) (hK : K' = K := by with_unfolding_all rfl) : WpE K p (tLenSetT K' te) env Φ := fun H0 σ Hk H Q e po en k => by
  subst hK
  refine h H0 σ Hk H _ e po en fun v x Hk1 H1 g1 rx ⟨ns, ex, nd, hl, f⟩ => ?_
  subst ex
  obtain ⟨a, xs, rfl, hT, r⟩ := dp_tup rx
  have e2 := dpAll_ints r
  subst e2
  exact ⟨a, ns, rfl, ex_t g1.kr hT, nd, hl, k _ _ Hk1 H1 g1 (.int _) f⟩
end
end Fw

namespace FwSJ
open PySem PySem.Spec PyProof.Rows L2
def iOr (w1 w2 : TI) : TI := fun σ H R => w1 σ H R ∨ w2 σ H R
theorem pi_or {X : Cx} {tg e : Expr} {w1 w2 : TI} (h1 : PI X tg e w1) (h2 : PI X tg e w2) : PI X tg e (iOr w1 w2) := ⟨fun pins s σ H R I h => h.elim (fun q => h1.run pins s σ H R I q) (fun q => h2.run pins s σ H R I q)⟩
end FwSJ
namespace Fw
open PySem PySem.Spec PyProof.Rows L2 Evl FwSJ
theorem i_or1 {K : PySem.W.Frag} {p : Option Addr} {env : List Slot} {w1 w2 : TI} {Ψ : List PyData → Prop} (h : WpI K p w1 env Ψ) : WpI K p (iOr w1 w2) env Ψ := fun H0 σ Hk H R e po en k => .inl (h H0 σ Hk H R e po en k)
theorem i_or2 {K : PySem.W.Frag} {p : Option Addr} {env : List Slot} {w1 w2 : TI} {Ψ : List PyData → Prop} (h : WpI K p w2 env Ψ) : WpI K p (iOr w1 w2) env Ψ := fun H0 σ Hk H R e po en k => .inr (h H0 σ Hk H R e po en k)
theorem e_or1 {K : PySem.W.Frag} {p : Option Addr} {env : List Slot} {t1 t2 : TE} {Φ : PyData → Prop} (h : WpE K p t1 env Φ) : WpE K p (FwK.tOr t1 t2) env Φ := fun H0 σ Hk H Q e po en k => .inl (h H0 σ Hk H Q e po en k)
theorem e_or2 {K : PySem.W.Frag} {p : Option Addr} {env : List Slot} {t1 t2 : TE} {Φ : PyData → Prop} (h : WpE K p t2 env Φ) : WpE K p (FwK.tOr t1 t2) env Φ := fun H0 σ Hk H Q e po en k => .inr (h H0 σ Hk H Q e po en k)
/-- two data and an own list between -/
theorem s_par3M {K : PySem.W.Frag} {p : Option Addr} {env : List Slot} {O : Outs} {ta tb tc : TE} {i j l : Nat} (h : WpE K p ta env fun x => WpF K p tb env fun ds => WpE K p tc env fun z => O.nx (((env.set i (.dat x)).set j (.own ds)).set l (.dat z))) : WpS K p (tPar3 i j l (tCons ta (tCons tb (tCons tc tNil)))) env O := fun H0 Hk0 σ Hk H D g en k =>
  h H0 σ Hk H _ g.kr g.po en fun v x Hk1 H1 g1 rx f => f H0 σ Hk1 H1 _ g1.kr g1.po (en.go g1) fun m ws ds Hk2 H2 g2 h0 hk hl r f2 => f2 H0 σ Hk2 H2 _ g2.kr g2.po ((en.go g1).go g2) fun w z Hk3 H3 g3 rz f3 => by
    have pm : p ≠ some m := pot_ne g1.po h0
    have en1 := En.add_own (i := j) ((en.go g1).set (i := i) rx) (((en.go g1).go g2).set (i := i) (dp_mono g2.kk x rx)) (fresh0 (g.trans g1) h0) h0 hl hk pm r
    exact ⟨v, .ref m, w, rfl, k.nx _ _ Hk3 H3 (((g.trans g1).trans g2).trans g3) ((en1.go g3).set rz) f3⟩
end Fw
namespace Fw
open PySem PySem.Spec PyProof.Rows L2 Evl
theorem f_callS1 {K : PySem.W.Frag} {p : Option Addr} {env : List Slot} {Ψ : List PyData → Prop} {pre : List PyData → (List PyData → Prop) → Prop} {E : XK} {tk : TA} (h : WpA K p tk env fun ds => pre ds Ψ) : WpF K p (tCallK (SpN K pre) (onlyK same1) E tNil tk) env Ψ := fun H0 σ Hk H Q e po en k =>
  h H0 σ Hk H _ e po en fun vs ds Hk1 H1 g1 r f => ⟨Hk1, ds, Ψ, g1.kr, r, f, fun l ws es Hk' H' g h0 hk hl rr f' => k l ws es Hk' H' (g1.trans (g.lift g1.po)) (fresh0 g1 h0) hk hl rr f'⟩
end Fw
namespace Fw
open PySem PySem.Spec PyProof.Rows L2 Evl FwWd
variable {K K' : PySem.W.Frag} {p : Option Addr} {env : List Slot}
theorem wt_mono {tt : TT} {A B : Bool → Prop} (h : WpT K p tt env A) (f : ∀ b, A b → B b) : WpT K p tt env B := fun H0 σ Hk H R e po en k => h H0 σ Hk H R e po en fun b Hk' H' g q => k b Hk' H' g (f b q)
theorem wi_mono {wi : TI} {A B : List PyData → Prop} (h : WpI K p wi env A) (f : ∀ b, A b → B b) : WpI K p wi env B := fun H0 σ Hk H R e po en k => h H0 σ Hk H R e po en fun J xs Hk' H' g it q => k J xs Hk' H' g it (f xs q)
theorem wg_mono {g : TG} {js : List Nat} {x : PyData} {A B : List Slot → Prop} (h : WpG K p js g x env A) (f : ∀ b, A b → B b) : WpG K p js g x env B := fun H0 σ Hk H v Q e po en r k => h H0 σ Hk H v Q e po en r fun σ' env' en' same q => k σ' env' en' same (f env' q)
theorem f_flt0 {α : Type} {wi : TI} {g : TG} {tt : TT} {te : TE} {vs js : List Nat} {Φ : List PyData → Prop} (D : α → PyData) (T : α → Bool) (E : α → PyData) (hs : ∀ j ∈ js, j ∈ vs) (h : WpI K p wi env fun xs => ∃ as : List α, xs = as.map D ∧ as.length ≤ 100000 ∧ (∀ a ∈ as, WpG K p js g (D a) (wipeE env vs) fun env2 => WpT K p tt env2 fun b => b = T a ∧ (T a = true → WpE K p te env2 (fun y => y = E a))) ∧ Φ ((as.filter T).map E)) : WpF K p (tLc wi g tt te vs) env Φ :=
  f_lc hs (wi_mono h fun xs ⟨as, e, hz, st, q⟩ => ⟨by rw [e, List.length_map]; exact hz, fun i acc => acc = ((as.take i).filter T).map E, rfl, fun i x acc hx inv _ => by
    rw [e, List.getElem?_map] at hx
    obtain ⟨a, ha, rfl⟩ := Option.map_eq_some_iff.mp hx
    refine wg_mono (st a (List.mem_of_getElem? ha)) fun env2 f => wt_mono f fun b ⟨hb, f⟩ => ?_
    rw [hb]
    have key : (((as.take (i + 1)).filter T).map E) = acc ++ (if T a = true then [E a] else []) := by
      rw [List.take_add_one, ha, inv, List.filter_append, List.map_append]
      congr 1
      show List.map E (List.filter T [a]) = _
      rw [List.filter_cons, List.filter_nil]
      split <;> rfl
    split
    · rename_i ht
      refine (f ht).mono fun y hy => ?_
      show acc ++ [y] = _
      rw [key, if_pos ht, hy]
    · rename_i ht
      show acc = _
      rw [key, if_neg ht, List.append_nil], fun acc _ inv => by
    rw [e, List.length_map, List.take_length] at inv
    rw [inv]
    exact q⟩)
theorem f_flt20 {α β : Type} {wi wi1 : TI} {g g1 : TG} {tt tt1 : TT} {te : TE} {vs vs1 js js1 : List Nat} {Φ : List PyData → Prop} (D1 : α → PyData) (bs : α → List β) (D2 : β → PyData) (T2 : α → β → Bool) (E : α → β → PyData) (hs : ∀ j ∈ js, j ∈ vs) (hs1 : ∀ j ∈ js1, j ∈ vs1)
    (h : WpI K p wi env fun xs => ∃ as : List α, xs = as.map D1 ∧ as.length ≤ 100 ∧ (∀ a ∈ as, WpG K p js g (D1 a) (wipeE env vs) fun env2 => Calm env2 ∧ WpT K p tt env2 fun b => b = true ∧ WpI K p wi1 env2 fun ys => ys = (bs a).map D2 ∧ (bs a).length ≤ 100 ∧ ∀ b ∈ bs a, WpG K p js1 g1 (D2 b) (wipeE env2 vs1) fun env3 => WpT K p tt1 env3 fun c => c = T2 a b ∧ (T2 a b = true → WpE K p te env3 (fun z => z = E a b))) ∧ Φ (as.flatMap fun a => ((bs a).filter (T2 a)).map (E a))) : WpF K p (tLc2 wi g tt wi1 g1 tt1 te vs vs1) env Φ :=
  f_lc2 hs hs1 (wi_mono h fun xs ⟨as, e, hz, st, q⟩ => ⟨by rw [e, List.length_map]; exact hz, fun i acc => acc = (as.take i).flatMap fun a => ((bs a).filter (T2 a)).map (E a), rfl, fun i x acc hx inv _ => by
    rw [e, List.getElem?_map] at hx
    obtain ⟨a, ha, rfl⟩ := Option.map_eq_some_iff.mp hx
    refine wg_mono (st a (List.mem_of_getElem? ha)) fun env2 ⟨calm, f⟩ => ⟨calm, wt_mono f fun b ⟨hb, f⟩ => ?_⟩
    rw [if_pos hb]
    refine wi_mono f fun ys ⟨ey, hy, f⟩ => ⟨by rw [ey, List.length_map]; exact hy, fun j acc2 => acc2 = acc ++ (((bs a).take j).filter (T2 a)).map (E a), by simp, fun j y acc2 hy2 inv2 => ?_, fun acc2 inv2 => ?_⟩
    · rw [ey, List.getElem?_map] at hy2
      obtain ⟨b, hb2, rfl⟩ := Option.map_eq_some_iff.mp hy2
      refine wg_mono (f b (List.mem_of_getElem? hb2)) fun env3 f => wt_mono f fun c ⟨hc, f⟩ => ?_
      rw [hc]
      have key : acc ++ ((((bs a).take (j + 1)).filter (T2 a)).map (E a)) = acc2 ++ (if T2 a b = true then [E a b] else []) := by
        rw [List.take_add_one, hb2, inv2, List.filter_append, List.map_append, List.append_assoc]
        congr 2
        show List.map (E a) (List.filter (T2 a) [b]) = _
        rw [List.filter_cons, List.filter_nil]
        split <;> rfl
      split
      · rename_i ht
        refine (f ht).mono fun y hy => ?_
        show acc2 ++ [y] = _
        rw [key, if_pos ht, hy]
      · rename_i ht
        show acc2 = _
        rw [key, if_neg ht, List.append_nil]
    · rw [ey, List.length_map, List.take_length] at inv2
      rw [inv2, inv, List.take_add_one, ha, List.flatMap_append]
      simp, fun acc inv => by
    rw [e, List.length_map, List.take_length] at inv
    rw [inv]
    exact q⟩)
abbrev FltI {α : Type} (K : PySem.W.Frag) (p : Option Addr) (g : TG) (tt : TT) (te : TE) (vs js : List Nat) (env : List Slot) (D : α → PyData) (T : α → Bool) (E : α → PyData) (Φ : List PyData → Prop) (xs : List PyData) : Prop := ∃ as : List α, xs = as.map D ∧ as.length ≤ 100000 ∧ (∀ a ∈ as, WpG K p js g (D a) (wipeE env vs) fun env2 => WpT K p tt env2 fun b => b = T a ∧ (T a = true → WpE K p te env2 (fun y => y = E a))) ∧ Φ ((as.filter T).map E)
theorem f_flt {α : Type} {wi : TI} {g : TG} {tt : TT} {te : TE} {vs js : List Nat} {Φ : List PyData → Prop} (D : α → PyData) (T : α → Bool) (E : α → PyData) (h : WpI K p wi env (FltI K p g tt te vs js env D T E Φ)) (hs : ∀ j ∈ js, j ∈ vs := by decide) : WpF K p (tLc wi g tt te vs) env Φ := f_flt0 D T E hs h
theorem e_flt {α : Type} {wi : TI} {g : TG} {tt : TT} {te : TE} {vs js : List Nat} {Φ : PyData → Prop} (D : α → PyData) (T : α → Bool) (E : α → PyData) (h : WpI K p wi env (FltI K p g tt te vs js env D T E fun z => Φ (.list z))) (hs : ∀ j ∈ js, j ∈ vs := by decide) : WpE K p (tLc wi g tt te vs) env Φ := e_new (f_flt0 D T E hs h)
abbrev MapI {α : Type} (K : PySem.W.Frag) (p : Option Addr) (g : TG) (te : TE) (vs js : List Nat) (env : List Slot) (D : α → PyData) (E : α → PyData) (Φ : List PyData → Prop) (xs : List PyData) : Prop := ∃ as : List α, xs = as.map D ∧ as.length ≤ 100000 ∧ (∀ a ∈ as, WpG K p js g (D a) (wipeE env vs) fun env2 => WpE K p te env2 (fun y => y = E a)) ∧ Φ (as.map E)
theorem f_mapA {α : Type} {wi : TI} {g : TG} {te : TE} {vs js : List Nat} {Φ : List PyData → Prop} (D : α → PyData) (E : α → PyData) (h : WpI K p wi env (MapI K p g te vs js env D E Φ)) (hs : ∀ j ∈ js, j ∈ vs := by decide) : WpF K p (tLc wi g tYes te vs) env Φ :=
  f_flt0 D (fun _ => true) E hs (wi_mono h fun xs ⟨as, e, l, st, q⟩ => ⟨as, e, l, fun a ha => wg_mono (st a ha) fun env2 f => t_yes ⟨rfl, fun _ => f⟩, by rw [List.filter_eq_self.mpr (fun _ _ => rfl)]; exact q⟩)
theorem e_mapA {α : Type} {wi : TI} {g : TG} {te : TE} {vs js : List Nat} {Φ : PyData → Prop} (D : α → PyData) (E : α → PyData) (h : WpI K p wi env (MapI K p g te vs js env D E fun z => Φ (.list z))) (hs : ∀ j ∈ js, j ∈ vs := by decide) : WpE K p (tLc wi g tYes te vs) env Φ := e_new (f_mapA D E h hs)
abbrev Flt2 {α β : Type} (K : PySem.W.Frag) (p : Option Addr) (g : TG) (tt : TT) (wi1 : TI) (g1 : TG) (tt1 : TT) (te : TE) (vs vs1 js js1 : List Nat) (env : List Slot) (D1 : α → PyData) (bs : α → List β) (D2 : β → PyData) (T2 : α → β → Bool) (E : α → β → PyData) (Φ : List PyData → Prop) (xs : List PyData) : Prop := ∃ as : List α, xs = as.map D1 ∧ as.length ≤ 100 ∧ (∀ a ∈ as, WpG K p js g (D1 a) (wipeE env vs) fun env2 => Calm env2 ∧ WpT K p tt env2 fun b => b = true ∧ WpI K p wi1 env2 fun ys => ys = (bs a).map D2 ∧ (bs a).length ≤ 100 ∧ ∀ b ∈ bs a, WpG K p js1 g1 (D2 b) (wipeE env2 vs1) fun env3 => WpT K p tt1 env3 fun c => c = T2 a b ∧ (T2 a b = true → WpE K p te env3 (fun z => z = E a b))) ∧ Φ (as.flatMap fun a => ((bs a).filter (T2 a)).map (E a))
theorem f_flt2 {α β : Type} {wi wi1 : TI} {g g1 : TG} {tt tt1 : TT} {te : TE} {vs vs1 js js1 : List Nat} {Φ : List PyData → Prop} (D1 : α → PyData) (bs : α → List β) (D2 : β → PyData) (T2 : α → β → Bool) (E : α → β → PyData) (h : WpI K p wi env (Flt2 K p g tt wi1 g1 tt1 te vs vs1 js js1 env D1 bs D2 T2 E Φ)) (hs : ∀ j ∈ js, j ∈ vs := by decide) (hs1 : ∀ j ∈ js1, j ∈ vs1 := by decide) : WpF K p (tLc2 wi g tt wi1 g1 tt1 te vs vs1) env Φ := f_flt20 D1 bs D2 T2 E hs hs1 h
theorem e_flt2 {α β : Type} {wi wi1 : TI} {g g1 : TG} {tt tt1 : TT} {te : TE} {vs vs1 js js1 : List Nat} {Φ : PyData → Prop} (D1 : α → PyData) (bs : α → List β) (D2 : β → PyData) (T2 : α → β → Bool) (E : α → β → PyData) (h : WpI K p wi env (Flt2 K p g tt wi1 g1 tt1 te vs vs1 js js1 env D1 bs D2 T2 E fun z => Φ (.list z))) (hs : ∀ j ∈ js, j ∈ vs := by decide) (hs1 : ∀ j ∈ js1, j ∈ vs1 := by decide) : WpE K p (tLc2 wi g tt wi1 g1 tt1 te vs vs1) env Φ := e_new (f_flt20 D1 bs D2 T2 E hs hs1 h)
theorem any_bool {α : Type} (as : List α) (f : α → Bool) : (as.map f).any id = as.any f := by rw [List.any_map]; rfl
theorem all_bool {α : Type} (as : List α) (f : α → Bool) : (as.map f).all id = as.all f := by rw [List.all_map]; rfl
theorem cb_anyF {α : Type} {as : List α} {f : α → Bool} {Φ : PyData → Prop} (h : Φ (.bool (as.any f))) (hK : K' = K := by with_unfolding_all rfl) : CbD K p (rAny K') [.list (as.map fun a => .bool (f a))] Φ := cb_any_ (as.map f) (by rw [List.map_map]; rfl) (by rw [any_bool]; exact h) hK
theorem cb_allF {α : Type} {as : List α} {f : α → Bool} {Φ : PyData → Prop} (h : Φ (.bool (as.all f))) (hK : K' = K := by with_unfolding_all rfl) : CbD K p (rAll K') [.list (as.map fun a => .bool (f a))] Φ := cb_all_ (as.map f) (by rw [List.map_map]; rfl) (by rw [all_bool]; exact h) hK
theorem calm_of (h : env.all (fun s => match s with | .own _ => false | .mov _ => false | .big _ => false | _ => true) = true) : Calm env := by
  rw [List.all_eq_true] at h
  refine ⟨fun m ds z => ?_, fun m S z => ?_, fun m B z => ?_⟩
  · exact absurd (h _ (List.mem_of_getElem? z)) (by simp)
  · exact absurd (h _ (List.mem_of_getElem? z)) (by simp)
  · exact absurd (h _ (List.mem_of_getElem? z)) (by simp)
end Fw
namespace Fw
open PySem PySem.Spec PyProof.Rows L2 Evl FwWd
abbrev tTruK (K : PySem.W.Frag) (ta : TE) : TT := fun σ H Q => ta σ H fun x H' => ∃ k, TruV K x H' k ∧ Q k H'
theorem pt_truK {X : Cx} {K : PySem.W.Frag} {a : Expr} {ta : TE} (h : PE X a ta) (w : ∀ (whole : Sem Value), PySem.isTrue a X.env whole = do
          let v ← whole
          standAt a.pos
          holding [v] (truthy v)) (hK : X.K = K) : PT X a (tTruK K ta) := by
  subst hK
  exact pt_truth h w
end Fw
namespace Fw
open PySem PySem.Spec PyProof.Rows L2 Evl FwWd
theorem s_tup3M {K K' : PySem.W.Frag} {p : Option Addr} {env : List Slot} {O : Outs} {ta tb tc : TE} {i j l : Nat} (h : WpE K p ta env fun x => WpF K p tb env fun ds => WpE K p tc env fun z => O.nx (((env.set i (.dat x)).set j (.own ds)).set l (.dat z))) (hK : K' = K := by with_unfolding_all rfl) : WpS K p (tAsg (tTup (tCons ta (tCons tb (tCons tc tNil)))) (gTup K' 3 (gCons (gName i) (gCons (gName j) (gCons (gName l) gNil))))) env O := fun H0 Hk0 σ Hk H D g en k =>
  h H0 σ Hk H _ g.kr g.po en fun v x Hk1 H1 g1 rx f => f H0 σ Hk1 H1 _ g1.kr g1.po (en.go g1) fun m ws ds Hk2 H2 g2 h0 hk hl r f2 => f2 H0 σ Hk2 H2 _ g2.kr g2.po ((en.go g1).go g2) fun w z Hk3 H3 g3 rz f3 => by
    subst hK
    have pm : p ≠ some m := pot_ne g1.po h0
    have en1 := En.add_own (i := j) ((en.go g1).set (i := i) rx) (((en.go g1).go g2).set (i := i) (dp_mono g2.kk x rx)) (fresh0 (g.trans g1) h0) h0 hl hk pm r
    refine ⟨sz_of (show 3 ≤ 100000 by decide), fun q hq => ⟨q, [v, .ref m, w], rfl, SqT.of upd_same, rfl, ⟨v, _, rfl, ⟨_, _, rfl, ⟨_, _, rfl, ⟨rfl, ?_⟩⟩⟩⟩⟩⟩
    have gN := Go.new (o := .tup [v, .ref m, w]) g3.kr g3.po hq
    exact k.nx _ _ _ _ ((((g.trans g1).trans g2).trans g3).trans gN) (((en1.go g3).set rz).go gN) f3
end Fw
namespace Fw
open PySem PySem.Spec PyProof.Rows L2 Evl FwWd
theorem s_parM2 {K : PySem.W.Frag} {p : Option Addr} {env : List Slot} {O : Outs} {tb tc : TE} {j l : Nat} (h : WpF K p tb env fun ds => WpE K p tc env fun z => O.nx ((env.set j (.own ds)).set l (.dat z))) : WpS K p (tPar j l (tCons tb (tCons tc tNil))) env O := fun H0 Hk0 σ Hk H D g en k =>
  h H0 σ Hk H _ g.kr g.po en fun m ws ds Hk2 H2 g2 h0 hk hl r f2 => f2 H0 σ Hk2 H2 _ g2.kr g2.po (en.go g2) fun w z Hk3 H3 g3 rz f3 => by
    have pm : p ≠ some m := pot_ne g.po h0
    have en1 := En.add_own (i := j) en (en.go g2) (fresh0 g h0) h0 hl hk pm r
    exact ⟨.ref m, w, rfl, k.nx _ _ Hk3 H3 ((g.trans g2).trans g3) ((en1.go g3).set rz) f3⟩
end Fw
namespace Fw
open PySem PySem.Spec PyProof.Rows L2 Evl FwWd
abbrev rTupOf (K : PySem.W.Frag) : List V → Hp → VK → Prop := fun xs H Q => ∃ p ys, xs = [V.ref p] ∧ ((SqL K H p ys ∧ ∀ (l : Addr), H l = none → Q (V.ref l) (upd H l (HO.tup ys))) ∨ SqT K H p ys ∧ Q (V.ref p) H)
end Fw
/-! objects of the program that are never changed once made: data -/
namespace Fw
open PySem PySem.Spec PyProof.Rows L2 Evl
def obD (C : Addr) (xs : List Str) (es : List PyData) : PyData := .dict ((.none, .int (C : Nat)) :: (xs.zip es).map fun q => (.str q.1, q.2))
theorem zip_inj : ∀ {xs ys : List Str} {es fs : List PyData}, xs.length = es.length → ys.length = fs.length → (xs.zip es).map (fun q => (PyData.str q.1, q.2)) = (ys.zip fs).map (fun q => (PyData.str q.1, q.2)) → xs = ys ∧ es = fs
  | [], [], [], [], _, _, _ => ⟨rfl, rfl⟩
  | [], _ :: _, [], _ :: _, _, _, h => by simp at h
  | _ :: _, [], _ :: _, [], _, _, h => by simp at h
  | x :: xs, y :: ys, e :: es, f :: fs, h1, h2, h => by
    simp only [List.zip_cons_cons, List.map_cons, List.cons.injEq, Prod.mk.injEq, PyData.str.injEq] at h
    obtain ⟨⟨rfl, rfl⟩, h⟩ := h
    obtain ⟨rfl, rfl⟩ := zip_inj (Nat.succ.inj h1) (Nat.succ.inj h2) h
    exact ⟨rfl, rfl⟩
variable {K K' : PySem.W.Frag} {p : Option Addr} {env : List Slot} {Φ : PyData → Prop} {te tv : TE} {O : Outs}
theorem dx_obj {H : Hp} {v : V} {C : Addr} {xs : List Str} {es : List PyData} (hl : xs.length = es.length) (h : Dx K H v (obD C xs es)) : ∃ l dx vs, v = .ref l ∧ H l = some (.ins C dx (xs.zip vs)) ∧ DxAll K H vs es := by
  generalize hd : obD C xs es = d at h
  unfold obD at hd
  cases h with
  | obj h n r =>
    simp only [PyData.dict.injEq, List.cons.injEq, Prod.mk.injEq, true_and, PyData.int.injEq] at hd
    obtain ⟨hc, hz⟩ := hd
    obtain ⟨rfl, rfl⟩ := zip_inj hl n hz
    have hc2 := Int.ofNat.inj hc
    subst hc2
    exact ⟨_, _, _, rfl, h, r⟩
  | @dct _ ks vs es' h ne n r =>
    exfalso
    cases ks with
    | nil => exact ne rfl
    | cons k ks =>
      cases r with
      | nil => cases n
      | cons _ r =>
        rw [List.zip_cons_cons] at hd
        simp only [PyData.dict.injEq, List.cons.injEq, Prod.mk.injEq] at hd
        obtain ⟨⟨hk, _⟩, _⟩ := hd
        rw [List.zip_cons_cons] at h
        obtain ⟨o, es2, ep, xs2, _, _, _, _, _, _, _, e8⟩ := h
        cases e8 with
        | cons h8 _ =>
          have := h8.1
          rw [← hk] at this
          cases this
  | _ => cases hd
theorem obj_dx {H : Hp} {l C dx : Addr} {xs : List Str} {vs : List V} {es : List PyData} (h : H l = some (.ins C dx (xs.zip vs))) (n : xs.length = es.length) (r : DxAll K H vs es) : Dx K H (.ref l) (obD C xs es) := .obj h n r
theorem look_obj {H : Hp} {f : Str} : ∀ {xs : List Str} {vs : List V} {es : List PyData} {d : PyData}, DxAll K H vs es → (xs.zip es).lookup f = some d → ∃ v, (xs.zip vs).lookup f = some v ∧ Dx K H v d
  | [], _, _, _, _, h => by simp at h
  | x :: xs, _, _, d, .nil, h => by simp at h
  | x :: xs, _, _, d, .cons (v := v) (e := e) r rs, h => by
    rw [List.zip_cons_cons, List.lookup_cons] at h ⊢
    cases hb : f == x with
    | true =>
      rw [hb] at h
      cases h
      exact ⟨v, rfl, r⟩
    | false =>
      rw [hb] at h
      exact look_obj rs h
theorem e_fld {f : Str} (h : WpE K p te env fun x => ∃ (C : Addr) (xs : List Str) (es : List PyData) (d : PyData), x = obD C xs es ∧ xs.length = es.length ∧ Cls K C ∧ NoAttr K C f ∧ (xs.zip es).lookup f = some d ∧ Φ d) (hK : K' = K := by with_unfolding_all rfl) : WpE K p (tFld K' te f) env Φ := fun H0 σ Hk H Q e po en k => by
  subst hK
  refine h H0 σ Hk H _ e po en fun v x Hk1 H1 g1 rx ⟨C, xs, es, d, ex, hl, c, na, lk, q⟩ => ?_
  subst ex
  obtain ⟨l, dx, vs, rfl, hi, r⟩ := dx_obj hl rx
  obtain ⟨v2, lv, rv⟩ := look_obj r lk
  exact ⟨l, C, dx, _, v2, rfl, g1.kr _ _ hi, c, na, lv, k v2 d Hk1 H1 g1 rv q⟩
/-- an object that is being made -/
def insM (K : PySem.W.Frag) (me C : Addr) (xs : List Str) (es : List PyData) : Mov := ⟨fun Hk l o => l = me ∧ ∃ dx vs, o = .ins C dx (xs.zip vs) ∧ xs.length = es.length ∧ DxAll K Hk vs es,
  fun Hk Hk' l o x ⟨h0, dx, vs, h1, h2, h3⟩ => ⟨h0, dx, vs, h1, h2, dpAll_mono x es h3⟩, fun Hk l o ⟨_, dx, vs, h1, _, _⟩ vs2 e => by rw [h1] at e; cases e⟩
theorem putF_new : ∀ {xs : List Str} {vs : List V} {f : Str} {y : V}, xs.length = vs.length → f ∉ xs → putF f y (xs.zip vs) = (xs ++ [f]).zip (vs ++ [y])
  | [], [], _, _, _, _ => rfl
  | x :: xs, v :: vs, f, y, h, n => by
    have n1 : ¬ x = f := fun z => n (z ▸ List.mem_cons_self)
    show putF f y ((x, v) :: xs.zip vs) = (x, v) :: ((xs ++ [f]).zip (vs ++ [y]))
    rw [← putF_new (Nat.succ.inj h) fun z => n (List.mem_cons_of_mem _ z)]
    show (if x = f then _ else _) = _
    rw [if_neg n1]
end Fw
namespace Fw
open PySem PySem.Spec PyProof.Rows L2 Evl
variable {K K' : PySem.W.Frag} {p : Option Addr} {env : List Slot} {Φ : PyData → Prop} {te tv : TE} {O : Outs}
/-- self.f = value, in the making -/
theorem s_fldM {i : Nat} {f : Str} {me C : Addr} {xs : List Str} {es : List PyData} (hi : env[i]? = some (.mov (insM K me C xs es))) (one : OneMov env i) (h : WpE K p tv env fun d => Cls K C ∧ NoAttr K C f ∧ f ∉ xs ∧ xs.length < 900 ∧ O.nx (env.set i (.mov (insM K me C (xs ++ [f]) (es ++ [d]))))) (hK : K' = K := by with_unfolding_all rfl) : WpS K p (sFld K' (tVar i) tv f) env O := fun H0 Hk0 σ Hk H D g en k => by
  subst hK
  refine h H0 σ Hk H _ g.kr g.po en fun y d Hk1 H1 g1 ry ⟨c, na, nf, hx, q⟩ => ?_
  obtain ⟨ov, hs, l, o, rfl, h0, hk, hp, hl, rfl, dx, vs, rfl, hn, r⟩ := (en.go g1).slot i _ hi
  have hv := dpAll_len r
  refine ⟨.ref l, hs, l, C, dx, _, rfl, hl, c, na, ?_, ?_⟩
  · rw [List.length_zip]
    omega
  · rw [putF_new (by omega) nf]
    refine k.nx _ _ Hk1 _ ((g.trans g1).mut h0 hp hk) (En.put_mov (T := insM _ _ C (xs ++ [f]) (es ++ [d])) (en.go g1) one hi hs ⟨rfl, dx, vs ++ [y], rfl, ?_, dpAll_app r (.cons ry .nil)⟩) q
    rw [List.length_append, List.length_append, hn]
    rfl
/-- a field of the object in the making -/
theorem e_fldM {i : Nat} {f : Str} {me C : Addr} {xs : List Str} {es : List PyData} {d : PyData} (hi : env[i]? = some (.mov (insM K me C xs es))) (c : Cls K C) (na : NoAttr K C f) (lk : (xs.zip es).lookup f = some d) (q : Φ d) (hK : K' = K := by with_unfolding_all rfl) : WpE K p (tFld K' (tVar i) f) env Φ := fun H0 σ Hk H Q e po en k => by
  subst hK
  obtain ⟨ov, hs, l, o, rfl, h0, hk, hp, hl, rfl, dx, vs, rfl, hn, r⟩ := en.slot i _ hi
  obtain ⟨v, lv, rv⟩ := look_obj r lk
  exact ⟨.ref l, hs, l, C, dx, _, v, rfl, hl, c, na, lv, k v d Hk H (Go.refl e po) rv q⟩
/-- what __init__ promises: an object with these fields -/
def SpI (K : PySem.W.Frag) (pre : Addr → List PyData → (List Str → List PyData → Prop) → Prop) : Sp := fun vs H Q _ => ∃ (l C dx : Addr) (rest : List V) (Hk : Hp) (ds : List PyData) (Φ : List Str → List PyData → Prop), vs = .ref l :: rest ∧ H l = some (.ins C dx []) ∧ Hk l = none ∧ Ex Hk (del H l) ∧ DxAll K Hk rest ds ∧ pre C ds Φ ∧
  ∀ xs ws es dx' Hk' H', Go none Hk (del H l) Hk' H' → Hk' l = none → H' l = some (.ins C dx' (xs.zip ws)) → xs.length = es.length → DxAll K Hk' ws es → Φ xs es → Q .non H'
theorem lenI {pre : Addr → List PyData → (List Str → List PyData → Prop) → Prop} {n : Nat} (h : ∀ C ds Φ, pre C ds Φ → ds.length = n) {vs : List V} {H : Hp} {Q : VK} {E : XK} (s : SpI K pre vs H Q E) : vs.length = n + 1 := by
  obtain ⟨l, C, dx, rest, Hk, ds, Φ, rfl, _, _, _, r, f, _⟩ := s
  rw [List.length_cons, dpAll_len r, h C ds Φ f]
theorem bodyI {pre : Addr → List PyData → (List Str → List PyData → Prop) → Prop} {N : List Str} {ts : TS} {vs : List V} {H : Hp} {Q : VK} {E : XK} (s : SpI K pre vs H Q E)
    (h : ∀ me C ds Φ, pre C ds Φ → WpS K none ts (.mov (insM K me C [] []) :: (ds.map .dat ++ List.replicate (N.length - (ds.length + 1)) .no)) ⟨fun e => ∃ xs es, e[0]? = some (.mov (insM K me C xs es)) ∧ Φ xs es, fun _ => False, fun _ => False, fun _ => False, fun _ => False⟩) : ts { nx := fun _ H' => Q .non H', rt := Q } (L2.start N vs) H := by
  obtain ⟨l, C, dx, rest, Hk, ds, Φ, rfl, hl, hk, e, r, f, k⟩ := s
  have d0 : del H l l = none := by unfold del; simp
  have eH : Ex Hk H := fun a o ha => by
    have h1 := e a o ha
    by_cases z : a = l
    · subst z
      rw [d0] at h1
      cases h1
    · rwa [del_ne z] at h1
  have en0 : En K none (del H l) Hk H (L2.start N (.non :: rest)) (PyData.none :: ds |>.map .dat |> (· ++ List.replicate (N.length - (PyData.none :: ds).length) .no)) := en_start N (.cons .non r)
  have en00 : En K none (del H l) Hk (del H l) (L2.start N (.non :: rest)) (PyData.none :: ds |>.map .dat |> (· ++ List.replicate (N.length - (PyData.none :: ds).length) .no)) := en_start N (.cons .non r)
  have en1 := En.set_mov (i := 0) (S := insM K l C [] []) en00 en0 d0 d0 hl hk (fun z => nomatch z) ⟨rfl, dx, [], rfl, rfl, .nil⟩
  have g0 : Go none Hk (del H l) Hk H := ⟨Ex.refl _, eH, fun a o _ ha => by
    by_cases z : a = l
    · subst z
      rw [d0] at ha
      cases ha
    · rwa [del_ne z] at ha, fun _ _ z => z, True.intro⟩
  refine h l C ds Φ f (del H l) Hk _ Hk H _ g0 en1 ⟨fun e2 σ2 Hk2 H2 g2 en2 ⟨xs, es, he, q⟩ => ?_, fun _ _ _ _ _ _ z => z.elim, fun _ _ _ _ _ _ z => z.elim, fun _ _ _ _ _ _ z => z.elim, fun _ _ _ _ _ _ _ _ _ _ z => z.elim⟩
  obtain ⟨ov, _, l2, o, rfl, h0, hk2, hp2, hl2, rfl, dx2, ws, rfl, hn, r2⟩ := en2.slot 0 _ he
  exact k xs ws es dx2 Hk2 H2 g2 hk2 hl2 hn r2 q
/-- an object is made: data from then on -/
theorem e_make {pre : Addr → List PyData → (List Str → List PyData → Prop) → Prop} {C : Addr} {E : XK} {ta : TA} (h : WpA K p ta env fun ds => pre C ds fun xs es => xs.length = es.length → Φ (obD C xs es)) : WpE K p (tMake C (SpI K pre) [] E ta) env Φ := fun H0 σ Hk H Q e po en k =>
  h H0 σ Hk H _ e po en fun vs ds Hk1 H1 g1 r f x dx hx hdx hne => by
    have e0 : H1 dx = none := hdx
    have px : p ≠ some x := pot_ne g1.po hx
    have pd : p ≠ some dx := pot_ne g1.po hdx
    have kx : Hk1 x = none := fresh_back g1.kr hx
    have kd : Hk1 dx = none := fresh_back g1.kr hdx
    have eqd : del (upd (upd H1 dx (.own x)) x (.ins C dx [])) x = upd H1 dx (.own x) := by
      funext a
      by_cases z : a = x
      · subst z
        rw [del_same, upd_ne (Ne.symm hne), hx]
      · rw [del_ne z, upd_ne z]
    have gA : Go p Hk H Hk1 (upd H1 dx (.own x)) := (g1.trans (Go.refl g1.kr g1.po)).mut (fresh0 g1 hdx) pd kd
    refine ⟨x, C, dx, vs ++ [], Hk1, ds, _, rfl, upd_same, kx, ?_, by rw [List.append_nil]; exact r, f, ?_⟩
    · rw [eqd]
      exact gA.kr
    · intro xs ws es dx' Hk' H' g hk' hl hn rr q
      rw [eqd] at g
      refine ⟨rfl, ?_⟩
      have hxA : (upd H1 dx (.own x)) x = none := by rw [upd_ne (Ne.symm hne)]; exact hx
      have gB := gA.trans (g.lift gA.po)
      have gC := gB.pub (fresh0 g1 hx) px hk' hl
      exact k (.ref x) _ _ H' gC (obj_dx (vs := ws) upd_same hn (dpAll_mono (Ex.new hk') es rr)) (q hn)
theorem look_not {m : Str} : ∀ {xs : List Str} {vs : List V}, m ∉ xs → (xs.zip vs).lookup m = none
  | [], _, _ => rfl
  | _ :: _, [], _ => rfl
  | x :: xs, v :: vs, h => by
    rw [List.zip_cons_cons, List.lookup_cons]
    have e : (m == x) = false := by
      rw [beq_eq_false_iff_ne]
      exact fun z => h (z ▸ List.mem_cons_self)
    rw [e]
    exact look_not fun z => h (List.mem_cons_of_mem _ z)
/-- a method, its object handed on as data -/
theorem e_meth {pre : List PyData → (PyData → Prop) → Prop} {C : Addr} {m : Str} {E : XK} {ta : TA} (h : WpE K p te env fun x => ∃ (xs : List Str) (es : List PyData), x = obD C xs es ∧ xs.length = es.length ∧ m ∉ xs ∧ WpA K p ta env fun ds => pre (x :: ds) Φ) : WpE K p (tMeth C m (SpF K pre) [] E te ta) env Φ := fun H0 σ Hk H Q e po en k => by
  refine h H0 σ Hk H _ e po en fun v x Hk1 H1 g1 rx ⟨xs, es, ex, hl, hm, f⟩ => ?_
  have rx0 := rx
  rw [ex] at rx0
  obtain ⟨l, dx, vs, rfl, hi, r⟩ := dx_obj hl rx0
  refine ⟨l, dx, _, rfl, g1.kr _ _ hi, look_not hm, ?_⟩
  refine f H0 σ Hk1 H1 _ g1.kr g1.po (en.go g1) fun us ds Hk2 H2 g2 r2 q => ?_
  rw [List.append_nil]
  exact ⟨Hk2, x :: ds, Φ, g2.kr, .cons (dp_mono g2.kk _ rx) r2, q, fun w d Hk3 H3 g3 r3 f3 => k w d Hk3 H3 (((g1.trans g2).trans (g3.lift g2.po))) r3 f3⟩
end Fw
/-! classes of the module: making, methods, by name -/
namespace Fw
open PySem PySem.Spec PyProof.Rows L2 Evl
/-- a method's def: x.m of the class -/
abbrev FnM (K : PySem.W.Frag) (m q : Str) (st : Stmt) (f : Addr) (fd : FuncData) : Prop := FunD K m q (defArgs st) (defBody st) (defScope st) [] [] f fd
section
variable (P : Program) (w : World) (K : PySem.W.Frag) (mg : Str → Option Value) (base : Heap)
def HasI (C : Addr) (x : Str) (ps : List Str) (k : Nat) (sp : Sp) : Prop := ∃ f fd, FnOk P w K mg base CX0 k f fd ps sp ∧ Mk K C f ∧ mg x = some (.ref C) ∧ Binds K fd ps []
def HasM (C : Addr) (m : Str) (ps : List Str) (k : Nat) (sp : Sp) : Prop := ∃ f fd, FnOk P w K mg base CX0 k f fd ps sp ∧ Cls K C ∧ Meth K C m f ∧ Binds K fd ps []
end
section
variable {X : Cx} {k : Nat} {ps : List Str} {sp : Sp} {x m : Str} {p pos apos : Pos} {e o : Expr} {es : List Expr} {t : TA} {ta : TE} {C : Addr}
theorem pe_makeH (h : HasI X.prog X.w X.K X.mg X.base C x ps k sp) (hr : Room (k + 1) X.A) (hg : Gl X x) (ha : PA X (e :: es) t) (nd : (x == ("__debug__" : Str)) = false := by decide) (st : starEach (e :: es) X.env = (false, eval e X.env) :: starEach es X.env := by rfl) (pl : (backTo pos (starEach es X.env)).any (·.1) = false := by rfl) :
    PE X (.Call (.Name x p) (e :: es) [] pos) (tMake C sp [] E0 t) := by
  obtain ⟨f, fd, ok, M, hm, b⟩ := h
  exact pe_make M ok hr hg hm b .nil pass0 ha nd st pl
theorem pe_methH {pl : Sem Bool} (h : HasM X.prog X.w X.K X.mg X.base C m ps k sp) (he : PE X o ta) (hr : Room k X.A) (ha : PA X (e :: es) t)
    (hst : starEach (e :: es) X.env = (false, eval e X.env) :: starEach es X.env := by rfl) (hpl : (backTo pos (starEach es X.env)).any (·.1) = false := by rfl)
    (ht : eval (.Call (.Attribute o m apos) (e :: es) [] pos) X.env = (do
      let ov ← eval o X.env
      standAt apos.atName
      let (f, first) ← holding [ov] (getMethod ov m pl)
      callWith pos f first (backTo pos (starEach (e :: es) X.env)) (backToKw pos (keywordEach [] X.env))) := by rfl) :
    PE X (.Call (.Attribute o m apos) (e :: es) [] pos) (tMeth C m sp [] E0 ta t) := by
  obtain ⟨f, fd, ok, c, M, b⟩ := h
  exact pe_meth he c M ok hr b .nil pass0 ha hst hpl ht
/-- a class's facts, from the head -/
theorem hasI_of {P : Program} {w : World} {K : PySem.W.Frag} {mg : Str → Option Value} {base : Heap} {C f : Addr} {fd : FuncData} {st : Stmt} {q : Str} (M : Mk K C f) (F : FnM K "__init__" q st f fd) (hm : mg x = some (.ref C))
    (b : ∀ (kV doc pm : Value) (an : Option Addr) (cdv ct : Value) (us : List Value), us.length = ps.length → bindArgs (PySem.W.fnOf "__init__" q (defArgs st) (defBody st) (defScope st) .none kV doc pm an cdv ct) ⟨us, []⟩ = pure (ps.zip us))
    (ok : FnOk P w K mg base CX0 k f fd ps sp) : HasI P w K mg base C x ps k sp := ⟨f, fd, ok, M, hm, F.bindsN b⟩
theorem hasM_of {P : Program} {w : World} {K : PySem.W.Frag} {mg : Str → Option Value} {base : Heap} {C f : Addr} {fd : FuncData} {st : Stmt} {q : Str} (c : Cls K C) (M : Meth K C m f) (F : FnM K m q st f fd)
    (b : ∀ (kV doc pm : Value) (an : Option Addr) (cdv ct : Value) (us : List Value), us.length = ps.length → bindArgs (PySem.W.fnOf m q (defArgs st) (defBody st) (defScope st) .none kV doc pm an cdv ct) ⟨us, []⟩ = pure (ps.zip us))
    (ok : FnOk P w K mg base CX0 k f fd ps sp) : HasM P w K mg base C m ps k sp := ⟨f, fd, ok, c, M, F.bindsN b⟩
end
end Fw
namespace Fw
open PySem PySem.Spec PyProof.Rows L2 Evl
variable {K : PySem.W.Frag} {p : Option Addr} {Φ : PyData → Prop}
theorem od_and {i j : Int} (h : Φ (.int (Builtin.bitAnd i j))) : OpD K p (rI0 fun i j => V.int (Builtin.bitAnd i j)) (.int i) (.int j) Φ := op_I0 (g := fun i j => .int (Builtin.bitAnd i j)) (fun i j _ => .int _) ⟨i, j, rfl, rfl, h⟩
theorem od_or {i j : Int} (h : Φ (.int (Builtin.bitOr i j))) : OpD K p (rI0 fun i j => V.int (Builtin.bitOr i j)) (.int i) (.int j) Φ := op_I0 (g := fun i j => .int (Builtin.bitOr i j)) (fun i j _ => .int _) ⟨i, j, rfl, rfl, h⟩
theorem od_shl {i j : Int} (c : CPow i j) (h : Φ (.int (i * 2 ^ j.toNat))) : OpD K p (rI CPow fun i j => V.int (i * 2 ^ j.toNat)) (.int i) (.int j) Φ := op_I (g := fun i j => .int (i * 2 ^ j.toNat)) (fun i j _ => .int _) ⟨i, j, rfl, rfl, c, h⟩
theorem ud_inv {i : Int} (h : Φ (.int (Builtin.bitNot i))) : UnD K p (rU fun i => V.int (Builtin.bitNot i)) (.int i) Φ := fun vx Hk H Q e po rx k => by
  rw [dp_int rx]
  exact ⟨i, rfl, k _ _ _ _ (Go.refl e po) (.int _) h⟩
theorem one0 {S : Mov} {l : List Slot} (h : l.all (fun s => match s with | .mov _ => false | _ => true) = true) : OneMov (.mov S :: l) 0 := fun j T e => by
  cases j with
  | zero => rfl
  | succ j =>
    rw [List.getElem?_cons_succ] at e
    exact absurd (List.all_eq_true.mp h _ (List.mem_of_getElem? e)) (by simp)
end Fw
/-! a dict with rows as keys that is never changed again is data -/
namespace Fw
open PySem PySem.Spec PyProof.Rows L2 Evl FwD FwB FwS
section
variable {K K' : PySem.W.Frag} {p : Option Addr} {env : List Slot} {Φ : PyData → Prop} {te ta tb tk tv : TE} {O : Outs}
theorem zip_fs : ∀ kvs : List (PyData × PyData), (kvs.map (·.1)).zip (kvs.map (·.2)) = kvs
  | [] => rfl
  | (a, b) :: r => by
    show (a, b) :: (r.map (·.1)).zip (r.map (·.2)) = _
    rw [zip_fs r]
theorem ents_vs {Hk : Hp} : ∀ {kvs : List (PyData × PyData)} {xs : List (NestedKey × Addr × Value)}, Paired (Ent (RkOf K Hk) (RvOf K Hk)) kvs xs → ∃ vs : List V, vs.length = kvs.length ∧ Paired (EntV (RkOf K Hk)) ((kvs.map (·.1)).zip vs) xs ∧ DxAll K Hk vs (kvs.map (·.2))
  | _, _, .nil => ⟨[], rfl, .nil, .nil⟩
  | _, _, .cons h t => by
    obtain ⟨vs, h1, h2, h3⟩ := ents_vs t
    obtain ⟨a1, a2, a3, v, rv, dv⟩ := h
    exact ⟨v :: vs, congrArg Nat.succ h1, .cons ⟨a1, a2, a3, rv⟩ h2, .cons dv h3⟩
theorem vs_ents {Hk : Hp} : ∀ {ks : List PyData} {vs : List V} {es : List PyData} {xs : List (NestedKey × Addr × Value)}, ks.length = es.length → DxAll K Hk vs es → Paired (EntV (RkOf K Hk)) (ks.zip vs) xs → Paired (Ent (RkOf K Hk) (RvOf K Hk)) (ks.zip es) xs
  | [], _, [], _, _, .nil, h => by
    cases h
    exact .nil
  | [], _, _ :: _, _, h, _, _ => by cases h
  | _ :: _, _, [], _, h, _, _ => by cases h
  | k :: ks, _, _, _, n, .cons hv rv, h => by
    cases h with
    | cons h t => exact .cons ⟨h.1, h.2.1, h.2.2.1, _, h.2.2.2, hv⟩ (vs_ents (Nat.succ.inj n) rv t)
theorem dx_of_dic {Hk : Hp} {l : Addr} {kvs : List (PyData × PyData)} (D : DicK K Hk Hk l kvs) (ne : kvs ≠ []) : Dx K Hk (.ref l) (.dict kvs) := by
  obtain ⟨o, es, ep, xs, e1, e2, e3, e4, e5, e6, e7, e8⟩ := D
  obtain ⟨vs, h1, h2, h3⟩ := ents_vs e8
  have hz := zip_fs kvs
  have : Dx K Hk (.ref l) (.dict ((kvs.map (·.1)).zip (kvs.map (·.2)))) := .dct (vs := vs) ⟨o, es, ep, xs, e1, e2, e3, e4, e5, e6, by rw [List.length_zip, List.length_map, h1]; omega, h2⟩ (fun z => ne (List.map_eq_nil_iff.mp z)) (by simp) h3
  rw [hz] at this
  exact this
/-- its first key is a row -/
def KV (kvs : List (PyData × PyData)) : Prop := ∃ k z r, kvs = (k, z) :: r ∧ (keyT k).isSome = true
theorem dic_of_dx {Hk : Hp} {v : V} {kvs : List (PyData × PyData)} (h : Dx K Hk v (.dict kvs)) (hk : KV kvs) : ∃ l, v = .ref l ∧ DicK K Hk Hk l kvs := by
  obtain ⟨k, z, r, rfl, hk⟩ := hk
  generalize hd : PyData.dict ((k, z) :: r) = d at h
  cases h with
  | @dct l ks vs es h ne n ra =>
    have hx := PyData.dict.inj hd
    obtain ⟨o, es2, ep, xs, e1, e2, e3, e4, e5, e6, e7, e8⟩ := h
    refine ⟨l, rfl, ?_⟩
    rw [hx]
    have vl := dpAll_len ra
    exact ⟨o, es2, ep, xs, e1, e2, e3, e4, e5, e6, by rw [List.length_zip] at e7 ⊢; omega, vs_ents n ra e8⟩
  | obj h n ra =>
    simp only [PyData.dict.injEq, List.cons.injEq, Prod.mk.injEq] at hd
    rw [hd.1.1] at hk
    cases hk
  | dc0 _ =>
    cases hd
    cases hk
  | _ => cases hd
theorem kv_ne {kvs : List (PyData × PyData)} (h : KV kvs) : kvs ≠ [] := by
  obtain ⟨_, _, _, rfl, _⟩ := h
  exact nofun
/-- the one own thing of its kind is known from now on -/
theorem En.pubM {H0 Hk H : Hp} {σ : List (Option V)} (h : En K p H0 Hk H σ env) {i : Nat} {l : Addr} {o : HO} {S : Mov} {d : PyData} (one : OneMov env i) (e : env[i]? = some (.mov S)) (f : σ[i]? = some (some (.ref l))) (hk : Hk l = none) (hl : H l = some o) (hs : S.S Hk l o) (r : Dx K (upd Hk l o) (.ref l) d) :
    En K p H0 (upd Hk l o) H σ (env.set i (.dat d)) := by
  have hlt : i < env.length := (List.getElem?_eq_some_iff.mp e).1
  have x : Ex Hk (upd Hk l o) := Ex.new hk
  refine ⟨by rw [List.length_set, h.len], fun j s e' => ?_, fun j k m ds' es' e1 e2 e3 e4 => ?_, bigs_put h.bigs (fun _ q => nomatch q) (fun q => nomatch q)⟩
  · by_cases z : i = j
    · subst z
      rw [List.getElem?_set] at e'
      simp only [if_true, hlt] at e'
      have e'' := Option.some.inj e'
      subst e''
      exact ⟨_, f, .ref l, rfl, r⟩
    · rw [List.getElem?_set_ne z] at e'
      obtain ⟨ov', e1, q⟩ := h.slot j s e'
      refine ⟨ov', e1, ?_⟩
      cases s with
      | no => exact True.intro
      | pot => exact q
      | dat d => exact let ⟨v, e, r⟩ := q; ⟨v, e, dp_mono x d r⟩
      | ext S => exact let ⟨v, e, r⟩ := q; ⟨v, e, S.mono _ _ v x r⟩
      | mov S2 => exact absurd (one j S2 e') z
      | big B =>
        obtain ⟨b1, b2, b3⟩ := q
        have nl : l ∉ B.as := h.bigs j i B _ l e' e rfl f
        have ne : ∀ a ∈ B.as, a ≠ l := fun a ha y => nl (by rw [← y]; exact ha)
        exact ⟨b1, fun a ha => ⟨(b2 a ha).1, by rw [upd_ne (ne a ha)]; exact (b2 a ha).2.1, (b2 a ha).2.2⟩, B.mono _ _ _ _ x (fun a ha => rfl) b3⟩
      | own es2 =>
        obtain ⟨m, ws2, b1, b2, b3, b4, b5, b6⟩ := q
        have hm : m ≠ l := fun y => by
          rw [y, hl] at b5
          exact S.nl _ _ _ hs _ (Option.some.inj b5)
        refine ⟨m, ws2, b1, b2, ?_, b4, b5, dpAll_mono x es2 b6⟩
        rw [upd_ne hm]
        exact b3
  · have n : ∀ {m : Nat} {ds0 : List PyData}, (env.set i (.dat d))[m]? = some (.own ds0) → env[m]? = some (.own ds0) := fun {m ds0} e => by
      by_cases z : i = m
      · subst z
        rw [List.getElem?_set] at e
        simp only [if_true, hlt] at e
        cases (Option.some.inj e)
      · rw [List.getElem?_set_ne z] at e
        exact e
    exact h.apart j k m ds' es' (n e1) (n e2) e3 e4
/-- an own dict becomes data -/
theorem s_pubM {t : TS} {i : Nat} {kvs : List (PyData × PyData)} (hi : env[i]? = some (.mov (dicM K kvs))) (one : OneMov env i) (ne : kvs ≠ []) (h : WpS K p t (env.set i (.dat (.dict kvs))) O) : WpS K p t env O := fun H0 Hk0 σ Hk H D g en k => by
  obtain ⟨ov, hs, l, o, rfl, h0, hk, hp, hl, S⟩ := en.slot i _ hi
  obtain ⟨l', hs', _, _, _, Dk⟩ := dicM_at en hi
  have el : l' = l := by
    rw [hs] at hs'
    injection (Option.some.inj (Option.some.inj hs')) with q
    exact q.symm
  subst el
  have D2 : DicK K (upd Hk l' o) (upd Hk l' o) l' kvs := Dk.mono (fun d _ r => dp_mono0 (Ex.new hk) d r) (fun d _ ⟨v, rv, h⟩ => ⟨v, rv, dp_mono (Ex.new hk) d h⟩) fun u hu => by
    rw [hl] at hu
    rw [← Option.some.inj hu]
    exact upd_same
  exact h H0 Hk0 σ (upd Hk l' o) H D (g.pub h0 hp hk hl) (En.pubM en one hi hs hk hl S (dx_of_dic D2 ne)) k
/-! ### reading it -/
theorem dic_hk {Hk H : Hp} {l : Addr} {kvs : List (PyData × PyData)} (e : Ex Hk H) (D : DicK K Hk Hk l kvs) : DicAt (RkOf K Hk) (RvOf K Hk) H l kvs := D.mono (fun _ _ r => r) (fun _ _ r => r) fun o h => e l o h
theorem od_inX {neg : Bool} {y : PyData} {kvs : List (PyData × PyData)} (kv : KV kvs) (ky : KeyOk y) (h : Φ (.bool (if neg then !hasD kvs y else hasD kvs y))) : OpD K p (rInX K neg) y (.dict kvs) Φ := fun vx vy Hk H Q e po rx ry k => by
  obtain ⟨l, rfl, D⟩ := dic_of_dx ry kv
  obtain ⟨⟨ks, hks, hdp⟩, hni⟩ := ky
  exact ⟨l, kvs, _, _, y, ks, rfl, dic_hk e D, fun d a r => dp_mono0 e d r, dx_dp y (key_noDict y ks hks) (dp_mono e y rx), hks, hni, hdp, k _ _ Hk H (Go.refl e po) (.bl _) h⟩
theorem od_getX {y z : PyData} {kvs : List (PyData × PyData)} (kv : KV kvs) (ky : KeyOk y) (hz : atD kvs y = some z) (h : Φ z) : OpD K p (rGetX K) (.dict kvs) y Φ := fun vx vy Hk H Q e po rx ry k => by
  obtain ⟨l, rfl, D⟩ := dic_of_dx rx kv
  obtain ⟨⟨ks, hks, hdp⟩, hni⟩ := ky
  exact ⟨l, kvs, _, _, y, z, ks, rfl, dic_hk e D, fun d a r => dp_mono0 e d r, dx_dp y (key_noDict y ks hks) (dp_mono e y ry), hks, hni, hdp, hz, fun r ⟨v, rv, dv⟩ => ⟨v, rv, k _ _ Hk H (Go.refl e po) dv h⟩⟩
theorem e_mgetD {x : TE} (h : WpE K p x env fun d => ∃ kvs, d = .dict kvs ∧ KV kvs ∧ WpE K p tk env fun y => WpE K p tv env fun w => KeyOk y ∧ Φ ((atD kvs y).getD w)) : WpE K p (tMX (rGetM K) x (tCons tk (tCons tv tNil))) env Φ := fun H0 σ Hk H Q e po en k => by
  refine h H0 σ Hk H _ e po en fun v d Hk1 H1 g1 rx ⟨kvs, ed, kv, h1⟩ => ?_
  subst ed
  obtain ⟨l, rfl, D⟩ := dic_of_dx rx kv
  refine ⟨⟨l, kvs, _, _, rfl, dic_hk g1.kr D⟩, h1 H0 σ Hk1 H1 _ g1.kr g1.po (en.go g1) fun y dy Hk2 H2 g2 ry h2 => h2 H0 σ Hk2 H2 _ g2.kr g2.po ((en.go g1).go g2) fun w dw Hk3 H3 g3 rw_ ⟨⟨⟨ks, hks, hdp⟩, hni⟩, f⟩ => ?_⟩
  have e3 : Ex Hk1 H3 := fun a o z => g3.kr a o (g3.kk a o (g2.kk a o z))
  refine ⟨l, kvs, _, _, y, dy, ks, rfl, dic_hk e3 D, fun d a r => dp_mono0 e3 d r, dx_dp dy (key_noDict dy ks hks) (dp_mono g3.kr dy (dp_mono g3.kk dy ry)), hks, hni, hdp, w, .inr rfl, fun hz => ?_, fun z hz r ⟨v, rv, dv⟩ => ⟨v, rv, ?_⟩⟩
  · rw [hz] at f
    exact k _ _ Hk3 H3 ((g1.trans g2).trans g3) rw_ f
  · rw [hz] at f
    exact k _ _ Hk3 H3 ((g1.trans g2).trans g3) (dp_mono g3.kk _ (dp_mono g2.kk _ dv)) f
theorem e_mgetD1 {x : TE} (h : WpE K p x env fun d => ∃ kvs, d = .dict kvs ∧ KV kvs ∧ WpE K p tk env fun y => KeyOk y ∧ Φ ((atD kvs y).getD .none)) : WpE K p (tMX (rGetM K) x (tCons tk tNil)) env Φ := fun H0 σ Hk H Q e po en k => by
  refine h H0 σ Hk H _ e po en fun v d Hk1 H1 g1 rx ⟨kvs, ed, kv, h1⟩ => ?_
  subst ed
  obtain ⟨l, rfl, D⟩ := dic_of_dx rx kv
  refine ⟨⟨l, kvs, _, _, rfl, dic_hk g1.kr D⟩, h1 H0 σ Hk1 H1 _ g1.kr g1.po (en.go g1) fun y dy Hk3 H3 g3 ry ⟨⟨⟨ks, hks, hdp⟩, hni⟩, f⟩ => ?_⟩
  have e3 : Ex Hk1 H3 := fun a o z => g3.kr a o (g3.kk a o z)
  refine ⟨l, kvs, _, _, y, dy, ks, rfl, dic_hk e3 D, fun d a r => dp_mono0 e3 d r, dx_dp dy (key_noDict dy ks hks) (dp_mono g3.kr dy ry), hks, hni, hdp, .non, .inl ⟨rfl, rfl⟩, fun hz => ?_, fun z hz r ⟨v, rv, dv⟩ => ⟨v, rv, ?_⟩⟩
  · rw [hz] at f
    exact k _ _ Hk3 H3 (g1.trans g3) .non f
  · rw [hz] at f
    exact k _ _ Hk3 H3 (g1.trans g3) (dp_mono g3.kk _ dv) f
/-- its keys, in turn -/
theorem i_keysX {Ψ : List PyData → Prop} (h : WpE K p te env fun d => ∃ kvs, d = .dict kvs ∧ KV kvs ∧ Ψ (kvs.map (·.1))) (hK : K' = K := by with_unfolding_all rfl) : WpI K p (iKeysX K' te) env Ψ := fun H0 σ Hk H R e po en k => by
  subst hK
  refine h H0 σ Hk H _ e po en fun v d Hk' H' g rx ⟨kvs, ed, kv, f⟩ => ?_
  subst ed
  obtain ⟨l, rfl, D⟩ := dic_of_dx rx kv
  obtain ⟨o, es, ep, DO⟩ := dicO_of D
  have DH : DicO (RkOf K' Hk') (RvOf K' Hk') H' l o es ep kvs := ⟨g.kr l _ DO.1, DO.2⟩
  refine ⟨l, o, es, ep, kvs, _, _, rfl, DH, ?_⟩
  refine k _ _ Hk' H' g (fun Hk1 H1 x1 x2 po1 => ?_) f
  have DO1 : DicO (RkOf K' Hk') (RvOf K' Hk') H1 l o es ep kvs := ⟨x2 l _ (x1 l _ DO.1), DO.2⟩
  have ln : (kvs.map (·.1)).length = kvs.length := List.length_map ..
  refine ⟨fun i hi => ⟨DO1, by omega⟩, ⟨DO1, by omega⟩, fun i x H2 hi y => ?_⟩
  obtain ⟨rfl, d, z, a, hd, rfl, ra⟩ := y
  refine ⟨d, Hk1, by rw [List.getElem?_map, hd]; rfl, ?_, Go.refl x2 po1⟩
  exact dp_mono x1 d (dp_dx d ra)
/-- sorted(d): a new list -/
theorem f_sortDX {Ψ : List PyData → Prop} (h : WpE K p te env fun d => ∃ kvs, d = .dict kvs ∧ KV kvs ∧ kvs.length ≤ 100000 ∧ PySem.W.AllAlike (kvs.map (·.1)) ∧ PySem.W.Sortable (kvs.map (·.1)) ∧ (∀ d ∈ kvs.map (·.1), d.depth ≤ 60) ∧ Ψ (sortD (kvs.map (·.1)))) (hK : K' = K := by with_unfolding_all rfl) :
    WpF K p (tCB (rSortDic K') (tCons te tNil)) env Ψ := fun H0 σ Hk H Q e po en k => by
  subst hK
  refine h H0 σ Hk H _ e po en fun v d Hk' H' g rx ⟨kvs, ed, kv, hz, al, so, dp, f⟩ => ?_
  subst ed
  obtain ⟨l, rfl, D⟩ := dic_of_dx rx kv
  obtain ⟨o, es, ep, DO⟩ := dicO_of D
  have DH : DicO (RkOf K' Hk') (RvOf K' Hk') H' l o es ep kvs := ⟨g.kr l _ DO.1, DO.2⟩
  refine ⟨l, o, es, ep, kvs, _, _, rfl, DH, hz, fun d a r => dp_mono0 g.kr d r, al, so, dp, fun ys q py hq => ?_⟩
  have all : ∀ {ys : List V} {ds : List PyData}, Paired (fun x d => ∃ a, x = V.ref a ∧ RkOf K' Hk' d a) ys ds → DxAll K' Hk' ys ds := fun z => by
    induction z with
    | nil => exact .nil
    | cons h _ ih =>
      obtain ⟨a, rfl, r⟩ := h
      exact .cons (dp_dx _ r) ih
  exact k q ys _ Hk' _ (g.mut (fresh0 g hq) (pot_ne g.po hq) (fresh_back g.kr hq)) (fresh0 g hq) (fresh_back g.kr hq) upd_same (all py) f
theorem e_lenDX {r : List V → Hp → VK → Prop} (h : WpE K p te env fun d => ∃ kvs, d = .dict kvs ∧ KV kvs ∧ Φ (.int kvs.length)) (hr : r = fun xs H Q => ∃ (p : Addr) (kvs : List (PyData × PyData)) (Rk : PyData → Addr → Prop) (Rv : PyData → Value → Prop), xs = [.ref p] ∧ DicAt Rk Rv H p kvs ∧ (∀ d a, Rk d a → Dp K H (.ref a) d) ∧ Q (.int kvs.length) H := by with_unfolding_all rfl) :
    WpE K p (tCB r (tCons te tNil)) env Φ := fun H0 σ Hk H Q e po en k => by
  subst hr
  refine h H0 σ Hk H _ e po en fun v d Hk' H' g rx ⟨kvs, ed, kv, f⟩ => ?_
  subst ed
  obtain ⟨l, rfl, D⟩ := dic_of_dx rx kv
  exact ⟨l, kvs, _, _, rfl, dic_hk g.kr D, fun d a r => dp_mono0 g.kr d r, k _ _ Hk' H' g (.int _) f⟩
end
end Fw
/-! own lists: pop, extend by any list; a dict and a list at once -/
namespace FwL
open PySem PySem.Spec PyProof.Rows L2
theorem extend_any (l : Addr) (items : Array Value) (n : Nat) (b : Addr) (items2 : Array Value) (n2 : Nat) (sl : Array (Option Value)) (hc0 : ¬(!items.isEmpty && Builtin.List.listTooLong (items.size + items2.size)) = true) (hc1 : items.size ≤ sizeLine) (hs2 : items.size + items2.size ≤ sizeLine + 1) :
    Meets (Builtin.«list.extend» ⟨[.ref l, .ref b], []⟩) (fun _ R s => s.heap.get? l = some { cls := .type "list", dict := none, data := .seq items n, slots := #[] } ∧ s.heap.get? b = some { cls := .type "list", dict := none, data := .seq items2 n2, slots := sl } ∧ R (.ok (.ret Value.none)) { s with heap := s.heap.update l (Obj.mapSeq fun x => x ++ items2), toks := s.toks }) :=
  .of_wp fun prog w A R s h => by
    obtain ⟨hp, g, d, tk, os⟩ := s
    obtain ⟨hl, hb, h⟩ := h
    have f1 := AutoSeq1.idx_int; have f2 := AutoSeq1.sub_tuple_tuple; have f3 := AutoSeq1.sub_list_list; have f4 := AutoSeq1.sub_tuple_list; have f5 := AutoSeq1.sub_list_tuple
    have hz' : (items ++ items2).size ≤ sizeLine + 1 := by rw [Array.size_append]; exact hs2
    wp_walk using (PySem.wpAny_updateSeq hl rfl (hz := hc1) (_hz' := hz')), AutoSeq1.wpAny_loadPart' hl, AutoSeq1.wpAny_loadPart' hb
    exact ⟨_, rfl, h⟩
def rExtA (K : PySem.W.Frag) : V → List V → Hp → VK → Prop := fun x vs H Q => ∃ l b xs zs, x = .ref l ∧ vs = [.ref b] ∧ H l = some (.lst xs) ∧ SqL K H b zs ∧ xs.length + zs.length ≤ sizeLine ∧ Q .non (upd H l (.lst (xs ++ zs)))
theorem mt_extA {X : Cx} : MtM X "list.extend" (rExtA X.K) := by
  intro pins s σ H x vs v us Q I rx rv h
  obtain ⟨l, b, xs, zs, rfl, rfl, hH, hB, hz, q⟩ := h
  cases rx
  obtain ⟨u, rfl, ru⟩ := rv.one
  cases ru
  obtain ⟨z, its, n, r, hl, e⟩ := I.lstM hH
  obtain ⟨its2, r2, ⟨⟨cls, dd, data, sl⟩, n2, e2, hc, hd, hdt⟩, z2⟩ := I.list hB
  simp only at hc hd hdt
  subst hc hd hdt
  have hl2 := r2.length
  have hsz : its.toArray.size + its2.toArray.size ≤ sizeLine := by rw [List.size_toArray, List.size_toArray]; omega
  have hlong : ¬ (!its.toArray.isEmpty && Builtin.List.listTooLong (its.toArray.size + its2.toArray.size)) = true := by
    rw [notLongL hsz, Bool.and_false]
    exact Bool.false_ne_true
  refine call_meets F.slot_list_extend ⟨_, e, rfl⟩ F.entry_list_extend (F.args_list_extend_2 _ _)
    (extend_any l its.toArray n b its2.toArray n2 sl hlong (by rw [List.size_toArray]; omega) (by omega)) ⟨e, e2, ?_⟩
  refine ⟨.non, _, I.lset (its' := its ++ its2) hH e (by simp) (r.append r2) ?_, rfl, q⟩
  rw [List.length_append]
  omega
end FwL
namespace Fw
open PySem PySem.Spec PyProof.Rows L2 Evl FwL FwD
section
variable {K K' : PySem.W.Frag} {p : Option Addr} {env : List Slot} {Φ : PyData → Prop} {te ta tb tc : TE} {tt : TT} {O : Outs}
/-- own.extend(a list) -/
theorem s_extD {i : Nat} {ds : List PyData} (hi : env[i]? = some (.own ds)) (h : WpE K p tb env fun d => ∃ es, d = .list es ∧ ds.length + es.length ≤ 100000 ∧ O.nx (env.set i (.own (ds ++ es)))) (hK : K' = K := by with_unfolding_all rfl) : WpS K p (tDrop (tBM K' "list" (rExtA K') (tVar i) (tCons tb tNil))) env O := fun H0 Hk0 σ Hk H D g en k => by
  subst hK
  obtain ⟨ov, s1, l, vs, rfl, h0, hk, hp, hl, rr⟩ := en.slot i _ hi
  refine ⟨.ref l, s1, .inl ⟨rfl, vs, SqL.of hl⟩, h H0 σ Hk H _ g.kr g.po en fun v d Hk1 H1 g1 rd ⟨es, ed, hz, q⟩ => ?_⟩
  subst ed
  obtain ⟨b, zs, rfl, hb, br⟩ := dp_lst rd
  have hl' : H1 l = some (.lst vs) := g1.rr l _ hp hl
  have hk' : Hk1 l = none := g1.nk l (by rw [hl]; exact nofun) hk
  have r0 := dpAll_mono g1.kk ds rr
  refine ⟨l, b, vs, zs, rfl, rfl, hl', ex_l g1.kr hb, sz_of (by rw [dpAll_len rr, dpAll_len br]; exact hz), ?_⟩
  exact k.nx _ σ Hk1 _ ((g.trans g1).mut h0 hp hk') ((en.go g1).put_own hi s1 (dpAll_app r0 br)) q
theorem dpAll_snoc {H : Hp} : ∀ {ds : List PyData} {d : PyData} {vs : List V}, DxAll K H vs (ds ++ [d]) → ∃ us v, vs = us ++ [v] ∧ DxAll K H us ds ∧ Dx K H v d
  | [], _, _, .cons h .nil => ⟨[], _, rfl, .nil, h⟩
  | _ :: _, _, _, .cons h t => by
    obtain ⟨us, v, rfl, h2, h3⟩ := dpAll_snoc t
    exact ⟨_ :: us, v, rfl, .cons h h2, h3⟩
/-- name = own.pop() -/
theorem s_pop {i j : Nat} {ds : List PyData} {d : PyData} (hi : env[i]? = some (.own (ds ++ [d]))) (q : O.nx ((env.set i (.own ds)).set j (.dat d))) (hK : K' = K := by with_unfolding_all rfl) : WpS K p (tAsg (tBM0 K' "list" rPop (tVar i)) (gName j)) env O := fun H0 Hk0 σ Hk H D g en k => by
  subst hK
  obtain ⟨ov, s1, l, vs, rfl, h0, hk, hp, hl, rr⟩ := en.slot i _ hi
  obtain ⟨us, v, rfl, r1, r2⟩ := dpAll_snoc rr
  refine ⟨.ref l, s1, .inl ⟨rfl, _, SqL.of hl⟩, l, us ++ [v], v, rfl, rfl, hl, by simp, ?_⟩
  rw [List.dropLast_concat]
  exact k.nx _ _ Hk _ (g.mut h0 hp hk) ((en.put_own hi s1 r1).set r2) q
/-- own.pop() -/
theorem s_popX {i : Nat} {ds : List PyData} {d : PyData} (hi : env[i]? = some (.own (ds ++ [d]))) (q : O.nx (env.set i (.own ds))) (hK : K' = K := by with_unfolding_all rfl) : WpS K p (tDrop (tBM0 K' "list" rPop (tVar i))) env O := fun H0 Hk0 σ Hk H D g en k => by
  subst hK
  obtain ⟨ov, s1, l, vs, rfl, h0, hk, hp, hl, rr⟩ := en.slot i _ hi
  obtain ⟨us, v, rfl, r1, r2⟩ := dpAll_snoc rr
  refine ⟨.ref l, s1, .inl ⟨rfl, _, SqL.of hl⟩, l, us ++ [v], v, rfl, rfl, hl, by simp, ?_⟩
  rw [List.dropLast_concat]
  exact k.nx _ _ Hk _ (g.mut h0 hp hk) (en.put_own hi s1 r1) q
/-- a new dict and a new list -/
theorem s_parDO {i j : Nat} (h : WpD K p ta env fun kvs => WpF K p tb env fun ds => O.nx ((env.set i (.mov (dicM K kvs))).set j (.own ds))) : WpS K p (tPar i j (tCons ta (tCons tb tNil))) env O := fun H0 Hk0 σ Hk H D g en k =>
  h H0 σ Hk H _ g.kr g.po en fun l1 kvs Hk1 H1 g1 a0 ak Dk h1 => h1 H0 σ Hk1 H1 _ g1.kr g1.po (en.go g1) fun l vs ds Hk' H' g' h0 hk hl r f => by
    obtain ⟨o, ho⟩ := Dk.there
    have gg := g.trans g1
    have p1 := pot_ne g.po a0
    refine ⟨.ref l1, .ref l, rfl, k.nx _ _ Hk' H' (gg.trans g') ?_ f⟩
    have enA : En K p H0 Hk1 H1 (σ.set i (some (.ref l1))) (env.set i (.mov (dicM K kvs))) := En.set_mov en (en.go g1) (fresh0 g a0) a0 ho ak p1 (dicM_of ho Dk)
    exact En.add_own enA (enA.go g') (fresh0 gg h0) h0 hl hk (pot_ne g1.po h0) r
/-- a new list, by a test -/
theorem f_if {Ψ : List PyData → Prop} (h : WpT K p tt env fun b => if b = true then WpF K p ta env Ψ else WpF K p tb env Ψ) : WpF K p (tIf tt ta tb) env Ψ := fun H0 σ Hk H Q e po en k =>
  h H0 σ Hk H _ e po en fun b Hk1 H1 g1 h1 => by
    have fr : ∀ {l : Addr}, H1 l = none → H l = none := fun {l} z => by
      cases q : H l with
      | none => rfl
      | some o => exact absurd z (g1.live (by rw [q]; exact nofun))
    cases b with
    | true => exact (show WpF K p ta env Ψ from h1) H0 σ Hk1 H1 Q g1.kr g1.po (en.go g1) fun l vs ds Hk3 H3 g3 h0 hk hl r f => k l vs ds Hk3 H3 (g1.trans g3) (fr h0) hk hl r f
    | false => exact (show WpF K p tb env Ψ from h1) H0 σ Hk1 H1 Q g1.kr g1.po (en.go g1) fun l vs ds Hk3 H3 g3 h0 hk hl r f => k l vs ds Hk3 H3 (g1.trans g3) (fr h0) hk hl r f
theorem f_callS3 {Ψ : List PyData → Prop} {pre : List PyData → (List PyData → Prop) → Prop} {E : XK} {tk : TA} (h : WpA K p tk env fun ds => ∃ a b c, ds = [a, b, c] ∧ pre [c, b, a] Ψ) : WpF K p (tCallK (SpN K pre) (onlyK swap3) E tNil tk) env Ψ := fun H0 σ Hk H Q e po en k =>
  h H0 σ Hk H _ e po en fun vs ds Hk1 H1 g1 r ⟨a, b, c, ed, f⟩ => by
    subst ed
    cases r with
    | cons r1 r => cases r with
      | cons r2 r => cases r with
        | cons r3 r =>
          cases r
          exact ⟨Hk1, [c, b, a], Ψ, g1.kr, .cons r3 (.cons r2 (.cons r1 .nil)), f, fun l vs ds Hk2 H2 g2 h0 hk hl rr ff => k l vs ds Hk2 H2 (g1.trans (g2.lift g1.po)) (fresh0 g1 h0) hk hl rr ff⟩
end
end Fw
namespace Fw
open PySem PySem.Spec PyProof.Rows L2 Evl
theorem cb_min2 {K : PySem.W.Frag} {p : Option Addr} {Φ : PyData → Prop} {x y : PyData} {i j : Int} (hx : x = .int i) (hy : y = .int j) (h : Φ (.int (if j < i then j else i))) : CbD K p (fun xs H Q => ∃ i j, xs = [V.int i, V.int j] ∧ Q (V.int (if j < i then j else i)) H) [x, y] Φ := fun vs Hk H Q e po rx k => by
  subst hx hy
  cases rx with
  | cons rx rr =>
    cases rr with
    | cons ry rr =>
      cases rr
      rw [dp_int rx, dp_int ry]
      exact ⟨i, j, rfl, k _ _ _ _ (Go.refl e po) (.int _) h⟩
end Fw
namespace Fw
open PySem PySem.Spec PyProof.Rows L2 Evl
def isMov : Slot → Bool
  | .mov _ => true
  | _ => false
theorem one_of {env : List Slot} {i : Nat} (h : ((env.set i .no).all fun s => !isMov s) = true) : OneMov env i := fun j S e => by
  by_cases z : i = j
  · exact z
  · have e2 : (env.set i .no)[j]? = some (.mov S) := by rw [List.getElem?_set_ne z]; exact e
    have := List.all_eq_true.mp h _ (List.mem_of_getElem? e2)
    cases this
/-- two names: a new list of the def's own, data -/
theorem s_tup2FE {K K' : PySem.W.Frag} {p : Option Addr} {env : List Slot} {O : Outs} {ta tb : TE} {i j : Nat} (h : WpF K p ta env fun ds => WpE K p tb env fun z => O.nx ((env.set i (.own ds)).set j (.dat z))) (hK : K' = K := by with_unfolding_all rfl) : WpS K p (tAsg (tTup (tCons ta (tCons tb tNil))) (gTup K' 2 (gCons (gName i) (gCons (gName j) gNil)))) env O := fun H0 Hk0 σ Hk H D g en k =>
  h H0 σ Hk H _ g.kr g.po en fun m ws ds Hk2 H2 g2 h0 hk hl r f2 => f2 H0 σ Hk2 H2 _ g2.kr g2.po (en.go g2) fun w z Hk3 H3 g3 rz f3 => by
    subst hK
    have pm : p ≠ some m := pot_ne g.po h0
    have en1 := En.add_own (i := i) en (en.go g2) (fresh0 g h0) h0 hl hk pm r
    refine ⟨sz_of (show 2 ≤ 100000 by decide), fun q hq => ⟨q, [.ref m, w], rfl, SqT.of upd_same, rfl, ⟨_, _, rfl, ⟨_, _, rfl, ⟨rfl, ?_⟩⟩⟩⟩⟩
    have gN := Go.new (o := .tup [.ref m, w]) g3.kr g3.po hq
    exact k.nx _ _ _ _ (((g.trans g2).trans g3).trans gN) (((en1.go g3).set rz).go gN) f3
end Fw
namespace Fw
open PySem PySem.Spec PyProof.Rows L2 Evl
theorem pe_fldK {X : Cx} {e : Expr} {f : Str} {pos : Pos} {ta : TE} {K : PySem.W.Frag} (he : PE X e ta) (hb : attributeBase e f X.env (eval e X.env) = eval e X.env) (hK : X.K = K) : PE X (.Attribute e f pos) (tFld K ta f) := by
  subst hK
  exact pe_fld he hb
theorem at_zero {x : PyData} {xs : List PyData} : atI (x :: xs) 0 = some x := FwN.at_nat (j := 0) (by simp)
end Fw
namespace Fw
open PySem PySem.Spec PyProof.Rows L2 Evl
abbrev swap4 {α : Type} (l : List α) : List α := match l with
  | [a, b, c, d] => [d, c, b, a]
  | _ => []
theorem e_callS4 {K : PySem.W.Frag} {p : Option Addr} {env : List Slot} {Φ : PyData → Prop} {pre : List PyData → (PyData → Prop) → Prop} {E : XK} {tk : TA} (h : WpA K p tk env fun ds => ∃ a b c d, ds = [a, b, c, d] ∧ pre [d, c, b, a] Φ) : WpE K p (tCallK (SpF K pre) (onlyK swap4) E tNil tk) env Φ := fun H0 σ Hk H Q e po en k =>
  h H0 σ Hk H _ e po en fun vs ds Hk1 H1 g1 r ⟨a, b, c, d, ed, f⟩ => by
    subst ed
    cases r with
    | cons r1 r => cases r with
      | cons r2 r => cases r with
        | cons r3 r => cases r with
          | cons r4 r =>
            cases r
            exact ⟨Hk1, [d, c, b, a], Φ, g1.kr, .cons r4 (.cons r3 (.cons r2 (.cons r1 .nil))), f, fun v d Hk' H' g rd f' => k v d Hk' H' (g1.trans (g.lift g1.po)) rd f'⟩
end Fw
/-! zip of a tuple and a list -/
namespace FwT
open PySem PySem.Spec PyProof.Rows L2
def ItZTL (K : PySem.W.Frag) (a b : Addr) : It :=
  ⟨fun i H => ∃ xs ys : List V, SqT K H a xs ∧ SqL K H b ys ∧ i < min xs.length ys.length,
    fun i H v H' => ∃ T x y, v = .ref T ∧ H T = none ∧ H' = upd H T (.tup [x, y]) ∧ (∀ xs, SqT K H a xs → xs[i]? = some x) ∧ (∀ ys, SqL K H b ys → ys[i]? = some y),
    fun i H => ∃ xs ys : List V, SqT K H a xs ∧ SqL K H b ys ∧ i = min xs.length ys.length⟩
def CellsZTL (z TI TO i1 i2 a b : Addr) (i : Nat) (h : Heap) : Prop := IsZip h z TI TO .none ∧ IsTupOf2 h TI (.ref i1) (.ref i2) ∧ (∃ a1 a2, IsTupOf2 h TO a1 a2) ∧ h.IsTupleIter i1 a i ∧ h.IsListIter i2 b i
abbrev fpZ2 (z TI TO i1 i2 : Addr) : List Addr := [z, TI, TO, i1, i2]
section
variable {P : Program} {w : World} {K : PySem.W.Frag} {elts : List Expr} {kk : Nat} {tpos : Pos} {z TI TO i1 i2 a b : Addr}
theorem turn_zTL (S : ZipSep2 z TI TO i1 i2 [i1, a] [i2, b]) (na : a ≠ i1) (nb : b ≠ i2) : Turn P w K (.Tuple elts kk tpos) (ItZTL K a b) (fpZ2 z TI TO i1 i2) z (CellsZTL z TI TO i1 i2 a b) := by
  have goes : ∀ (A : Around), A.handled = none → ∀ (xs ys : List Value), GoesN P w A (.Tuple elts kk tpos) z (z :: TI :: TO :: ([i1, a] ++ [i2, b])) [z, TO, i1, i2] (min xs.toArray.size ys.toArray.size) _ _ :=
    fun A hh xs ys => GoesN.zip2 (elts := elts) (x1 := kk) (pos := tpos) S (Draws.tuple (A := A.in1) hh i1 a na xs.toArray) (Draws.list (A := A.in1) hh i2 b nb ys.toArray)
  constructor
  · exact List.mem_cons_self
  · rintro i h ⟨c1, c2, ⟨a1, a2, c3⟩, ⟨o1, e1, _, d1⟩, ⟨o2, e2, _, d2⟩⟩ x hx
    have cases6 : x = z ∨ x = TI ∨ x = TO ∨ x = i1 ∨ x = i2 := by simpa using hx
    rcases cases6 with rfl | rfl | rfl | rfl | rfl
    · exact ⟨_, c1, fun v q => nomatch q⟩
    · exact ⟨_, c2, fun v q => nomatch q⟩
    · exact ⟨_, c3, fun v q => nomatch q⟩
    · exact ⟨o1, e1, fun v q => by rw [d1] at q; cases q⟩
    · exact ⟨o2, e2, fun v q => by rw [d2] at q; cases q⟩
  · rintro i h h' ⟨c1, c2, ⟨a1, a2, c3⟩, h1, h2⟩ k
    exact ⟨k z (by simp) _ c1, k TI (by simp) _ c2, ⟨a1, a2, k TO (by simp) _ c3⟩, h1.at fun o q => k i1 (by simp) o q, h2.at fun o q => k i2 (by simp) o q⟩
  · intro X hP hw hK hc i pins s σ H E I hf st ⟨xs, ys, q1, q2, lt⟩
    subst hP hw hK
    obtain ⟨us, r1, p1, _⟩ := I.tuple q1
    obtain ⟨vs, r2, p2, _⟩ := I.list q2
    have W := goes X.A (I.ok.hd hc) us vs
    have l1 := r1.length
    have l2 := r2.length
    obtain ⟨c1, c2, c3, h1, h2⟩ := st
    refine W.goes i s _ E (by rw [List.size_toArray, List.size_toArray]; omega) ⟨c1, c2, c3, ⟨h1, p1⟩, ⟨h2, p2.isList⟩⟩ fun v h' tk hY st' hk _ => ?_
    obtain ⟨T, x, y, rfl, hn, hx, hy, hT⟩ := hY
    obtain ⟨d1, d2, d3, ⟨g1, _⟩, ⟨g2, _⟩⟩ := st'
    obtain ⟨x', ex, rx⟩ := val_ref r1 (by simpa using hx)
    obtain ⟨y', ey, ry⟩ := val_ref r2 (by simpa using hy)
    have new : ObjOk X.prog X.w (upd H T (.tup [x', y'])) h' T (.tup [x', y']) := ⟨by show 2 ≤ sizeLine; decide, [x, y], .cons rx (.cons ry .nil), hT⟩
    have out : ∀ d, d ∉ fpZ2 z TI TO i1 i2 → d ∉ [z, TO, i1, i2] := fun d n m => n (by
      simp only [List.mem_cons, List.not_mem_nil, or_false] at m ⊢
      rcases m with m | m | m | m <;> simp [m])
    have I1 := I.turnedNew (t' := tk) (ch := fpZ2 z TI TO i1 i2) (fun d o n e => hk d o (out d n) e) hf hn new
    have hTn : H T = none := I.hok.fresh hn
    refine ⟨.ref T, _, I1, rfl, ⟨T, x', y', rfl, hTn, rfl, fun l hl => by rw [I.tuple_inj hl q1]; exact ex, fun l hl => by rw [I.list_inj hl q2]; exact ey⟩, ⟨d1, d2, d3, g1, g2⟩, fun d hd => ?_⟩
    have low : d < s.heap.objs.size := by
      have cases6 : d = z ∨ d = TI ∨ d = TO ∨ d = i1 ∨ d = i2 := by simpa using hd
      obtain ⟨a1, a2, c3⟩ := c3
      rcases cases6 with rfl | rfl | rfl | rfl | rfl
      · exact Heap.lt_size c1
      · exact Heap.lt_size c2
      · exact Heap.lt_size c3
      · obtain ⟨_, e, _⟩ := h1; exact Heap.lt_size e
      · obtain ⟨_, e, _⟩ := h2; exact Heap.lt_size e
    rw [upd_ne (Nat.ne_of_lt (Nat.lt_of_lt_of_le low hn))]
    exact (hf d hd).1
  · intro X hP hw hK hc i pins s σ H E I hf st ⟨xs, ys, q1, q2, en⟩
    subst hP hw hK
    obtain ⟨us, r1, p1, _⟩ := I.tuple q1
    obtain ⟨vs, r2, p2, _⟩ := I.list q2
    have W := goes X.A (I.ok.hd hc) us vs
    have e : i = min us.toArray.size vs.toArray.size := by rw [List.size_toArray, List.size_toArray, ← r1.length, ← r2.length]; exact en
    obtain ⟨c1, c2, c3, h1, h2⟩ := st
    subst e
    refine W.stops s _ E ⟨c1, c2, c3, ⟨h1, p1⟩, ⟨h2, p2.isList⟩⟩ fun h' tk hk _ => I.turnedL (t' := tk) (ch := fpZ2 z TI TO i1 i2) (fun d o n e => hk d o (fun m => n (by
      simp only [List.mem_cons, List.not_mem_nil, or_false] at m ⊢
      rcases m with m | m | m | m <;> simp [m])) e) hf
  · intro A i s Q E st h
    exact wpAny_pyIter_zip st.1 h
def iZipTL (K : PySem.W.Frag) (ta : TA) : L2.TI := fun σ H R => ta σ H fun vs H1 => ∃ a b xs ys, vs = [.ref a, .ref b] ∧ SqT K H1 a xs ∧ SqL K H1 b ys ∧ R (ItZTL K a b) H1
theorem pi_zipTL {X : Cx} {e e2 : Expr} {ta : TA} {p pos : Pos} (hg : Gl X "zip") (hm : X.mg "zip" = none) (ha : PA X [e, e2] ta)
    (hs : starEach [e, e2] X.env = (false, eval e X.env) :: starEach [e2] X.env := by rfl) (hpl : (backTo pos (starEach [e2] X.env)).any (·.1) = false := by rfl) :
    PI X (.Tuple elts kk tpos) (.Call (.Name "zip" p) [e, e2] [] pos) (iZipTL X.K ta) := by
  constructor
  intro pins s σ H R I h
  refine Call_ (ld_blt I hg hm PyProof.Rows.boot_zip (PyProof.Rows.callWith_type1 (thn (ha.run pos pins s σ H _ I h) fun us s1 ⟨vs, H1, I1, r1, q1⟩ => ?_) hs hpl))
  obtain ⟨a, b, xs, ys, ex, t1, t2, q⟩ := q1
  subst ex
  cases r1 with
  | cons r rr =>
    cases rr with
    | cons r' rr =>
        cases rr
        cases r
        cases r'
        obtain ⟨_, _, p1, _⟩ := I1.tuple t1
        obtain ⟨_, _, p2, _⟩ := I1.list t2
        have low : ∀ {d : Addr} {its : Array Value}, IsTup s1.heap d its → d < s1.heap.objs.size := fun t => by
          obtain ⟨o, e, _⟩ := t
          exact Heap.lt_size e
        have low2 := p2.lt
        refine zip_begins2 (begins_tuple a _) (begins_list b _) p1 p2.isList fun h' hz hTI hTO g1 g2 hsz hk => wpAny_pyIter_zip hz ?_
        have I2 : Inv X pins σ H1 { s1 with heap := h' } := I1.kept (t' := s1.toks) hk
        have S := zip_sep2 (N := s1.heap.objs.size) (fp1 := [a]) (fp2 := [b]) (fun d hd => by rw [List.mem_singleton.mp hd]; exact low p1) (fun d hd => by rw [List.mem_singleton.mp hd]; exact low2)
        have ne : ∀ {d : Addr} (k : Nat), d < s1.heap.objs.size → d ≠ s1.heap.objs.size + k := fun k lt => Nat.ne_of_lt (Nat.lt_of_lt_of_le lt (Nat.le_add_right _ _))
        refine ⟨_, _, _, _, H1, rfl, I2, turn_zTL S (ne 0 (low p1)) (ne 1 low2), ⟨hz, hTI, ⟨_, _, hTO⟩, ⟨_, g1, rfl, rfl⟩, ⟨_, g2, rfl, rfl⟩⟩, fun d hd => ?_, q⟩
        have le : s1.heap.objs.size ≤ d := by
          have cases6 : d = s1.heap.objs.size + 4 ∨ d = s1.heap.objs.size + 2 ∨ d = s1.heap.objs.size + 3 ∨ d = s1.heap.objs.size ∨ d = s1.heap.objs.size + 1 := by simpa using hd
          rcases cases6 with e | e | e | e | e <;> rw [e]
          · exact Nat.le_add_right _ _
          · exact Nat.le_add_right _ _
          · exact Nat.le_add_right _ _
          · exact Nat.le_refl _
          · exact Nat.le_add_right _ _
        exact I1.fpOk le (I1.hok.fresh le)
end
end FwT
namespace Fw
open PySem PySem.Spec PyProof.Rows L2 Evl FwT
theorem i_zipTL {K K' : PySem.W.Frag} {p : Option Addr} {env : List Slot} {Ψ : List PyData → Prop} {ta : TA} (h : WpA K p ta env fun ds => ∃ xs ys, ds = [.tuple xs, .list ys] ∧ Ψ (zipD xs ys)) (hK : K' = K := by with_unfolding_all rfl) : WpI K p (iZipTL K' ta) env Ψ := fun H0 σ Hk H R e po en k => by
  subst hK
  refine h H0 σ Hk H _ e po en fun vs ds Hk1 H1 g rd ⟨xs, ys, ed, f⟩ => ?_
  subst ed
  cases rd with
  | cons r1 r2 =>
    cases r2 with
    | cons r2 r3 =>
      cases r3
      obtain ⟨a, us, rfl, hS, r⟩ := dp_tup r1
      obtain ⟨b, ws, rfl, hT, u⟩ := dp_lst r2
      refine ⟨a, b, us, ws, rfl, ex_t g.kr hS, ex_l g.kr hT, k _ _ Hk1 H1 g (fun Hk2 H2 x1 x2 po2 => ?_) f⟩
      have hS2 : SqT K' H2 a us := ex_t (x1.trans x2) hS
      have hT2 : SqL K' H2 b ws := ex_l (x1.trans x2) hT
      have l1 := dpAll_len r
      have l2 := dpAll_len u
      rw [zipD_len]
      refine ⟨fun i hi => ⟨us, ws, hS2, hT2, by omega⟩, ⟨us, ws, hS2, hT2, by omega⟩, fun i x H' hi y => ?_⟩
      obtain ⟨T, x', y', rfl, nT, rfl, f1, f2⟩ := y
      have hi1 : i < xs.length := by omega
      have hi2 : i < ys.length := by omega
      obtain ⟨v, hv, rv⟩ := dpAll_get r (List.getElem?_eq_getElem hi1)
      obtain ⟨w, hw, rw'⟩ := dpAll_get u (List.getElem?_eq_getElem hi2)
      have e1 : x' = v := Option.some.inj ((f1 us hS2).symm.trans hv)
      have e2 : y' = w := Option.some.inj ((f2 ws hT2).symm.trans hw)
      subst e1 e2
      exact ⟨_, _, zipD_get (List.getElem?_eq_getElem hi1) (List.getElem?_eq_getElem hi2), dp_pair (fresh_back x2 nT) (dp_mono x1 _ rv) (dp_mono x1 _ rw'), Go.new x2 po2 nT⟩
end Fw
/-! an object in the making, with own lists and own dicts as fields -/
namespace Fw
open PySem PySem.Spec PyProof.Rows L2 Evl FwD FwB FwS
inductive BF where
  | dat (d : PyData)
  | own (a : Addr) (ds : List PyData)
  | dic (a : Addr) (kvs : List (PyData × PyData))
def BF.ads : BF → List Addr
  | .dat _ => []
  | .own a _ => [a]
  | .dic a _ => [a]
/-- a dict as data, an empty one too -/
def dkD : List (PyData × PyData) → PyData
  | [] => .dict [(.none, .none)]
  | kvs => .dict kvs
def BF.asD : BF → PyData
  | .dat d => d
  | .own _ ds => .list ds
  | .dic _ kvs => dkD kvs
section
variable {K K' : PySem.W.Frag} {p : Option Addr} {env : List Slot} {Φ : PyData → Prop} {te tk tv : TE} {O : Outs}
def BfOk (K : PySem.W.Frag) (Hk H : Hp) (v : V) : BF → Prop
  | .dat d => Dx K Hk v d
  | .own a ds => v = .ref a ∧ ∃ vs, H a = some (.lst vs) ∧ DxAll K Hk vs ds
  | .dic a kvs => v = .ref a ∧ ∃ o, H a = some o ∧ (dicM K kvs).S Hk a o
inductive BfAll (K : PySem.W.Frag) (Hk H : Hp) : List V → List BF → Prop
  | nil : BfAll K Hk H [] []
  | cons {v : V} {vs : List V} {e : BF} {es : List BF} (h : BfOk K Hk H v e) (r : BfAll K Hk H vs es) : BfAll K Hk H (v :: vs) (e :: es)
def bads (fs : List (Str × BF)) : List Addr := fs.flatMap fun q => q.2.ads
theorem bf_mono {Hk H Hk' H' : Hp} (x : Ex Hk Hk') {v : V} : ∀ {e : BF}, (∀ a ∈ e.ads, H' a = H a) → BfOk K Hk H v e → BfOk K Hk' H' v e
  | .dat d, _, h => dp_mono x d h
  | .own a ds, s, h => by
    obtain ⟨e, vs, h1, h2⟩ := h
    exact ⟨e, vs, by rw [s a (by simp [BF.ads])]; exact h1, dpAll_mono x ds h2⟩
  | .dic a kvs, s, h => by
    obtain ⟨e, o, h1, h2⟩ := h
    exact ⟨e, o, by rw [s a (by simp [BF.ads])]; exact h1, (dicM K kvs).mono _ _ _ _ x h2⟩
theorem bfAll_mono {Hk H Hk' H' : Hp} (x : Ex Hk Hk') : ∀ {vs : List V} {fs : List (Str × BF)}, (∀ a ∈ bads fs, H' a = H a) → BfAll K Hk H vs (fs.map (·.2)) → BfAll K Hk' H' vs (fs.map (·.2))
  | _, [], _, h => by
    cases h
    exact .nil
  | _, (n, e) :: fs, s, h => by
    cases h with
    | cons h r => exact .cons (bf_mono x (fun a ha => s a (List.mem_append_left _ ha)) h) (bfAll_mono x (fun a ha => s a (List.mem_append_right _ ha)) r)
theorem bfAll_len {Hk H : Hp} : ∀ {vs : List V} {es : List BF}, BfAll K Hk H vs es → vs.length = es.length
  | _, _, .nil => rfl
  | _, _, .cons _ r => congrArg Nat.succ (bfAll_len r)
theorem bfAll_app {Hk H : Hp} {vs ws : List V} {es fs : List BF} (h : BfAll K Hk H vs es) (h2 : BfAll K Hk H ws fs) : BfAll K Hk H (vs ++ ws) (es ++ fs) := by
  induction h with
  | nil => exact h2
  | cons h _ ih => exact .cons h ih
theorem bfAll_split {Hk H : Hp} {x : BF} {l2 : List BF} : ∀ {l1 : List BF} {vs : List V}, BfAll K Hk H vs (l1 ++ x :: l2) → ∃ v1 v v2, vs = v1 ++ v :: v2 ∧ BfAll K Hk H v1 l1 ∧ BfOk K Hk H v x ∧ BfAll K Hk H v2 l2
  | [], _, h => by
    cases h with
    | cons h r => exact ⟨[], _, _, rfl, .nil, h, r⟩
  | e :: l1, _, h => by
    cases h with
    | cons h r =>
      obtain ⟨v1, v, v2, rfl, h1, h2, h3⟩ := bfAll_split r
      exact ⟨_ :: v1, v, v2, rfl, .cons h h1, h2, h3⟩
/-- the slot -/
def bigM (K : PySem.W.Frag) (me C : Addr) (fs : List (Str × BF)) : Big := ⟨me, me :: bads fs, fun Hk H => (me :: bads fs).Nodup ∧ ∃ dx vs, H me = some (.ins C dx ((fs.map (·.1)).zip vs)) ∧ BfAll K Hk H vs (fs.map (·.2)),
  fun Hk H Hk' H' x s ⟨nd, dx, vs, h1, h2⟩ => ⟨nd, dx, vs, by rw [s me (by simp)]; exact h1, bfAll_mono x (fun a ha => s a (List.mem_cons_of_mem _ ha)) h2⟩⟩
theorem En.new_big {H0 Hk H : Hp} {σ : List (Option V)} (h : En K p H0 Hk H σ env) {i : Nat} {B : Big} (no : ∀ (j : Nat) (s : Slot), env[j]? = some s → s.chg = false) (hs : σ[i]? = some (some (.ref B.me))) (ok : ∀ a ∈ B.as, H0 a = none ∧ Hk a = none ∧ p ≠ some a ∧ H a ≠ none) (r : B.S Hk H) : En K p H0 Hk H σ (env.set i (.big B)) := by
  have key : ∀ (j : Nat) (s : Slot), (env.set i (.big B))[j]? = some s → s = .big B ∧ j = i ∨ env[j]? = some s ∧ j ≠ i := fun j s e => by
    by_cases z : i = j
    · subst z
      rw [List.getElem?_set] at e
      simp only [if_true] at e
      split at e
      · exact .inl ⟨(Option.some.inj e).symm, rfl⟩
      · cases e
    · rw [List.getElem?_set_ne z] at e
      exact .inr ⟨e, Ne.symm z⟩
  have noc : ∀ (j : Nat) (s : Slot), (env.set i (.big B))[j]? = some s → s.chg = false := fun j s e => by
    rcases key j s e with ⟨rfl, _⟩ | ⟨e, _⟩
    · rfl
    · exact no j s e
  refine ⟨by rw [List.length_set, h.len], fun j s e => ?_, fun j k l ds es e1 _ _ _ => ?_, fun a b B2 s l _ e2 c _ => ?_⟩
  · rcases key j s e with ⟨rfl, rfl⟩ | ⟨e, _⟩
    · exact ⟨_, hs, rfl, ok, r⟩
    · exact h.slot j s e
  · cases noc _ _ e1
  · rw [noc _ _ e2] at c
    cases c
/-- the only one of its kind -/
def OneBig (env : List Slot) (i : Nat) : Prop := ∀ j B, env[j]? = some (.big B) → j = i
theorem En.put_big {H0 Hk H H1 : Hp} {σ : List (Option V)} (h : En K p H0 Hk H σ env) {i : Nat} {B B' : Big} (e : env[i]? = some (.big B)) (one : OneBig env i) (hme : B'.me = B.me) (same : ∀ a, a ∉ B.as → H a ≠ none → H1 a = H a) (new : ∀ a ∈ B'.as, a ∈ B.as ∨ H a = none)
    (ok : ∀ a ∈ B'.as, H0 a = none ∧ Hk a = none ∧ p ≠ some a ∧ H1 a ≠ none) (r : B'.S Hk H1) : En K p H0 Hk H1 σ (env.set i (.big B')) := by
  have hlt : i < env.length := (List.getElem?_eq_some_iff.mp e).1
  have key : ∀ (j : Nat) (s : Slot), (env.set i (.big B'))[j]? = some s → s = .big B' ∧ j = i ∨ env[j]? = some s ∧ j ≠ i := fun j s e => by
    by_cases z : i = j
    · subst z
      rw [List.getElem?_set] at e
      simp only [if_true, hlt] at e
      exact .inl ⟨(Option.some.inj e).symm, rfl⟩
    · rw [List.getElem?_set_ne z] at e
      exact .inr ⟨e, Ne.symm z⟩
  have out : ∀ (j : Nat) (s : Slot) (l : Addr), env[j]? = some s → s.chg = true → σ[j]? = some (some (.ref l)) → l ∉ B.as := fun j s l e2 c e3 => h.bigs i j B s l e e2 c e3
  obtain ⟨ov, b0, b1, b2, b3⟩ := h.slot i _ e
  have old : ∀ (j : Nat) (s : Slot), env[j]? = some s → j ≠ i → ∃ ov, σ[j]? = some ov ∧ SlOk K p H0 Hk H1 ov s := fun j s ej nj => by
    obtain ⟨ov, e1, q⟩ := h.slot j s ej
    refine ⟨ov, e1, ?_⟩
    cases s with
    | no => exact True.intro
    | pot => exact q
    | dat d => exact q
    | ext S => exact q
    | big B2 => exact absurd (one j B2 ej) nj
    | mov S =>
      obtain ⟨m, o, a1, a2, a3, a4, a5, a6⟩ := q
      refine ⟨m, o, a1, a2, a3, a4, ?_, a6⟩
      rw [same m (out j _ m ej rfl (by rw [e1, a1])) (by rw [a5]; exact nofun)]
      exact a5
    | own ds =>
      obtain ⟨m, ws, a1, a2, a3, a4, a5, a6⟩ := q
      refine ⟨m, ws, a1, a2, a3, a4, ?_, a6⟩
      rw [same m (out j _ m ej rfl (by rw [e1, a1])) (by rw [a5]; exact nofun)]
      exact a5
  refine ⟨by rw [List.length_set, h.len], fun j s ej => ?_, fun j k l ds es e1 e2 e3 e4 => ?_, fun a b B2 s l e1 e2 c e3 => ?_⟩
  · rcases key j s ej with ⟨rfl, rfl⟩ | ⟨ej, nj⟩
    · exact ⟨_, b0, by rw [b1, hme], ok, r⟩
    · exact old j s ej nj
  · rcases key _ _ e1 with ⟨z, _⟩ | ⟨f1, _⟩
    · cases z
    · rcases key _ _ e2 with ⟨z, _⟩ | ⟨f2, _⟩
      · cases z
      · exact h.apart j k l ds es f1 f2 e3 e4
  · rcases key _ _ e2 with ⟨rfl, _⟩ | ⟨f2, _⟩
    · cases c
    · rcases key _ _ e1 with ⟨z, _⟩ | ⟨f1, na⟩
      · have zz := Slot.big.inj z
        subst zz
        intro hm
        rcases new l hm with z | z
        · exact out b s l f2 c e3 z
        · obtain ⟨ov2, g1, q⟩ := h.slot b s f2
          rw [e3] at g1
          have g2 := Option.some.inj g1
          subst g2
          cases s with
          | own ds =>
            obtain ⟨m, ws, a1, a2, a3, a4, a5, a6⟩ := q
            injection (Option.some.inj a1) with a1
            rw [← a1, z] at a5
            cases a5
          | mov S =>
            obtain ⟨m, o, a1, a2, a3, a4, a5, a6⟩ := q
            injection (Option.some.inj a1) with a1
            rw [← a1, z] at a5
            cases a5
          | _ => cases c
      · exact absurd (one a B2 f1) na
theorem bigM_at {H0 Hk H : Hp} {σ : List (Option V)} {i : Nat} {me C : Addr} {fs : List (Str × BF)} (en : En K p H0 Hk H σ env) (hi : env[i]? = some (.big (bigM K me C fs))) : σ[i]? = some (some (.ref me)) ∧ (∀ a ∈ me :: bads fs, H0 a = none ∧ Hk a = none ∧ p ≠ some a ∧ H a ≠ none) ∧ (me :: bads fs).Nodup ∧ ∃ dx vs, H me = some (.ins C dx ((fs.map (·.1)).zip vs)) ∧ BfAll K Hk H vs (fs.map (·.2)) := by
  obtain ⟨ov, h1, rfl, h2, h3, h4⟩ := en.slot i _ hi
  exact ⟨h1, h2, h3, h4⟩
theorem bads_app (a b : List (Str × BF)) : bads (a ++ b) = bads a ++ bads b := by
  unfold bads
  rw [List.flatMap_append]
theorem look_mid {f : Str} {v : V} : ∀ {xs ys : List Str} {v1 v2 : List V}, xs.length = v1.length → f ∉ xs → ((xs ++ f :: ys).zip (v1 ++ v :: v2)).lookup f = some v
  | [], ys, [], v2, _, _ => by
    show ((f, v) :: ys.zip v2).lookup f = some v
    rw [List.lookup_cons, beq_self_eq_true]
  | [], _, _ :: _, _, h, _ => by cases h
  | _ :: _, _, [], _, h, _ => by cases h
  | x :: xs, ys, w :: v1, v2, h, n => by
    show ((x, w) :: ((xs ++ f :: ys).zip (v1 ++ v :: v2))).lookup f = some v
    rw [List.lookup_cons, show (f == x) = false from beq_eq_false_iff_ne.mpr fun z => n (z ▸ List.mem_cons_self)]
    exact look_mid (Nat.succ.inj h) fun z => n (List.mem_cons_of_mem _ z)
/-- self.f = value, data -/
theorem s_bfld {i : Nat} {f : Str} {me C : Addr} {fs : List (Str × BF)} (hi : env[i]? = some (.big (bigM K me C fs))) (one : OneBig env i) (h : WpE K p tv env fun d => Cls K C ∧ NoAttr K C f ∧ f ∉ fs.map (·.1) ∧ fs.length < 900 ∧ O.nx (env.set i (.big (bigM K me C (fs ++ [(f, .dat d)]))))) (hK : K' = K := by with_unfolding_all rfl) : WpS K p (sFld K' (tVar i) tv f) env O := fun H0 Hk0 σ Hk H D g en k => by
  subst hK
  refine h H0 σ Hk H _ g.kr g.po en fun y d Hk1 H1 g1 ry ⟨c, na, nf, hx, q⟩ => ?_
  obtain ⟨hs, ok, nd, dx, vs, hm, r⟩ := bigM_at (en.go g1) hi
  have hv := bfAll_len r
  rw [List.length_map] at hv
  have om := ok me (by simp)
  refine ⟨.ref me, hs, me, C, dx, _, rfl, hm, c, na, ?_, ?_⟩
  · rw [List.length_zip, List.length_map]
    omega
  · have nme : ∀ a ∈ bads fs, a ≠ me := fun a ha z => (List.nodup_cons.mp nd).1 (z ▸ ha)
    have eb : bads (fs ++ [(f, .dat d)]) = bads fs := by rw [bads_app]; simp [bads, BF.ads]
    rw [putF_new (by rw [List.length_map]; omega) nf]
    refine k.nx _ _ Hk1 _ ((g.trans g1).mut om.1 om.2.2.1 om.2.1) (En.put_big (B' := bigM _ me C (fs ++ [(f, .dat d)])) (en.go g1) hi one rfl (fun a ha _ => upd_ne fun z => ha (z ▸ List.mem_cons_self)) (fun a ha => .inl ?_) (fun a ha => ?_) ⟨?_, dx, vs ++ [y], ?_, ?_⟩) q
    · show a ∈ me :: bads fs
      rw [← eb]
      exact ha
    · have ha' : a ∈ me :: bads fs := by rw [← eb]; exact ha
      refine ⟨(ok a ha').1, (ok a ha').2.1, (ok a ha').2.2.1, ?_⟩
      by_cases z : a = me
      · rw [z, upd_same]; exact nofun
      · rw [upd_ne z]; exact (ok a ha').2.2.2
    · rw [eb]; exact nd
    · rw [upd_same, List.map_append]; rfl
    · rw [List.map_append]
      exact bfAll_app (bfAll_mono (Ex.refl _) (fun a ha => upd_ne (nme a ha)) r) (.cons ry .nil)

/-- what a new part at a new address does -/
theorem big_new {H0 Hk0 Hk H H1 : Hp} {σ : List (Option V)} {i : Nat} {f : Str} {me C q dx : Addr} {fs : List (Str × BF)} {vs : List V} {b : BF} {o : HO} (hq : H q = none) (g : Go p Hk0 H0 Hk H) (en : En K p H0 Hk H σ env) (hi : env[i]? = some (.big (bigM K me C fs))) (one : OneBig env i)
    (hb : b.ads = [q]) (hok : ∀ H', H' q = some o → BfOk K Hk H' (.ref q) b) (nf : f ∉ fs.map (·.1)) (hm : H me = some (.ins C dx ((fs.map (·.1)).zip vs))) (r : BfAll K Hk H vs (fs.map (·.2))) (nd : (me :: bads fs).Nodup) (ok : ∀ a ∈ me :: bads fs, H0 a = none ∧ Hk a = none ∧ p ≠ some a ∧ H a ≠ none)
    (eH : H1 = upd (upd H q o) me (.ins C dx (putF f (.ref q) ((fs.map (·.1)).zip vs)))) :
    Go p Hk0 H0 Hk H1 ∧ En K p H0 Hk H1 σ (env.set i (.big (bigM K me C (fs ++ [(f, b)])))) := by
  have hv := bfAll_len r
  rw [List.length_map] at hv
  have om := ok me (by simp)
  have qp : p ≠ some q := pot_ne g.po hq
  have qk : Hk q = none := fresh_back g.kr hq
  have q0 : H0 q = none := fresh0 g hq
  have qm : q ≠ me := fun z => by rw [z] at hq; rw [hq] at hm; cases hm
  have qn : q ∉ me :: bads fs := fun z => (ok q z).2.2.2 hq
  have nme : ∀ a ∈ bads fs, a ≠ me := fun a ha z => (List.nodup_cons.mp nd).1 (z ▸ ha)
  have eb : bads (fs ++ [(f, b)]) = bads fs ++ [q] := by rw [bads_app]; simp [bads, hb]
  have at1 : ∀ a, a ≠ q → a ≠ me → H1 a = H a := fun a z1 z2 => by rw [eH, upd_ne z2, upd_ne z1]
  have atq : H1 q = some o := by rw [eH, upd_ne qm, upd_same]
  refine ⟨?_, En.put_big (B' := bigM _ me C (fs ++ [(f, b)])) en hi one rfl (fun a ha hl => ?_) (fun a ha => ?_) (fun a ha => ?_) ⟨?_, dx, vs ++ [.ref q], ?_, ?_⟩⟩
  · rw [eH]
    exact (g.mut q0 qp qk).mut om.1 om.2.2.1 om.2.1
  · exact at1 a (fun z => hl (z ▸ hq)) (fun z => ha (z ▸ List.mem_cons_self))
  · have ha' : a ∈ me :: bads fs ++ [q] := by
      have : a ∈ me :: bads (fs ++ [(f, b)]) := ha
      rw [eb] at this
      exact this
    rcases List.mem_append.mp ha' with z | z
    · exact .inl z
    · rw [List.mem_singleton.mp z]
      exact .inr hq
  · have ha' : a ∈ me :: bads fs ++ [q] := by
      have : a ∈ me :: bads (fs ++ [(f, b)]) := ha
      rw [eb] at this
      exact this
    rcases List.mem_append.mp ha' with z | z
    · refine ⟨(ok a z).1, (ok a z).2.1, (ok a z).2.2.1, ?_⟩
      by_cases y : a = me
      · rw [y, eH, upd_same]; exact nofun
      · rw [at1 a (fun y => qn (y ▸ z)) y]; exact (ok a z).2.2.2
    · rw [List.mem_singleton.mp z]
      exact ⟨q0, qk, qp, by rw [atq]; exact nofun⟩
  · rw [eb]
    show (me :: bads fs ++ [q]).Nodup
    exact List.nodup_append.mpr ⟨nd, by simp, fun a ha b hb => by rw [List.mem_singleton.mp hb]; exact fun z => qn (z ▸ ha)⟩
  · rw [eH, upd_same, putF_new (by rw [List.length_map]; omega) nf, List.map_append]; rfl
  · rw [List.map_append]
    exact bfAll_app (bfAll_mono (Ex.refl _) (fun a ha => at1 a (fun z => qn (List.mem_cons_of_mem _ (z ▸ ha))) (nme a ha)) r) (.cons (hok H1 atq) .nil)
/-- self.f = [] -/
theorem s_bfldL {i : Nat} {f : Str} {me C : Addr} {fs : List (Str × BF)} (hi : env[i]? = some (.big (bigM K me C fs))) (one : OneBig env i) (c : Cls K C) (na : NoAttr K C f) (nf : f ∉ fs.map (·.1)) (hx : fs.length < 900) (h : ∀ a, O.nx (env.set i (.big (bigM K me C (fs ++ [(f, .own a [])]))))) (hK : K' = K := by with_unfolding_all rfl) : WpS K p (sFld K' (tVar i) (tLst tNil) f) env O := fun H0 Hk0 σ Hk H D g en k => by
  subst hK
  refine ⟨Nat.zero_le _, fun q hq => ?_⟩
  obtain ⟨hs, ok, nd, dx, vs, hm, r⟩ := bigM_at en hi
  have hv := bfAll_len r
  rw [List.length_map] at hv
  have qm : q ≠ me := fun z => by rw [z] at hq; rw [hq] at hm; cases hm
  obtain ⟨g1, en1⟩ := big_new (f := f) (b := .own q []) (o := .lst []) hq g en hi one rfl (fun H' e => ⟨rfl, [], e, .nil⟩) nf hm r nd ok rfl
  refine ⟨.ref me, hs, me, C, dx, _, rfl, by rw [upd_ne (Ne.symm qm)]; exact hm, c, na, ?_, k.nx _ _ Hk _ g1 en1 (h q)⟩
  rw [List.length_zip, List.length_map]
  omega
/-- self.f = {} -/
theorem s_bfldD {i : Nat} {f : Str} {me C : Addr} {fs : List (Str × BF)} (hi : env[i]? = some (.big (bigM K me C fs))) (one : OneBig env i) (c : Cls K C) (na : NoAttr K C f) (nf : f ∉ fs.map (·.1)) (hx : fs.length < 900) (h : ∀ a, O.nx (env.set i (.big (bigM K me C (fs ++ [(f, .dic a [])]))))) (hK : K' = K := by with_unfolding_all rfl) : WpS K p (sFld K' (tVar i) tNewX f) env O := fun H0 Hk0 σ Hk H D g en k => by
  subst hK
  intro q u0 hq emp
  obtain ⟨hs, ok, nd, dx, vs, hm, r⟩ := bigM_at en hi
  have hv := bfAll_len r
  rw [List.length_map] at hv
  have qm : q ≠ me := fun z => by rw [z] at hq; rw [hq] at hm; cases hm
  obtain ⟨g1, en1⟩ := big_new (f := f) (b := .dic q []) (o := u0) hq g en hi one rfl (fun H' e => ⟨rfl, u0, e, dicM_of upd_same (emp _ _)⟩) nf hm r nd ok rfl
  refine ⟨.ref me, hs, me, C, dx, _, rfl, by rw [upd_ne (Ne.symm qm)]; exact hm, c, na, ?_, k.nx _ _ Hk _ g1 en1 (h q)⟩
  rw [List.length_zip, List.length_map]
  omega
/-- what a part that is changed does -/
theorem big_put {H0 Hk0 Hk H : Hp} {σ : List (Option V)} {i : Nat} {f : Str} {me C q dx : Addr} {l1 l2 : List (Str × BF)} {v1 v2 : List V} {b b' : BF} {o : HO} (g : Go p Hk0 H0 Hk H) (en : En K p H0 Hk H σ env) (hi : env[i]? = some (.big (bigM K me C (l1 ++ (f, b) :: l2)))) (one : OneBig env i)
    (hb : b.ads = [q]) (hb' : b'.ads = [q]) (hok : BfOk K Hk (upd H q o) (.ref q) b') (hm : H me = some (.ins C dx ((((l1 ++ (f, b) :: l2)).map (·.1)).zip (v1 ++ .ref q :: v2)))) (r1 : BfAll K Hk H v1 (l1.map (·.2))) (r2 : BfAll K Hk H v2 (l2.map (·.2))) (nd : (me :: bads (l1 ++ (f, b) :: l2)).Nodup) (ok : ∀ a ∈ me :: bads (l1 ++ (f, b) :: l2), H0 a = none ∧ Hk a = none ∧ p ≠ some a ∧ H a ≠ none) :
    Go p Hk0 H0 Hk (upd H q o) ∧ En K p H0 Hk (upd H q o) σ (env.set i (.big (bigM K me C (l1 ++ (f, b') :: l2)))) := by
  have eb : ∀ c : BF, c.ads = [q] → bads (l1 ++ (f, c) :: l2) = bads l1 ++ q :: bads l2 := fun c hc => by rw [bads_app]; simp [bads, hc]
  rw [eb b hb] at nd
  have ok' := ok
  rw [eb b hb] at ok'
  have oq := ok' q (by simp)
  have nd1 := List.nodup_cons.mp nd
  have nd2 := List.nodup_append.mp nd1.2
  have qm : q ≠ me := fun z => nd1.1 (by simp [z])
  have q1 : ∀ a ∈ bads l1, a ≠ q := fun a ha => nd2.2.2 a ha q (List.mem_cons_self)
  have q2 : ∀ a ∈ bads l2, a ≠ q := fun a ha z => (List.nodup_cons.mp nd2.2.1).1 (z ▸ ha)
  have emap : ((l1 ++ (f, b') :: l2)).map (·.1) = ((l1 ++ (f, b) :: l2)).map (·.1) := by simp
  refine ⟨g.mut oq.1 oq.2.2.1 oq.2.1, En.put_big (B' := bigM _ me C (l1 ++ (f, b') :: l2)) en hi one rfl (fun a ha _ => upd_ne fun z => ha ?_) (fun a ha => .inl ?_) (fun a ha => ?_) ⟨?_, dx, v1 ++ .ref q :: v2, ?_, ?_⟩⟩
  · show a ∈ me :: bads (l1 ++ (f, b) :: l2)
    rw [eb b hb, z]
    simp
  · show a ∈ me :: bads (l1 ++ (f, b) :: l2)
    rw [eb b hb, ← eb b' hb']
    exact ha
  · have ha' : a ∈ me :: bads (l1 ++ (f, b) :: l2) := by
      rw [eb b hb, ← eb b' hb']
      exact ha
    refine ⟨(ok a ha').1, (ok a ha').2.1, (ok a ha').2.2.1, ?_⟩
    by_cases y : a = q
    · rw [y, upd_same]; exact nofun
    · rw [upd_ne y]; exact (ok a ha').2.2.2
  · rw [eb b' hb']; exact nd
  · rw [upd_ne (Ne.symm qm), emap]; exact hm
  · rw [List.map_append, List.map_cons]
    exact bfAll_app (bfAll_mono (Ex.refl _) (fun a ha => upd_ne (q1 a ha)) r1) (.cons hok (bfAll_mono (Ex.refl _) (fun a ha => upd_ne (q2 a ha)) r2))
/-- self.f.append(value) -/
theorem s_bapp {i : Nat} {f : Str} {me C a : Addr} {l1 l2 : List (Str × BF)} {ds : List PyData} (hi : env[i]? = some (.big (bigM K me C (l1 ++ (f, .own a ds) :: l2)))) (one : OneBig env i) (c : Cls K C) (na : NoAttr K C f) (nf : f ∉ l1.map (·.1)) (h : WpE K p te env fun d => ds.length < 100000 ∧ O.nx (env.set i (.big (bigM K me C (l1 ++ (f, .own a (ds ++ [d])) :: l2))))) (hK : K' = K := by with_unfolding_all rfl) : WpS K p (tDrop (tBM K' "list" rAppend (tFld K' (tVar i) f) (tCons te tNil))) env O := fun H0 Hk0 σ Hk H D g en k => by
  subst hK
  have look : ∀ {Hk H : Hp}, En K' p H0 Hk H σ env → σ[i]? = some (some (.ref me)) ∧ ∃ dx v1 v2 xs, H me = some (.ins C dx ((((l1 ++ (f, .own a ds) :: l2)).map (·.1)).zip (v1 ++ .ref a :: v2))) ∧ BfAll K' Hk H v1 (l1.map (·.2)) ∧ BfAll K' Hk H v2 (l2.map (·.2)) ∧ H a = some (.lst xs) ∧ DxAll K' Hk xs ds ∧ (me :: bads (l1 ++ (f, .own a ds) :: l2)).Nodup ∧ (∀ b ∈ me :: bads (l1 ++ (f, .own a ds) :: l2), H0 b = none ∧ Hk b = none ∧ p ≠ some b ∧ H b ≠ none) := fun en => by
    obtain ⟨hs, ok, nd, dx, vs, hm, r⟩ := bigM_at en hi
    rw [List.map_append, List.map_cons] at r
    obtain ⟨v1, v, v2, rfl, r1, ⟨rfl, xs, ha, rd⟩, r2⟩ := bfAll_split r
    exact ⟨hs, dx, v1, v2, xs, hm, r1, r2, ha, rd, nd, ok⟩
  obtain ⟨hs, dx, v1, v2, xs, hm, r1, r2, ha, rd, nd, ok⟩ := look en
  refine ⟨.ref me, hs, me, C, dx, _, .ref a, rfl, hm, c, na, ?_, .inl ⟨rfl, xs, SqL.of ha⟩, ?_⟩
  · rw [List.map_append, List.map_cons]
    exact look_mid (by rw [bfAll_len r1, List.length_map, List.length_map]) nf
  · refine h H0 σ Hk H _ g.kr g.po en fun v d Hk' H' g' rv ⟨hz, q⟩ => ?_
    obtain ⟨_, dx', w1, w2, xs', hm', s1, s2, ha', rd', nd', ok'⟩ := look (en.go g')
    obtain ⟨gg, en'⟩ := big_put (b' := .own a (ds ++ [d])) (o := .lst (xs' ++ [v])) (g.trans g') (en.go g') hi one rfl rfl ⟨rfl, _, upd_same, dpAll_app rd' (.cons rv .nil)⟩ hm' s1 s2 nd' ok'
    exact ⟨a, xs', v, rfl, rfl, ha', sz_lt (by rw [dpAll_len rd']; exact hz), k.nx _ σ Hk' _ gg en' q⟩
/-- self.f[key] = value -/
theorem s_bput {i : Nat} {f : Str} {me C a : Addr} {l1 l2 : List (Str × BF)} {kvs : List (PyData × PyData)} (hi : env[i]? = some (.big (bigM K me C (l1 ++ (f, .dic a kvs) :: l2)))) (one : OneBig env i) (c : Cls K C) (na : NoAttr K C f) (nf : f ∉ l1.map (·.1)) (h : WpE K p tv env fun z => WpE K p tk env fun y => KeyOk y ∧ kvs.length < 100000 ∧ O.nx (env.set i (.big (bigM K me C (l1 ++ (f, .dic a (putD kvs y z)) :: l2))))) (hK : K' = K := by with_unfolding_all rfl) :
    WpS K p (tAsg tv (gSub (tFld K' (tVar i) f) tk (sPutX K'))) env O := fun H0 Hk0 σ Hk H D g en k => by
  subst hK
  have look : ∀ {Hk H : Hp}, En K' p H0 Hk H σ env → σ[i]? = some (some (.ref me)) ∧ ∃ dx v1 v2 o, H me = some (.ins C dx ((((l1 ++ (f, .dic a kvs) :: l2)).map (·.1)).zip (v1 ++ .ref a :: v2))) ∧ BfAll K' Hk H v1 (l1.map (·.2)) ∧ BfAll K' Hk H v2 (l2.map (·.2)) ∧ H a = some o ∧ DicK K' Hk H a kvs ∧ (me :: bads (l1 ++ (f, .dic a kvs) :: l2)).Nodup ∧ (∀ b ∈ me :: bads (l1 ++ (f, .dic a kvs) :: l2), H0 b = none ∧ Hk b = none ∧ p ≠ some b ∧ H b ≠ none) := fun {Hk H} en => by
    obtain ⟨hs, ok, nd, dx, vs, hm, r⟩ := bigM_at en hi
    rw [List.map_append, List.map_cons] at r
    obtain ⟨v1, v, v2, rfl, r1, ⟨rfl, o, ha, S⟩, r2⟩ := bfAll_split r
    refine ⟨hs, dx, v1, v2, o, hm, r1, r2, ha, S.mono (fun _ _ r => r) (fun _ _ r => r) (fun u hu => ?_), nd, ok⟩
    rw [upd_same] at hu
    rw [← Option.some.inj hu]
    exact ha
  refine h H0 σ Hk H _ g.kr g.po en fun z dz Hk1 H1 g1 rz h1 => ?_
  obtain ⟨hs, dx, v1, v2, o, hm, r1, r2, ha, Dk, nd, ok⟩ := look (en.go g1)
  refine ⟨.ref me, hs, me, C, dx, _, .ref a, rfl, hm, c, na, ?_, h1 H0 σ Hk1 H1 _ g1.kr g1.po (en.go g1) fun y dy Hk2 H2 g2 ry ⟨⟨⟨ks, hks, hdp⟩, hni⟩, hz, q⟩ => ?_⟩
  · rw [List.map_append, List.map_cons]
    exact look_mid (by rw [bfAll_len r1, List.length_map, List.length_map]) nf
  · obtain ⟨_, dx', w1, w2, o', hm', s1, s2, ha', D2, nd', ok'⟩ := look ((en.go g1).go g2)
    have dyr := dx_dp dy (key_noDict dy ks hks) (dp_mono g2.kr dy ry)
    refine ⟨a, kvs, RkOf K' Hk2, RvOf K' Hk2, dy, dz, ks, rfl, D2, fun d a r => dp_mono0 g2.kr d r, dyr, hks, hni, hdp, fun a e => by show Dp K' Hk2 (.ref a) dy; rw [← e]; exact dx_dp dy (key_noDict dy ks hks) ry, fun r rr => ⟨z, rr, dp_mono g2.kk dz rz⟩, sz_lt (by omega), fun u D3 => ?_⟩
    obtain ⟨gg, en'⟩ := big_put (b' := .dic a (putD kvs dy dz)) (o := u) ((g.trans g1).trans g2) ((en.go g1).go g2) hi one rfl rfl ⟨rfl, u, upd_same, dicM_of upd_same D3⟩ hm' s1 s2 nd' ok'
    exact k.nx _ _ Hk2 _ gg en' q

/-- all parts are known from now on -/
theorem bf_pub {Hk0 H0 H : Hp} {me : Addr} : ∀ {fs : List (Str × BF)} {Hk : Hp} {vs : List V}, Go none Hk0 H0 Hk H → BfAll K Hk H vs (fs.map (·.2)) → (me :: bads fs).Nodup → (∀ a ∈ me :: bads fs, H0 a = none ∧ Hk a = none) → ∃ Hk', Go none Hk0 H0 Hk' H ∧ Ex Hk Hk' ∧ Hk' me = none ∧ DxAll K Hk' vs (fs.map fun q => q.2.asD)
  | [], Hk, _, g, h, _, ok => by
    cases h
    exact ⟨Hk, g, Ex.refl _, (ok me (by simp)).2, .nil⟩
  | (n, e) :: fs, Hk, _, g, h, nd, ok => by
    cases h with
    | @cons v vs _ _ h r =>
      cases e with
      | dat d =>
        obtain ⟨Hk', g', x, hm, q⟩ := bf_pub (me := me) g r nd ok
        exact ⟨Hk', g', x, hm, .cons (dp_mono x d h) q⟩
      | own a ds =>
        obtain ⟨rfl, xs, ha, rd⟩ := h
        have nd' : (me :: a :: bads fs).Nodup := nd
        have oa := ok a (by simp [bads, BF.ads])
        have x1 : Ex Hk (upd Hk a (.lst xs)) := Ex.new oa.2
        have nn : ∀ b ∈ me :: bads fs, b ≠ a := fun b hb z => by
          have := List.nodup_cons.mp nd'
          rcases List.mem_cons.mp hb with y | y
          · exact this.1 (by simp [← y, z])
          · exact (List.nodup_cons.mp this.2).1 (z ▸ y)
        obtain ⟨Hk', g', x, hm, q⟩ := bf_pub (me := me) (g.pub oa.1 (fun z => nomatch z) oa.2 ha) (bfAll_mono x1 (fun _ _ => rfl) r) (by
          have := List.nodup_cons.mp nd'
          exact List.nodup_cons.mpr ⟨fun z => this.1 (List.mem_cons_of_mem _ z), (List.nodup_cons.mp this.2).2⟩) (fun b hb => by
          have hb2 : b ∈ me :: bads ((n, BF.own a ds) :: fs) := by
            rcases List.mem_cons.mp hb with y | y
            · simp [y]
            · exact List.mem_cons_of_mem _ (List.mem_append_right _ y)
          exact ⟨(ok b hb2).1, by rw [upd_ne (nn b hb)]; exact (ok b hb2).2⟩)
        exact ⟨Hk', g', x1.trans x, hm, .cons (.lst (SqL.of (x _ _ upd_same)) (dpAll_mono (x1.trans x) ds rd)) q⟩
      | dic a kvs =>
        obtain ⟨rfl, o, ha, S⟩ := h
        have nd' : (me :: a :: bads fs).Nodup := nd
        have oa := ok a (by simp [bads, BF.ads])
        have x1 : Ex Hk (upd Hk a o) := Ex.new oa.2
        have nn : ∀ b ∈ me :: bads fs, b ≠ a := fun b hb z => by
          have := List.nodup_cons.mp nd'
          rcases List.mem_cons.mp hb with y | y
          · exact this.1 (by simp [← y, z])
          · exact (List.nodup_cons.mp this.2).1 (z ▸ y)
        obtain ⟨Hk', g', x, hm, q⟩ := bf_pub (me := me) (g.pub oa.1 (fun z => nomatch z) oa.2 ha) (bfAll_mono x1 (fun _ _ => rfl) r) (by
          have := List.nodup_cons.mp nd'
          exact List.nodup_cons.mpr ⟨fun z => this.1 (List.mem_cons_of_mem _ z), (List.nodup_cons.mp this.2).2⟩) (fun b hb => by
          have hb2 : b ∈ me :: bads ((n, BF.dic a kvs) :: fs) := by
            rcases List.mem_cons.mp hb with y | y
            · simp [y]
            · exact List.mem_cons_of_mem _ (List.mem_append_right _ y)
          exact ⟨(ok b hb2).1, by rw [upd_ne (nn b hb)]; exact (ok b hb2).2⟩)
        have D2 : DicK K Hk' Hk' a kvs := S.mono (fun d _ r => dp_mono0 (x1.trans x) d r) (fun d _ ⟨v, rv, h⟩ => ⟨v, rv, dp_mono (x1.trans x) d h⟩) fun u hu => by
          rw [upd_same] at hu
          rw [← Option.some.inj hu]
          exact x _ _ upd_same
        refine ⟨Hk', g', x1.trans x, hm, .cons ?_ q⟩
        show Dx K Hk' _ (dkD kvs)
        cases kvs with
        | nil =>
          obtain ⟨o, es, ep, xs, e1, e2, e3, e4, e5, e6, e7, e8⟩ := D2
          cases e8
          exact .dc0 ⟨o, es, ep, [], e1, e2, e3, e4, e5, e6, e7, .nil⟩
        | cons q r => exact dx_of_dic D2 nofun
theorem bodyB {pre : Addr → List PyData → (List Str → List PyData → Prop) → Prop} {N : List Str} {ts : TS} {vs : List V} {H : Hp} {Q : VK} {E : XK} (s : SpI K pre vs H Q E)
    (h : ∀ me C ds Φ, pre C ds Φ → WpS K none ts (.big (bigM K me C []) :: (ds.map .dat ++ List.replicate (N.length - (ds.length + 1)) .no)) ⟨fun e => ∃ fs, e[0]? = some (.big (bigM K me C fs)) ∧ Φ (fs.map (·.1)) (fs.map fun q => q.2.asD), fun _ => False, fun _ => False, fun _ => False, fun _ => False⟩) : ts { nx := fun _ H' => Q .non H', rt := Q } (L2.start N vs) H := by
  obtain ⟨l, C, dx, rest, Hk, ds, Φ, rfl, hl, hk, e, r, f, k⟩ := s
  have d0 : del H l l = none := by unfold del; simp
  have eH : Ex Hk H := fun a o ha => by
    have h1 := e a o ha
    by_cases z : a = l
    · subst z
      rw [d0] at h1
      cases h1
    · rwa [del_ne z] at h1
  have en0 : En K none (del H l) Hk H (L2.start N (.non :: rest)) (PyData.none :: ds |>.map .dat |> (· ++ List.replicate (N.length - (PyData.none :: ds).length) .no)) := en_start N (.cons .non r)
  have no : ∀ (j : Nat) (s : Slot), (PyData.none :: ds |>.map .dat |> (· ++ List.replicate (N.length - (PyData.none :: ds).length) Slot.no))[j]? = some s → s.chg = false := fun j s e => by
    rcases List.mem_append.mp (List.mem_of_getElem? e) with m | m
    · obtain ⟨d, _, rfl⟩ := List.mem_map.mp m
      rfl
    · rw [(List.mem_replicate.mp m).2]
      rfl
  have en00 := en0.set_any (i := 0) (ov := some (.ref l)) (sl := .no) True.intro (fun _ q => nomatch q) (fun _ q => nomatch q) (fun q => nomatch q)
  have len0 : 0 < (L2.start N (.non :: rest)).length := by
    rw [en0.len]
    simp
  have hs0 : ((L2.start N (.non :: rest)).set 0 (some (V.ref l)))[0]? = some (some (.ref l)) := by
    rw [List.getElem?_set]
    simp [len0]
  have en1 := En.new_big (i := 0) (B := bigM K l C []) en00 (fun j s e => by
    by_cases z : 0 = j
    · subst z
      rw [List.getElem?_set] at e
      simp only [if_true] at e
      split at e
      · rw [← Option.some.inj e]; rfl
      · cases e
    · rw [List.getElem?_set_ne z] at e
      exact no j s e) hs0 (fun a ha => by
    have ea : a = l := by
      have : a ∈ [l] := ha
      simpa using this
    subst ea
    refine ⟨d0, hk, nofun, fun e0 => ?_⟩
    rw [hl] at e0
    cases e0) ⟨List.nodup_cons.mpr ⟨nofun, List.nodup_nil⟩, dx, [], hl, .nil⟩
  have g0 : Go none Hk (del H l) Hk H := ⟨Ex.refl _, eH, fun a o _ ha => by
    by_cases z : a = l
    · subst z
      rw [d0] at ha
      cases ha
    · rwa [del_ne z] at ha, fun _ _ z => z, True.intro⟩
  have eset : ((PyData.none :: ds |>.map .dat |> (· ++ List.replicate (N.length - (PyData.none :: ds).length) Slot.no)).set 0 .no).set 0 (.big (bigM K l C [])) = .big (bigM K l C []) :: (ds.map .dat ++ List.replicate (N.length - (ds.length + 1)) .no) := rfl
  rw [eset] at en1
  refine h l C ds Φ f (del H l) Hk _ Hk H _ g0 en1 ⟨fun e2 σ2 Hk2 H2 g2 en2 ⟨fs, he, q⟩ => ?_, fun _ _ _ _ _ _ z => z.elim, fun _ _ _ _ _ _ z => z.elim, fun _ _ _ _ _ _ z => z.elim, fun _ _ _ _ _ _ _ _ _ _ z => z.elim⟩
  obtain ⟨_, ok, nd, dx2, ws, hm, r2⟩ := bigM_at en2 he
  obtain ⟨Hk', g', x, hm', rr⟩ := bf_pub (me := l) g2 r2 nd (fun a ha => ⟨(ok a ha).1, (ok a ha).2.1⟩)
  exact k _ ws _ dx2 Hk' H2 g' hm' hm (by rw [List.length_map, List.length_map]) rr q
/-! ### a dict as data, an empty one too -/
theorem dic_of_dk {Hk : Hp} {v : V} {kvs : List (PyData × PyData)} (h : Dx K Hk v (dkD kvs)) (hk : kvs = [] ∨ KV kvs) : ∃ l, v = .ref l ∧ DicK K Hk Hk l kvs := by
  rcases hk with rfl | hk
  · generalize hd : dkD [] = d at h
    cases h with
    | dc0 h =>
      obtain ⟨o, es, ep, xs, e1, e2, e3, e4, e5, e6, e7, e8⟩ := h
      cases e8
      exact ⟨_, rfl, o, es, ep, [], e1, e2, e3, e4, e5, e6, e7, .nil⟩
    | @dct l ks vs es h ne n ra =>
      exfalso
      cases ks with
      | nil => exact ne rfl
      | cons k ks =>
        cases ra with
        | nil => cases n
        | cons _ r =>
          have hx := PyData.dict.inj hd
          rw [List.zip_cons_cons] at hx
          simp only [List.cons.injEq, Prod.mk.injEq] at hx
          rw [List.zip_cons_cons] at h
          obtain ⟨o, es2, ep, xs2, _, _, _, _, _, _, _, e8⟩ := h
          cases e8 with
          | cons h8 _ =>
            have := h8.1
            rw [← hx.1.1] at this
            cases this
    | obj h n ra =>
      unfold dkD at hd
      simp at hd
    | _ => unfold dkD at hd; cases hd
  · have e : dkD kvs = .dict kvs := by
      obtain ⟨k, z, r, rfl, _⟩ := hk
      rfl
    rw [e] at h
    exact dic_of_dx h hk
theorem e_mgetK1 {x : TE} (h : WpE K p x env fun d => ∃ kvs, d = dkD kvs ∧ (kvs = [] ∨ KV kvs) ∧ WpE K p tk env fun y => KeyOk y ∧ Φ ((atD kvs y).getD .none)) : WpE K p (tMX (rGetM K) x (tCons tk tNil)) env Φ := fun H0 σ Hk H Q e po en k => by
  refine h H0 σ Hk H _ e po en fun v d Hk1 H1 g1 rx ⟨kvs, ed, kv, h1⟩ => ?_
  subst ed
  obtain ⟨l, rfl, D⟩ := dic_of_dk rx kv
  refine ⟨⟨l, kvs, _, _, rfl, dic_hk g1.kr D⟩, h1 H0 σ Hk1 H1 _ g1.kr g1.po (en.go g1) fun y dy Hk3 H3 g3 ry ⟨⟨⟨ks, hks, hdp⟩, hni⟩, f⟩ => ?_⟩
  have e3 : Ex Hk1 H3 := fun a o z => g3.kr a o (g3.kk a o z)
  refine ⟨l, kvs, _, _, y, dy, ks, rfl, dic_hk e3 D, fun d a r => dp_mono0 e3 d r, dx_dp dy (key_noDict dy ks hks) (dp_mono g3.kr dy ry), hks, hni, hdp, .non, .inl ⟨rfl, rfl⟩, fun hz => ?_, fun z hz r ⟨v, rv, dv⟩ => ⟨v, rv, ?_⟩⟩
  · rw [hz] at f
    exact k _ _ Hk3 H3 (g1.trans g3) .non f
  · rw [hz] at f
    exact k _ _ Hk3 H3 (g1.trans g3) (dp_mono g3.kk _ dv) f
theorem oneB0 {B : Big} {l : List Slot} (h : l.all (fun s => match s with | .big _ => false | _ => true) = true) : OneBig (.big B :: l) 0 := fun j T e => by
  cases j with
  | zero => rfl
  | succ j =>
    rw [List.getElem?_cons_succ] at e
    exact absurd (List.all_eq_true.mp h _ (List.mem_of_getElem? e)) (by simp)
end
end Fw
/-! defs with a default; list(a dict); a, b, c = a dict, a list, data -/
namespace FwD
open PySem PySem.Spec PyProof.Rows L2 FwD FwS FwB
def rListX (K : PySem.W.Frag) : List V → Hp → VK → Prop := fun vs H Q => ∃ (l : Addr) (o : Obj) (es : Array DictEntry) (ep : Nat) (kvs : List (PyData × PyData)) (Rk : PyData → Addr → Prop) (Rv : PyData → Value → Prop),
  vs = [.ref l] ∧ DicO Rk Rv H l o es ep kvs ∧ kvs.length ≤ 100000 ∧ ∀ ys p, Paired (fun x d => ∃ a, x = V.ref a ∧ Rk d a) ys (kvs.map (·.1)) → H p = none → Q (.ref p) (upd H p (.lst ys))
theorem call_listX {X : Cx} (hc : X.calm = true) : CallR X (.type "list") (rListX X.K) := fun pins s σ H xs us Q I r h => by
  obtain ⟨l, o, es, ep, kvs, Rk, Rv, rfl, D, hz, q⟩ := h
  rw [Vals.ref1 r]
  obtain ⟨raw, sz, at_⟩ := DicO.raw I D
  have g : s.heap.get? l = some o := (show ObjOk X.prog X.w H s.heap l (exact l o) from I.hok l _ D.1).1
  refine PySem.W.kdl_call (L2.kdl_raw D.2.1 D.2.2.1 D.2.2.2.1) (I.ok.hd hc) g (by rw [sz, sizeLine_eq]; omega) fun h' tk acc c' hkeep hS hacc => ?_
  have al : acc.toList.length = kvs.length := by rw [Array.length_toList, hacc.1, sz]
  obtain ⟨ys, ry, py⟩ : ∃ ys, Vals ys acc.toList ∧ Paired (fun x (d : PyData) => ∃ a, x = V.ref a ∧ Rk d a) ys (kvs.map (·.1)) := by
    have gen : ∀ (us : List Value) (ds : List PyData), us.length = ds.length → (∀ (j : Nat) (u : Value) (d : PyData), us[j]? = some u → ds[j]? = some d → ∃ a, u = Value.ref a ∧ Rk d a) → ∃ ys, Vals ys us ∧ Paired (fun x (d : PyData) => ∃ a, x = V.ref a ∧ Rk d a) ys ds := fun us => by
      induction us with
      | nil =>
        intro ds hl _
        cases ds with
        | nil => exact ⟨[], .nil, .nil⟩
        | cons _ _ => cases hl
      | cons u us ih =>
        intro ds hl h
        cases ds with
        | nil => cases hl
        | cons d ds =>
          obtain ⟨ys, h1, h2⟩ := ih ds (Nat.succ.inj hl) fun j u' d' e1 e2 => h (j + 1) u' d' e1 e2
          obtain ⟨a, e, ra⟩ := h 0 u d rfl rfl
          exact ⟨.ref a :: ys, .cons e h1, .cons ⟨a, rfl, ra⟩ h2⟩
    refine gen _ _ (by rw [al, List.length_map]) fun j u d e1 e2 => ?_
    rw [Array.getElem?_toList] at e1
    obtain ⟨en, hen, rfl⟩ := hacc.2 j u e1
    obtain ⟨hi, rfl⟩ := Array.getElem?_eq_some_iff.mp hen
    rw [List.getElem?_map] at e2
    cases e3 : kvs[j]? with
    | none => rw [e3] at e2; cases e2
    | some kv =>
      rw [e3] at e2
      cases e2
      exact at_ j hi kv.1 kv.2 e3
  refine ⟨.ref s.heap.objs.size, upd H s.heap.objs.size (.lst ys), I.laid hkeep (Nat.le_refl _) (show ObjOk X.prog X.w _ _ _ (.lst ys) from ⟨?_, acc.toList, c', ry, ?_⟩), rfl, q ys _ py (I.hok.fresh (Nat.le_refl _))⟩
  · rw [ry.length, al, sizeLine_eq]; omega
  · rw [Array.toArray_toList]; exact hS
def rMinT (K : PySem.W.Frag) : List V → Hp → VK → Prop := fun vs H Q => ∃ (a : Addr) (n : Int) (ns : List Int), vs = [V.ref a] ∧ SqT K H a ((n :: ns).map V.int) ∧ Q (.int (ns.foldl min n)) H
theorem cr_minT {X : Cx} (hu : X.A.units + 64 < cLine) (hc : X.calm = true) : CallR X (.builtin "min") (rMinT X.K) := fun pins s σ H vs us Q I r h => by
  obtain ⟨a, n, ns, rfl, hs, q⟩ := h
  obtain ⟨u, rfl, ru⟩ := vals1 r
  cases ru
  obtain ⟨its, rv, tp, _⟩ := I.tuple hs
  have rd : ReadsAll s.heap its.toArray.toList (PyData.int n :: ns.map .int) [] := by
    rw [List.toList_toArray]
    exact FwT.reads_ints (ns := n :: ns) rv
  have al : PySem.W.AlikeAll (PyData.int n :: ns.map .int) := by
    have isI : ∀ x ∈ PyData.int n :: ns.map PyData.int, ∃ m, x = PyData.int m := fun x hx => by
      rcases List.mem_cons.mp hx with e | hx
      · exact ⟨n, e⟩
      · obtain ⟨m, _, e⟩ := List.mem_map.mp hx
        exact ⟨m, e.symm⟩
    refine ⟨fun x hx y hy => ?_, fun x hx => ?_⟩
    · obtain ⟨m, rfl⟩ := isI x hx
      obtain ⟨k, rfl⟩ := isI y hy
      rfl
    · obtain ⟨m, rfl⟩ := isI x hx
      exact fun z => nomatch z
  have dz : PyData.depthAll (PyData.int n :: ns.map .int) = 0 := PySem.W.depth_ints (n :: ns)
  refine PySem.W.min_tuple_data (I.ok.hd hc) tp rd al (by rw [dz]; omega) fun i v h' tk bs hv r hk => ?_
  rw [PySem.W.minD_ints] at r
  cases r
  exact ⟨.int _, H, I.kept hk, ⟨_, rfl⟩, q⟩
end FwD
namespace Fw
open PySem PySem.Spec PyProof.Rows L2 Evl FwD FwB FwS
section
variable {K K' : PySem.W.Frag} {p : Option Addr} {env : List Slot} {Φ : PyData → Prop} {te ta tb tc : TE} {O : Outs}
/-- list(d): a new list of its keys -/
theorem f_listDX {Ψ : List PyData → Prop} (h : WpE K p te env fun d => ∃ kvs, d = .dict kvs ∧ KV kvs ∧ kvs.length ≤ 100000 ∧ Ψ (kvs.map (·.1))) (hK : K' = K := by with_unfolding_all rfl) : WpF K p (tCB (rListX K') (tCons te tNil)) env Ψ := fun H0 σ Hk H Q e po en k => by
  subst hK
  refine h H0 σ Hk H _ e po en fun v d Hk' H' g rx ⟨kvs, ed, kv, hz, f⟩ => ?_
  subst ed
  obtain ⟨l, rfl, D⟩ := dic_of_dx rx kv
  obtain ⟨o, es, ep, DO⟩ := dicO_of D
  have DH : DicO (RkOf K' Hk') (RvOf K' Hk') H' l o es ep kvs := ⟨g.kr l _ DO.1, DO.2⟩
  refine ⟨l, o, es, ep, kvs, _, _, rfl, DH, hz, fun ys q py hq => ?_⟩
  have all : ∀ {ys : List V} {ds : List PyData}, Paired (fun x d => ∃ a, x = V.ref a ∧ RkOf K' Hk' d a) ys ds → DxAll K' Hk' ys ds := fun z => by
    induction z with
    | nil => exact .nil
    | cons h _ ih =>
      obtain ⟨a, rfl, r⟩ := h
      exact .cons (dp_dx _ r) ih
  exact k q ys _ Hk' _ (g.mut (fresh0 g hq) (pot_ne g.po hq) (fresh_back g.kr hq)) (fresh0 g hq) (fresh_back g.kr hq) upd_same (all py) f
/-- the same as a value: data -/
theorem e_listDX (h : WpE K p te env fun d => ∃ kvs, d = .dict kvs ∧ KV kvs ∧ kvs.length ≤ 100000 ∧ Φ (.list (kvs.map (·.1)))) (hK : K' = K := by with_unfolding_all rfl) : WpE K p (tCB (rListX K') (tCons te tNil)) env Φ := e_new (f_listDX h hK)
/-- three names: a new dict, a new list, data -/
theorem s_par3DLI {i j l : Nat} (h : WpD K p ta env fun kvs => WpF K p tb env fun ds => WpE K p tc env fun z => O.nx (((env.set i (.mov (dicM K kvs))).set j (.own ds)).set l (.dat z))) : WpS K p (tPar3 i j l (tCons ta (tCons tb (tCons tc tNil)))) env O := fun H0 Hk0 σ Hk H D g en k =>
  h H0 σ Hk H _ g.kr g.po en fun l1 kvs Hk1 H1 g1 a0 ak Dk h1 => h1 H0 σ Hk1 H1 _ g1.kr g1.po (en.go g1) fun m vs ds Hk2 H2 g2 h0 hk hl r f => f H0 σ Hk2 H2 _ g2.kr g2.po ((en.go g1).go g2) fun w z Hk3 H3 g3 rz f3 => by
    obtain ⟨o, ho⟩ := Dk.there
    have gg := g.trans g1
    have p1 := pot_ne g.po a0
    refine ⟨.ref l1, .ref m, w, rfl, k.nx _ _ Hk3 H3 ((gg.trans g2).trans g3) ?_ f3⟩
    have enA : En K p H0 Hk1 H1 (σ.set i (some (.ref l1))) (env.set i (.mov (dicM K kvs))) := En.set_mov en (en.go g1) (fresh0 g a0) a0 ho ak p1 (dicM_of ho Dk)
    exact ((En.add_own (i := j) enA (enA.go g2) (fresh0 gg h0) h0 hl hk (pot_ne gg.po h0) r).go g3).set rz
end
theorem cb_minT {K K' : PySem.W.Frag} {p : Option Addr} {Φ : PyData → Prop} {ds : List PyData} (n : Int) (ns : List Int) (hd : ds = (n :: ns).map .int) (h : Φ (.int (ns.foldl min n))) (hK : K' = K := by with_unfolding_all rfl) : CbD K p (rMinT K') [.tuple ds] Φ := fun vs Hk H Q e po rx k => by
  subst hK
  subst hd
  cases rx with
  | cons rx rr =>
    cases rr
    obtain ⟨a, xs, rfl, hT, r⟩ := dp_tup rx
    have := dpAll_ints (ns := n :: ns) r
    subst this
    exact ⟨a, n, ns, rfl, ex_t e hT, k _ _ _ _ (Go.refl e po) (.int _) h⟩
/-! ### a def with a default, called without it -/
abbrev FnP1 (K : PySem.W.Frag) (x : Str) (st : Stmt) (dvs : List V) (f : Addr) (fd : FuncData) : Prop := FunD K x x (defArgs st) (defBody st) (defScope st) dvs [] f fd
def Dn1 (K : PySem.W.Frag) (mg : Str → Option Value) (x : Str) (st : Stmt) (dvs : List V) : Prop := ∃ f fd, FnP1 K x st dvs f fd ∧ mg x = some (.ref f)
def Has1 (P : Program) (w : World) (K : PySem.W.Frag) (mg : Str → Option Value) (base : Heap) (x : Str) (ps : List Str) (dvs : List V) (k : Nat) (sp : Sp) : Prop := ∃ f fd ds, FnOk P w K mg base CX0 k f fd ps sp ∧ mg x = some (.ref f) ∧ PySem.W.keepIn K (.ref f) = true ∧ Vals dvs ds ∧ Binds K fd ps ds
section
variable {P : Program} {w : World} {K : PySem.W.Frag} {mg : Str → Option Value} {base : Heap} {x : Str} {st : Stmt} {ps : List Str} {k : Nat} {sp : Sp} {dvs : List V}
theorem has1_of (D : Dn1 K mg x st dvs) (n : Nat) (hd : dvs ≠ []) (hn : n + dvs.length = ps.length)
    (b : ∀ (T : Addr) (kV doc pm : Value) (an : Option Addr) (cdv ct : Value) (us its : List Value), us.length = n → its.length = dvs.length →
      ∃ k, bindArgs (PySem.W.fnOf x x (defArgs st) (defBody st) (defScope st) (.ref T) kV doc pm an cdv ct) ⟨us, []⟩ = seqItems? (.ref T) >>= k ∧ k (some its.toArray) = pure (ps.zip (us ++ its.drop 0)))
    (ok : ∀ f fd, FnP1 K x st dvs f fd → FnOk P w K mg base CX0 k f fd ps sp) : Has1 P w K mg base x ps dvs k sp := by
  obtain ⟨f, fd, F, m⟩ := D
  obtain ⟨ds, h1, h2⟩ := F.binds1 n 0 hd hn b
  exact ⟨f, fd, ds, ok f fd F, m, F.kp, h1, h2⟩
theorem Has1.mono {j : Nat} (h : Has1 P w K mg base x ps dvs k sp) (hj : k ≤ j) : Has1 P w K mg base x ps dvs j sp := by
  obtain ⟨f, fd, ds, ok, r⟩ := h
  exact ⟨f, fd, ds, ok.mono hj, r⟩
end
section
variable {X : Cx} {k : Nat} {ps : List Str} {sp : Sp} {x : Str} {p pos : Pos} {e : Expr} {es : List Expr} {t : TA} {dvs : List V}
theorem pe_callH1 (h : Has1 X.prog X.w X.K X.mg X.base x ps dvs k sp) (hr : Room k X.A) (hg : Gl X x) (ha : PA X (e :: es) t) (nd : (x == ("__debug__" : Str)) = false := by decide) (st : starEach (e :: es) X.env = (false, eval e X.env) :: starEach es X.env := by rfl) (pl : (backTo pos (starEach es X.env)).any (·.1) = false := by rfl) :
    PE X (.Call (.Name x p) (e :: es) [] pos) (tCall sp dvs E0 t) := by
  obtain ⟨f, fd, ds, ok, m, kp, r, b⟩ := h
  exact pe_call ok hr hg m kp b r pass0 ha nd st pl
end
section
variable {K : PySem.W.Frag} {p : Option Addr} {env : List Slot} {Φ : PyData → Prop}
theorem e_call1 {pre : List PyData → (PyData → Prop) → Prop} {E : XK} {ta : TA} (h : WpA K p ta env fun ds => pre (ds ++ [.none]) Φ) : WpE K p (tCall (SpF K pre) [.non] E ta) env Φ := fun H0 σ Hk H Q e po en k =>
  h H0 σ Hk H _ e po en fun vs ds Hk1 H1 g1 r f => ⟨Hk1, ds ++ [.none], Φ, g1.kr, dpAll_app r (.cons .non .nil), f, fun v d Hk' H' g rd f' => k v d Hk' H' (g1.trans (g.lift g1.po)) rd f'⟩
end
end Fw
namespace K27
open PySem PySem.Spec PyProof.Rows L2 Evl
abbrev top (i : Nat) : Stmt := PySem.Challenge.pw_sumroads_k27_any_value_as_road_or_closed.main.body.getD i (.Pass ⟨0, 0, 0, 0⟩)
abbrev clsBody : Stmt → List Stmt
  | .ClassDef _ _ _ b .. => b
  | _ => []
abbrev s_is_integer : Stmt := top 5
abbrev s_is_count : Stmt := top 6
abbrev s_is_count_to : Stmt := top 7
abbrev s_are_integers : Stmt := top 8
abbrev s_are_counts : Stmt := top 9
abbrev s_is_listed : Stmt := top 10
abbrev s_is_rising : Stmt := top 11
abbrev s_first_place : Stmt := top 12
abbrev s_put_on : Stmt := top 13
abbrev s_inner : Stmt := top 14
abbrev s_is_frame : Stmt := top 20
abbrev s_check_frame : Stmt := top 21
abbrev s_cells_of : Stmt := top 22
abbrev s_sums_by : Stmt := top 23
abbrev s_is_change_by : Stmt := top 24
abbrev s_is_table_of : Stmt := top 26
abbrev s_is_small_change : Stmt := top 30
abbrev s_is_move_of : Stmt := top 31
abbrev s_is_book : Stmt := top 32
abbrev s_check_book : Stmt := top 33
abbrev s_Steps___init__ : Stmt := (clsBody (top 35)).getD 0 (.Pass ⟨0, 0, 0, 0⟩)
abbrev s_Steps_tables_from : Stmt := (clsBody (top 35)).getD 1 (.Pass ⟨0, 0, 0, 0⟩)
abbrev s_Steps_way_between : Stmt := (clsBody (top 35)).getD 2 (.Pass ⟨0, 0, 0, 0⟩)
abbrev s_is_road : Stmt := top 37
abbrev s_is_way : Stmt := top 38
abbrev s_ways_along : Stmt := top 39
abbrev s_is_closed_lot : Stmt := top 41
abbrev s_is_one_closed_part : Stmt := top 42
abbrev s__law_pot : Stmt := top 44
abbrev s__law_draw : Stmt := top 45
abbrev s__law_pick : Stmt := top 46
abbrev s__law_sums : Stmt := top 47
abbrev s__law_frame : Stmt := top 48
abbrev s__law_rows : Stmt := top 49
abbrev s__law_moves : Stmt := top 50
abbrev s__law_book : Stmt := top 51
abbrev s__law_table : Stmt := top 52
abbrev s__law_small : Stmt := top 53
abbrev s__law_steps : Stmt := top 54
abbrev s__law_far : Stmt := top 55
abbrev s__law_is_table : Stmt := top 56
abbrev s__law_is_road : Stmt := top 57
abbrev s__law_is_closed : Stmt := top 58
abbrev s__law_walk : Stmt := top 59
abbrev s__law_bent : Stmt := top 60
abbrev s__law_right : Stmt := top 61
abbrev s_law : Stmt := top 62
abbrev N_is_integer : List Str := ["value"]
theorem sc_is_integer : FnScope N_is_integer ["value"] (defScope s_is_integer) := ⟨rfl, rfl, rfl, by decide +kernel, rfl, by decide +kernel, by decide +kernel⟩
abbrev N_is_count : List Str := ["value"]
theorem sc_is_count : FnScope N_is_count ["value"] (defScope s_is_count) := ⟨rfl, rfl, rfl, by decide +kernel, rfl, by decide +kernel, by decide +kernel⟩
abbrev N_is_count_to : List Str := ["value", "most"]
theorem sc_is_count_to : FnScope N_is_count_to ["value", "most"] (defScope s_is_count_to) := ⟨rfl, rfl, rfl, by decide +kernel, rfl, by decide +kernel, by decide +kernel⟩
abbrev N_are_integers : List Str := ["value", "many", "number"]
theorem sc_are_integers : FnScope N_are_integers ["value", "many"] (defScope s_are_integers) := ⟨rfl, rfl, rfl, by decide +kernel, rfl, by decide +kernel, by decide +kernel⟩
abbrev N_are_counts : List Str := ["value", "many", "most", "count"]
theorem sc_are_counts : FnScope N_are_counts ["value", "many", "most"] (defScope s_are_counts) := ⟨rfl, rfl, rfl, by decide +kernel, rfl, by decide +kernel, by decide +kernel⟩
abbrev N_is_listed : List Str := ["value"]
theorem sc_is_listed : FnScope N_is_listed ["value"] (defScope s_is_listed) := ⟨rfl, rfl, rfl, by decide +kernel, rfl, by decide +kernel, by decide +kernel⟩
abbrev N_is_rising : List Str := ["values", "at"]
theorem sc_is_rising : FnScope N_is_rising ["values"] (defScope s_is_rising) := ⟨rfl, rfl, rfl, by decide +kernel, rfl, by decide +kernel, by decide +kernel⟩
abbrev N_first_place : List Str := ["row", "at", "number"]
theorem sc_first_place : FnScope N_first_place ["row"] (defScope s_first_place) := ⟨rfl, rfl, rfl, by decide +kernel, rfl, by decide +kernel, by decide +kernel⟩
abbrev N_put_on : List Str := ["row", "many", "other", "number", "more"]
theorem sc_put_on : FnScope N_put_on ["row", "many", "other"] (defScope s_put_on) := ⟨rfl, rfl, rfl, by decide +kernel, rfl, by decide +kernel, by decide +kernel⟩
abbrev N_inner : List Str := ["row", "other", "number", "by"]
theorem sc_inner : FnScope N_inner ["row", "other"] (defScope s_inner) := ⟨rfl, rfl, rfl, by decide +kernel, rfl, by decide +kernel, by decide +kernel⟩
abbrev N_is_frame : List Str := ["value", "word", "rows", "many", "cell", "row"]
theorem sc_is_frame : FnScope N_is_frame ["value"] (defScope s_is_frame) := ⟨rfl, rfl, rfl, by decide +kernel, rfl, by decide +kernel, by decide +kernel⟩
abbrev N_check_frame : List Str := ["value"]
theorem sc_check_frame : FnScope N_check_frame ["value"] (defScope s_check_frame) := ⟨rfl, rfl, rfl, by decide +kernel, rfl, by decide +kernel, by decide +kernel⟩
abbrev N_cells_of : List Str := ["frame"]
theorem sc_cells_of : FnScope N_cells_of ["frame"] (defScope s_cells_of) := ⟨rfl, rfl, rfl, by decide +kernel, rfl, by decide +kernel, by decide +kernel⟩
abbrev N_sums_by : List Str := ["frame", "numbers", "row"]
theorem sc_sums_by : FnScope N_sums_by ["frame", "numbers"] (defScope s_sums_by) := ⟨rfl, rfl, rfl, by decide +kernel, rfl, by decide +kernel, by decide +kernel⟩
abbrev N_is_change_by : List Str := ["frame", "value"]
theorem sc_is_change_by : FnScope N_is_change_by ["frame", "value"] (defScope s_is_change_by) := ⟨rfl, rfl, rfl, by decide +kernel, rfl, by decide +kernel, by decide +kernel⟩
abbrev N_is_table_of : List Str := ["frame", "value"]
theorem sc_is_table_of : FnScope N_is_table_of ["frame", "value"] (defScope s_is_table_of) := ⟨rfl, rfl, rfl, by decide +kernel, rfl, by decide +kernel, by decide +kernel⟩
abbrev N_is_small_change : List Str := ["frame", "value", "number"]
theorem sc_is_small_change : FnScope N_is_small_change ["frame", "value"] (defScope s_is_small_change) := ⟨rfl, rfl, rfl, by decide +kernel, rfl, by decide +kernel, by decide +kernel⟩
abbrev N_is_move_of : List Str := ["frame", "value", "at"]
theorem sc_is_move_of : FnScope N_is_move_of ["frame", "value"] (defScope s_is_move_of) := ⟨rfl, rfl, rfl, by decide +kernel, rfl, by decide +kernel, by decide +kernel⟩
abbrev N_is_book : List Str := ["frame", "value", "move"]
theorem sc_is_book : FnScope N_is_book ["frame", "value"] (defScope s_is_book) := ⟨rfl, rfl, rfl, by decide +kernel, rfl, by decide +kernel, by decide +kernel⟩
abbrev N_check_book : List Str := ["frame", "value"]
theorem sc_check_book : FnScope N_check_book ["frame", "value"] (defScope s_check_book) := ⟨rfl, rfl, rfl, by decide +kernel, rfl, by decide +kernel, by decide +kernel⟩
abbrev N_Steps___init__ : List Str := ["self", "book", "position", "move", "sign", "change", "needs", "cell", "number"]
theorem sc_Steps___init__ : FnScope N_Steps___init__ ["self", "book"] (defScope s_Steps___init__) := ⟨rfl, rfl, rfl, by decide +kernel, rfl, by decide +kernel, by decide +kernel⟩
abbrev N_Steps_tables_from : List Str := ["self", "table", "found", "change", "needs", "cell", "need"]
theorem sc_Steps_tables_from : FnScope N_Steps_tables_from ["self", "table"] (defScope s_Steps_tables_from) := ⟨rfl, rfl, rfl, by decide +kernel, rfl, by decide +kernel, by decide +kernel⟩
abbrev N_Steps_way_between : List Str := ["self", "table", "other"]
theorem sc_Steps_way_between : FnScope N_Steps_way_between ["self", "table", "other"] (defScope s_Steps_way_between) := ⟨rfl, rfl, rfl, by decide +kernel, rfl, by decide +kernel, by decide +kernel⟩
abbrev N_is_road : List Str := ["frame", "book", "value", "table"]
theorem sc_is_road : FnScope N_is_road ["frame", "book", "value"] (defScope s_is_road) := ⟨rfl, rfl, rfl, by decide +kernel, rfl, by decide +kernel, by decide +kernel⟩
abbrev N_is_way : List Str := ["book", "tables"]
theorem sc_is_way : FnScope N_is_way ["book", "tables"] (defScope s_is_way) := ⟨rfl, rfl, rfl, by decide +kernel, rfl, by decide +kernel, by decide +kernel⟩
abbrev N_ways_along : List Str := ["book", "tables", "steps", "at"]
theorem sc_ways_along : FnScope N_ways_along ["book", "tables"] (defScope s_ways_along) := ⟨rfl, rfl, rfl, by decide +kernel, rfl, by decide +kernel, by decide +kernel⟩
abbrev N_is_closed_lot : List Str := ["frame", "book", "value", "table"]
theorem sc_is_closed_lot : FnScope N_is_closed_lot ["frame", "book", "value"] (defScope s_is_closed_lot) := ⟨rfl, rfl, rfl, by decide +kernel, rfl, by decide +kernel, by decide +kernel⟩
abbrev N_is_one_closed_part : List Str := ["steps", "tables", "inside", "found", "queue", "at", "here", "other", "table"]
theorem sc_is_one_closed_part : FnScope N_is_one_closed_part ["steps", "tables"] (defScope s_is_one_closed_part) := ⟨rfl, rfl, rfl, by decide +kernel, rfl, by decide +kernel, by decide +kernel⟩
abbrev N__law_pot : List Str := ["script", "k", "cell", "low"]
theorem sc__law_pot : FnScope N__law_pot ["script", "k"] (defScope s__law_pot) := ⟨rfl, rfl, rfl, by decide +kernel, rfl, by decide +kernel, by decide +kernel⟩
abbrev N__law_draw : List Str := ["pot", "size", "digit"]
theorem sc__law_draw : FnScope N__law_draw ["pot", "size"] (defScope s__law_draw) := ⟨rfl, rfl, rfl, by decide +kernel, rfl, by decide +kernel, by decide +kernel⟩
abbrev N__law_pick : List Str := ["pot", "some"]
theorem sc__law_pick : FnScope N__law_pick ["pot", "some"] (defScope s__law_pick) := ⟨rfl, rfl, rfl, by decide +kernel, rfl, by decide +kernel, by decide +kernel⟩
abbrev N__law_sums : List Str := ["rows", "row", "one", "near", "far"]
theorem sc__law_sums : FnScope N__law_sums ["rows", "row"] (defScope s__law_sums) := ⟨rfl, rfl, rfl, by decide +kernel, rfl, by decide +kernel, by decide +kernel⟩
abbrev N__law_frame : List Str := ["pot", "most", "many", "rows", "turn", "cell"]
theorem sc__law_frame : FnScope N__law_frame ["pot", "most"] (defScope s__law_frame) := ⟨rfl, rfl, rfl, by decide +kernel, rfl, by decide +kernel, by decide +kernel⟩
abbrev N__law_rows : List Str := ["many", "size", "found", "turn", "late", "row", "at"]
theorem sc__law_rows : FnScope N__law_rows ["many", "size"] (defScope s__law_rows) := ⟨rfl, rfl, rfl, by decide +kernel, rfl, by decide +kernel, by decide +kernel⟩
abbrev N__law_moves : List Str := ["frame", "many", "found", "nought", "row", "left", "number"]
theorem sc__law_moves : FnScope N__law_moves ["frame"] (defScope s__law_moves) := ⟨rfl, rfl, rfl, by decide +kernel, rfl, by decide +kernel, by decide +kernel⟩
abbrev N__law_book : List Str := ["pot", "moves", "found", "left", "turn"]
theorem sc__law_book : FnScope N__law_book ["pot", "moves"] (defScope s__law_book) := ⟨rfl, rfl, rfl, by decide +kernel, rfl, by decide +kernel, by decide +kernel⟩
abbrev N__law_table : List Str := ["pot", "frame", "most", "cell"]
theorem sc__law_table : FnScope N__law_table ["pot", "frame", "most"] (defScope s__law_table) := ⟨rfl, rfl, rfl, by decide +kernel, rfl, by decide +kernel, by decide +kernel⟩
abbrev N__law_small : List Str := ["pot", "frame"]
theorem sc__law_small : FnScope N__law_small ["pot", "frame"] (defScope s__law_small) := ⟨rfl, rfl, rfl, by decide +kernel, rfl, by decide +kernel, by decide +kernel⟩
abbrev N__law_steps : List Str := ["book", "table", "found", "move", "sign", "late", "count", "number"]
theorem sc__law_steps : FnScope N__law_steps ["book", "table"] (defScope s__law_steps) := ⟨rfl, rfl, rfl, by decide +kernel, rfl, by decide +kernel, by decide +kernel⟩
abbrev N__law_far : List Str := ["book", "table", "found", "waiting", "number", "later", "here", "late"]
theorem sc__law_far : FnScope N__law_far ["book", "table"] (defScope s__law_far) := ⟨rfl, rfl, rfl, by decide +kernel, rfl, by decide +kernel, by decide +kernel⟩
abbrev N__law_is_table : List Str := ["frame", "value", "one"]
theorem sc__law_is_table : FnScope N__law_is_table ["frame", "value"] (defScope s__law_is_table) := ⟨rfl, rfl, rfl, by decide +kernel, rfl, by decide +kernel, by decide +kernel⟩
abbrev N__law_is_road : List Str := ["frame", "book", "value", "near", "far", "one"]
theorem sc__law_is_road : FnScope N__law_is_road ["frame", "book", "value"] (defScope s__law_is_road) := ⟨rfl, rfl, rfl, by decide +kernel, rfl, by decide +kernel, by decide +kernel⟩
abbrev N__law_is_closed : List Str := ["frame", "book", "value", "one"]
theorem sc__law_is_closed : FnScope N__law_is_closed ["frame", "book", "value"] (defScope s__law_is_closed) := ⟨rfl, rfl, rfl, by decide +kernel, rfl, by decide +kernel, by decide +kernel⟩
abbrev N__law_walk : List Str := ["pot", "book", "table", "found", "turn", "some"]
theorem sc__law_walk : FnScope N__law_walk ["pot", "book", "table"] (defScope s__law_walk) := ⟨rfl, rfl, rfl, by decide +kernel, rfl, by decide +kernel, by decide +kernel⟩
abbrev N__law_bent : List Str := ["pot", "value", "at", "way", "late"]
theorem sc__law_bent : FnScope N__law_bent ["pot", "value"] (defScope s__law_bent) := ⟨rfl, rfl, rfl, by decide +kernel, rfl, by decide +kernel, by decide +kernel⟩
abbrev N__law_right : List Str := ["pot", "frame", "book", "table", "closed", "shown", "values", "turn", "walk", "value", "due", "was", "told"]
theorem sc__law_right : FnScope N__law_right ["pot"] (defScope s__law_right) := ⟨rfl, rfl, rfl, by decide +kernel, rfl, by decide +kernel, by decide +kernel⟩
abbrev N_law : List Str := ["script"]
theorem sc_law : FnScope N_law ["script"] (defScope s_law) := ⟨rfl, rfl, rfl, by decide +kernel, rfl, by decide +kernel, by decide +kernel⟩
structure Tx (mg : Str → Option Value) : Prop where
  isinstance : mg "isinstance" = none
  int : mg "int" = none
  bool : mg "bool" = none
  tuple : mg "tuple" = none
  str : mg "str" = none
  any : mg "any" = none
  len : mg "len" = none
  all : mg "all" = none
  zip : mg "zip" = none
  abs : mg "abs" = none
  list : mg "list" = none
  repr : mg "repr" = none
  range : mg "range" = none
  max : mg "max" = none
  min : mg "min" = none
  divmod : mg "divmod" = none
  sorted : mg "sorted" = none
  enumerate : mg "enumerate" = none
  sum : mg "sum" = none
  MOST_CELLS : ∃ t, mg "MOST_CELLS" = some (.int 16 t)
  MOST_FRAME_ROWS : ∃ t, mg "MOST_FRAME_ROWS" = some (.int 16 t)
  MOST_IN_FRAME : ∃ t, mg "MOST_IN_FRAME" = some (.int 9 t)
  MOST_SUM : ∃ t, mg "MOST_SUM" = some (.int 20000 t)
  MOST_MOVES : ∃ t, mg "MOST_MOVES" = some (.int 60 t)
  MOST_IN_MOVE : ∃ t, mg "MOST_IN_MOVE" = some (.int 99 t)
structure Cf (K : PySem.W.Frag) (C : Addr) : Prop where
  cls : Cls K C
  no_ways : NoAttr K C "ways"
  no_known : NoAttr K C "known"
theorem hu16 {X : Cx} {k : Nat} (hr : Room k X.A) : X.A.units + 16 < cLine := by have := hr.un; omega
theorem hu61 {X : Cx} {k : Nat} (hr : Room k X.A) : X.A.units + 61 < cLine := by have := hr.un; omega
theorem hu64 {X : Cx} {k : Nat} (hr : Room k X.A) : X.A.units + 64 < cLine := by have := hr.un; omega
theorem hu65 {X : Cx} {k : Nat} (hr : Room k X.A) : X.A.units + 65 < cLine := by have := hr.un; omega
end K27
section
set_option maxHeartbeats 0
namespace K27
open PySem PySem.Spec PyProof.Rows L2
def d_is_integer : He.DefD := ⟨("is_integer", none), "is_integer", "is_integer", defArgs s_is_integer, defBody s_is_integer, defScope s_is_integer, [], []⟩
def d_is_count : He.DefD := ⟨("is_count", none), "is_count", "is_count", defArgs s_is_count, defBody s_is_count, defScope s_is_count, [], []⟩
def d_is_count_to : He.DefD := ⟨("is_count_to", none), "is_count_to", "is_count_to", defArgs s_is_count_to, defBody s_is_count_to, defScope s_is_count_to, [], []⟩
def d_are_integers : He.DefD := ⟨("are_integers", none), "are_integers", "are_integers", defArgs s_are_integers, defBody s_are_integers, defScope s_are_integers, [], []⟩
def d_are_counts : He.DefD := ⟨("are_counts", none), "are_counts", "are_counts", defArgs s_are_counts, defBody s_are_counts, defScope s_are_counts, [], []⟩
def d_is_listed : He.DefD := ⟨("is_listed", none), "is_listed", "is_listed", defArgs s_is_listed, defBody s_is_listed, defScope s_is_listed, [], []⟩
def d_is_rising : He.DefD := ⟨("is_rising", none), "is_rising", "is_rising", defArgs s_is_rising, defBody s_is_rising, defScope s_is_rising, [], []⟩
def d_first_place : He.DefD := ⟨("first_place", none), "first_place", "first_place", defArgs s_first_place, defBody s_first_place, defScope s_first_place, [], []⟩
def d_put_on : He.DefD := ⟨("put_on", none), "put_on", "put_on", defArgs s_put_on, defBody s_put_on, defScope s_put_on, [], []⟩
def d_inner : He.DefD := ⟨("inner", none), "inner", "inner", defArgs s_inner, defBody s_inner, defScope s_inner, [], []⟩
def d_is_frame : He.DefD := ⟨("is_frame", none), "is_frame", "is_frame", defArgs s_is_frame, defBody s_is_frame, defScope s_is_frame, [], []⟩
def d_check_frame : He.DefD := ⟨("check_frame", none), "check_frame", "check_frame", defArgs s_check_frame, defBody s_check_frame, defScope s_check_frame, [], []⟩
def d_cells_of : He.DefD := ⟨("cells_of", none), "cells_of", "cells_of", defArgs s_cells_of, defBody s_cells_of, defScope s_cells_of, [], []⟩
def d_sums_by : He.DefD := ⟨("sums_by", none), "sums_by", "sums_by", defArgs s_sums_by, defBody s_sums_by, defScope s_sums_by, [], []⟩
def d_is_change_by : He.DefD := ⟨("is_change_by", none), "is_change_by", "is_change_by", defArgs s_is_change_by, defBody s_is_change_by, defScope s_is_change_by, [], []⟩
def d_is_table_of : He.DefD := ⟨("is_table_of", none), "is_table_of", "is_table_of", defArgs s_is_table_of, defBody s_is_table_of, defScope s_is_table_of, [], []⟩
def d_is_small_change : He.DefD := ⟨("is_small_change", none), "is_small_change", "is_small_change", defArgs s_is_small_change, defBody s_is_small_change, defScope s_is_small_change, [], []⟩
def d_is_move_of : He.DefD := ⟨("is_move_of", none), "is_move_of", "is_move_of", defArgs s_is_move_of, defBody s_is_move_of, defScope s_is_move_of, [], []⟩
def d_is_book : He.DefD := ⟨("is_book", none), "is_book", "is_book", defArgs s_is_book, defBody s_is_book, defScope s_is_book, [], []⟩
def d_check_book : He.DefD := ⟨("check_book", none), "check_book", "check_book", defArgs s_check_book, defBody s_check_book, defScope s_check_book, [], []⟩
def d_Steps___init__ : He.DefD := ⟨("Steps", some "__init__"), "__init__", "Steps.__init__", defArgs s_Steps___init__, defBody s_Steps___init__, defScope s_Steps___init__, [], []⟩
def d_Steps_tables_from : He.DefD := ⟨("Steps", some "tables_from"), "tables_from", "Steps.tables_from", defArgs s_Steps_tables_from, defBody s_Steps_tables_from, defScope s_Steps_tables_from, [], []⟩
def d_Steps_way_between : He.DefD := ⟨("Steps", some "way_between"), "way_between", "Steps.way_between", defArgs s_Steps_way_between, defBody s_Steps_way_between, defScope s_Steps_way_between, [], []⟩
def d_is_road : He.DefD := ⟨("is_road", none), "is_road", "is_road", defArgs s_is_road, defBody s_is_road, defScope s_is_road, [], []⟩
def d_is_way : He.DefD := ⟨("is_way", none), "is_way", "is_way", defArgs s_is_way, defBody s_is_way, defScope s_is_way, [], []⟩
def d_ways_along : He.DefD := ⟨("ways_along", none), "ways_along", "ways_along", defArgs s_ways_along, defBody s_ways_along, defScope s_ways_along, [], []⟩
def d_is_closed_lot : He.DefD := ⟨("is_closed_lot", none), "is_closed_lot", "is_closed_lot", defArgs s_is_closed_lot, defBody s_is_closed_lot, defScope s_is_closed_lot, [], []⟩
def d_is_one_closed_part : He.DefD := ⟨("is_one_closed_part", none), "is_one_closed_part", "is_one_closed_part", defArgs s_is_one_closed_part, defBody s_is_one_closed_part, defScope s_is_one_closed_part, [], []⟩
def d__law_pot : He.DefD := ⟨("_law_pot", none), "_law_pot", "_law_pot", defArgs s__law_pot, defBody s__law_pot, defScope s__law_pot, [], []⟩
def d__law_draw : He.DefD := ⟨("_law_draw", none), "_law_draw", "_law_draw", defArgs s__law_draw, defBody s__law_draw, defScope s__law_draw, [], []⟩
def d__law_pick : He.DefD := ⟨("_law_pick", none), "_law_pick", "_law_pick", defArgs s__law_pick, defBody s__law_pick, defScope s__law_pick, [], []⟩
def d__law_sums : He.DefD := ⟨("_law_sums", none), "_law_sums", "_law_sums", defArgs s__law_sums, defBody s__law_sums, defScope s__law_sums, [], []⟩
def d__law_frame : He.DefD := ⟨("_law_frame", none), "_law_frame", "_law_frame", defArgs s__law_frame, defBody s__law_frame, defScope s__law_frame, [], []⟩
def d__law_rows : He.DefD := ⟨("_law_rows", none), "_law_rows", "_law_rows", defArgs s__law_rows, defBody s__law_rows, defScope s__law_rows, [], []⟩
def d__law_moves : He.DefD := ⟨("_law_moves", none), "_law_moves", "_law_moves", defArgs s__law_moves, defBody s__law_moves, defScope s__law_moves, [], []⟩
def d__law_book : He.DefD := ⟨("_law_book", none), "_law_book", "_law_book", defArgs s__law_book, defBody s__law_book, defScope s__law_book, [], []⟩
def d__law_table : He.DefD := ⟨("_law_table", none), "_law_table", "_law_table", defArgs s__law_table, defBody s__law_table, defScope s__law_table, [], []⟩
def d__law_small : He.DefD := ⟨("_law_small", none), "_law_small", "_law_small", defArgs s__law_small, defBody s__law_small, defScope s__law_small, [], []⟩
def d__law_steps : He.DefD := ⟨("_law_steps", none), "_law_steps", "_law_steps", defArgs s__law_steps, defBody s__law_steps, defScope s__law_steps, [], []⟩
def d__law_far : He.DefD := ⟨("_law_far", none), "_law_far", "_law_far", defArgs s__law_far, defBody s__law_far, defScope s__law_far, [], []⟩
def d__law_is_table : He.DefD := ⟨("_law_is_table", none), "_law_is_table", "_law_is_table", defArgs s__law_is_table, defBody s__law_is_table, defScope s__law_is_table, [], []⟩
def d__law_is_road : He.DefD := ⟨("_law_is_road", none), "_law_is_road", "_law_is_road", defArgs s__law_is_road, defBody s__law_is_road, defScope s__law_is_road, [], []⟩
def d__law_is_closed : He.DefD := ⟨("_law_is_closed", none), "_law_is_closed", "_law_is_closed", defArgs s__law_is_closed, defBody s__law_is_closed, defScope s__law_is_closed, [], []⟩
def d__law_walk : He.DefD := ⟨("_law_walk", none), "_law_walk", "_law_walk", defArgs s__law_walk, defBody s__law_walk, defScope s__law_walk, [], []⟩
def d__law_bent : He.DefD := ⟨("_law_bent", none), "_law_bent", "_law_bent", defArgs s__law_bent, defBody s__law_bent, defScope s__law_bent, [], []⟩
def d__law_right : He.DefD := ⟨("_law_right", none), "_law_right", "_law_right", defArgs s__law_right, defBody s__law_right, defScope s__law_right, [], []⟩
def d_law : He.DefD := ⟨("law", none), "law", "law", defArgs s_law, defBody s_law, defScope s_law, [], []⟩
def fn : List He.DefD := [d_is_integer, d_is_count, d_is_count_to, d_are_integers, d_are_counts, d_is_listed, d_is_rising, d_first_place, d_put_on, d_inner, d_is_frame, d_check_frame, d_cells_of, d_sums_by, d_is_change_by, d_is_table_of, d_is_small_change, d_is_move_of, d_is_book, d_check_book, d_Steps___init__, d_Steps_tables_from, d_Steps_way_between, d_is_road, d_is_way, d_ways_along, d_is_closed_lot, d_is_one_closed_part, d__law_pot, d__law_draw, d__law_pick, d__law_sums, d__law_frame, d__law_rows, d__law_moves, d__law_book, d__law_table, d__law_small, d__law_steps, d__law_far, d__law_is_table, d__law_is_road, d__law_is_closed, d__law_walk, d__law_bent, d__law_right, d_law]
def fa : List He.Fa := [.glo "is_integer", .glo "is_count", .glo "is_count_to", .glo "are_integers", .glo "are_counts", .glo "is_listed", .glo "is_rising", .glo "first_place", .glo "put_on", .glo "inner", .glo "is_frame", .glo "check_frame", .glo "cells_of", .glo "sums_by", .glo "is_change_by", .glo "is_table_of", .glo "is_small_change", .glo "is_move_of", .glo "is_book", .glo "check_book", .glo "is_road", .glo "is_way", .glo "ways_along", .glo "is_closed_lot", .glo "is_one_closed_part", .glo "_law_pot", .glo "_law_draw", .glo "_law_pick", .glo "_law_sums", .glo "_law_frame", .glo "_law_rows", .glo "_law_moves", .glo "_law_book", .glo "_law_table", .glo "_law_small", .glo "_law_steps", .glo "_law_far", .glo "_law_is_table", .glo "_law_is_road", .glo "_law_is_closed", .glo "_law_walk", .glo "_law_bent", .glo "_law_right", .glo "law", .glo "Steps", .cls "Steps", .mkr "Steps", .noat "Steps" "ways", .noat "Steps" "known", .meth "Steps" "tables_from", .meth "Steps" "way_between", .free "isinstance", .free "int", .free "bool", .free "tuple", .free "str", .free "any", .free "len", .free "all", .free "zip", .free "abs", .free "list", .free "repr", .free "range", .free "max", .free "min", .free "divmod", .free "sorted", .free "enumerate", .free "sum", .int "MOST_CELLS" 16, .int "MOST_FRAME_ROWS" 16, .int "MOST_IN_FRAME" 9, .int "MOST_SUM" 20000, .int "MOST_MOVES" 60, .int "MOST_IN_MOVE" 99]
def ex : PySem.W.Frag → Bool := fun _ => true
abbrev R : PySem.W.OpenRow := PySem.W.OpenLaw.row PySem.Challenge.rw_sumroads_k27_any_value_as_road_or_closed
abbrev hk : PySem.W.Hook := FwH.hookE 4 fa fn ex
def ob (s : PySem.W.SharedT) : He.AlD × Bool := FwH.obsE 4 fa fn ex (HandSHeadRun.getT s)
theorem ob_eq (s : PySem.W.SharedT) : ob s = hk.obs s.abs := FwH.obsE_eq (HandSHeadRun.getT_eq s)
def loose : List Str := [("TableError" : Str), ("InvalidFrame" : Str), ("InvalidBook" : Str), ("is_integer" : Str), ("is_count" : Str), ("is_count_to" : Str), ("are_integers" : Str), ("are_counts" : Str), ("is_listed" : Str), ("is_rising" : Str), ("first_place" : Str), ("put_on" : Str), ("inner" : Str), ("MOST_CELLS" : Str), ("MOST_FRAME_ROWS" : Str), ("MOST_IN_FRAME" : Str), ("MOST_SUM" : Str), ("is_frame" : Str), ("check_frame" : Str), ("cells_of" : Str), ("sums_by" : Str), ("is_change_by" : Str), ("is_table_of" : Str), ("MOST_MOVES" : Str), ("MOST_IN_MOVE" : Str), ("is_small_change" : Str), ("is_move_of" : Str), ("is_book" : Str), ("check_book" : Str), ("Steps" : Str), ("is_road" : Str), ("is_way" : Str), ("ways_along" : Str), ("is_closed_lot" : Str), ("is_one_closed_part" : Str), ("_law_pot" : Str), ("_law_draw" : Str), ("_law_pick" : Str), ("_law_sums" : Str), ("_law_frame" : Str), ("_law_rows" : Str), ("_law_moves" : Str), ("_law_book" : Str), ("_law_table" : Str), ("_law_small" : Str), ("_law_steps" : Str), ("_law_far" : Str), ("_law_is_table" : Str), ("_law_is_road" : Str), ("_law_is_closed" : Str), ("_law_walk" : Str), ("_law_bent" : Str), ("_law_right" : Str)]
theorem run (w : World) : HandSHeadRun.RunEqI R (PySem.W.view R.prog [62]) hk ob 4000 loose w := by
  delta HandSHeadRun.RunEqI
  kernel_rfl
end K27
end
namespace K27
open PySem PySem.Spec PyProof.Rows L2 Evl Fw FwS FwD
/-! ### what a value is -/
def areInts (x : PyData) (n : Int) : Bool := match x with
  | .tuple xs => decide ((xs.length : Int) = n) && xs.all isInt
  | _ => false
/-- a value whose lengths are small, at any depth -/
def plainB : PyData → Bool
  | .dict (_ :: _) => false
  | _ => true
def shortOk : PyData → Prop
  | .tuple xs => xs.length ≤ 1000 ∧ xs.all plainB = true
  | .list xs => xs.length ≤ 1000
  | .dict (_ :: _) => False
  | _ => True
theorem plain_ints (ns : List Int) : (ns.map PyData.int).all plainB = true := List.all_eq_true.mpr fun x hx => by
  obtain ⟨n, _, rfl⟩ := List.mem_map.mp hx
  rfl
structure IsFrame (rows : List (List Int)) (n : Nat) : Prop where
  one : 1 ≤ rows.length
  most : rows.length ≤ 16
  cells : 1 ≤ n
  cmost : n ≤ 16
  len : ∀ r ∈ rows, r.length = n
  size : ∀ r ∈ rows, ∀ c ∈ r, 0 ≤ c ∧ c ≤ 9
  hit : ∀ i, i < n → ∃ r ∈ rows, ∃ c, r[i]? = some c ∧ 0 < c
abbrev rowsT (rows : List (List Int)) : PyData := .tuple (rows.map fun m => tupI m)
abbrev frameD (rows : List (List Int)) : PyData := .tuple [.str "frame", rowsT rows]
def firstD (ns : List Int) : PyData := match ns.findIdx? (fun n => decide (n ≠ 0)) with
  | none => .none
  | some i => .int (i : Nat)
def sumsI (rows : List (List Int)) (ns : List Int) : List Int := rows.map fun r => innerI r ns
abbrev Pre := List PyData → (PyData → Prop) → Prop
abbrev PreN := List PyData → (List PyData → Prop) → Prop
abbrev pre_is_integer : Pre := fun ds Φ => ∃ x, ds = [x] ∧ plainB x = true ∧ Φ (.bool (isInt x))
def isCnt0 (x : PyData) : Bool := match x with
  | .int i => decide (0 ≤ i)
  | _ => false
def isCnt (m : Int) (x : PyData) : Bool := match x with
  | .int i => decide (0 ≤ i) && decide (i ≤ m)
  | _ => false
def areCnts (x : PyData) (n m : Int) : Bool := match x with
  | .tuple xs => decide ((xs.length : Int) = n) && xs.all (isCnt m)
  | _ => false
def isLst (x : PyData) : Bool := match x with
  | .tuple _ => true
  | .list _ => true
  | _ => false
abbrev pre_is_count : Pre := fun ds Φ => ∃ x, ds = [x] ∧ plainB x = true ∧ Φ (.bool (isCnt0 x))
abbrev pre_is_count_to : Pre := fun ds Φ => ∃ (x : PyData) (m : Int), ds = [x, .int m] ∧ plainB x = true ∧ Φ (.bool (isCnt m x))
abbrev pre_are_integers : Pre := fun ds Φ => ∃ (x : PyData) (n : Int), ds = [x, .int n] ∧ shortOk x ∧ Φ (.bool (areInts x n))
abbrev pre_are_counts : Pre := fun ds Φ => ∃ (x : PyData) (n m : Int), ds = [x, .int n, .int m] ∧ shortOk x ∧ Φ (.bool (areCnts x n m))
abbrev pre_is_listed : Pre := fun ds Φ => ∃ x, ds = [x] ∧ plainB x = true ∧ Φ (.bool (isLst x))
abbrev pre_first_place : Pre := fun ds Φ => ∃ ns : List Int, ds = [tupI ns] ∧ ns.length ≤ 1000 ∧ Φ (firstD ns)
abbrev pre_inner : Pre := fun ds Φ => ∃ row other : List Int, ds = [tupI row, tupI other] ∧ (∀ a ∈ row, -1000000 ≤ a ∧ a ≤ 1000000) ∧ row.length ≤ 1000 ∧ Φ (.int (innerI row other))
abbrev pre_is_frame : Pre := fun ds Φ => ∃ rows n, ds = [frameD rows] ∧ IsFrame rows n ∧ Φ (.bool true)
abbrev pre_check_frame : Pre := fun ds Φ => ∃ rows n, ds = [frameD rows] ∧ IsFrame rows n ∧ Φ .none
abbrev pre_cells_of : Pre := fun ds Φ => ∃ rows n, ds = [frameD rows] ∧ IsFrame rows n ∧ Φ (.int n)
def zeroS (rows : List (List Int)) (ns : List Int) : Bool := (sumsI rows ns).all fun c => c == 0
def isChg (rows : List (List Int)) (n : Nat) (x : PyData) : Bool := areInts x n && (match x with
  | .tuple xs => zeroS rows (xs.map toI)
  | _ => false)
def isSmall (rows : List (List Int)) (n : Nat) (x : PyData) : Bool := isChg rows n x && (match x with
  | .tuple xs => (xs.map toI).all fun c => decide ((if c < 0 then -c else c) ≤ 99)
  | _ => false)
abbrev pre_is_change_by : List PyData → (PyData → Prop) → Prop := fun ds Φ => ∃ rows n x, ds = [frameD rows, x] ∧ IsFrame rows n ∧ shortOk x ∧ Φ (.bool (isChg rows n x))
abbrev pre_is_small_change : List PyData → (PyData → Prop) → Prop := fun ds Φ => ∃ rows n x, ds = [frameD rows, x] ∧ IsFrame rows n ∧ shortOk x ∧ Φ (.bool (isSmall rows n x))
/-- the first number that is not 0 is above 0 -/
def goesUp (ns : List Int) : Bool := match ns.find? (fun c => decide (c ≠ 0)) with
  | some c => decide (0 < c)
  | none => false
def isMove (rows : List (List Int)) (n : Nat) (x : PyData) : Bool := isSmall rows n x && (match x with
  | .tuple xs => goesUp (xs.map toI)
  | _ => false)
abbrev pre_is_move_of : List PyData → (PyData → Prop) → Prop := fun ds Φ => ∃ rows n x, ds = [frameD rows, x] ∧ IsFrame rows n ∧ shortOk x ∧ Φ (.bool (isMove rows n x))
abbrev pre_is_move : List PyData → (PyData → Prop) → Prop := fun ds Φ => ∃ rows n x, ds = [frameD rows, x] ∧ IsFrame rows n ∧ shortOk x ∧ Φ (.bool (isMove rows n x))
abbrev pre_turned : List PyData → (PyData → Prop) → Prop := fun ds Φ => ∃ ns : List Int, ds = [tupI ns] ∧ ns.length ≤ 1000 ∧ Φ (tupI (ns.map fun c => -c))
abbrev pre_above_nought : List PyData → (PyData → Prop) → Prop := fun ds Φ => ∃ ns : List Int, ds = [tupI ns] ∧ ns.length ≤ 1000 ∧ Φ (tupI (ns.map fun c => if 0 > c then 0 else c))
def ltAt (ms : List (List Int)) (i : Nat) : Bool := match ms[i]?, ms[i + 1]? with
  | some a, some b => decide (a < b)
  | _, _ => true
def riseB (ms : List (List Int)) : Bool := (List.range (ms.length - 1)).all (ltAt ms)
def rowOf : PyData → List Int
  | .tuple xs => xs.map toI
  | _ => []
def deepOk : PyData → Prop
  | .tuple xs => xs.length ≤ 1000 ∧ ∀ y ∈ xs, shortOk y
  | .list xs => xs.length ≤ 1000 ∧ ∀ y ∈ xs, shortOk y
  | .dict (_ :: _) => False
  | _ => True
def isBook (rows : List (List Int)) (n : Nat) (x : PyData) : Bool := match x with
  | .tuple xs => decide (xs.length ≤ 60) && (xs.all (isMove rows n) && riseB (xs.map rowOf))
  | _ => false
abbrev pre_is_rising : List PyData → (PyData → Prop) → Prop := fun ds Φ => ∃ (ms : List (List Int)) (x : PyData), ds = [x] ∧ (x = rowsT ms ∨ x = .list (ms.map fun m => tupI m)) ∧ ms.length ≤ 1000 ∧ Φ (.bool (riseB ms))
abbrev pre_is_book : List PyData → (PyData → Prop) → Prop := fun ds Φ => ∃ rows n x, ds = [frameD rows, x] ∧ IsFrame rows n ∧ deepOk x ∧ Φ (.bool (isBook rows n x))
abbrev pre_check_move : List PyData → (PyData → Prop) → Prop := fun ds Φ => ∃ rows n ns, ds = [frameD rows, tupI ns] ∧ IsFrame rows n ∧ isMove rows n (tupI ns) = true ∧ Φ .none
def turnR (ns : List Int) : List Int := match ns.find? (fun c => decide (c ≠ 0)) with
  | some c => if c < 0 then ns.map fun c => -c else ns
  | none => ns
abbrev pre_turned_right : List PyData → (PyData → Prop) → Prop := fun ds Φ => ∃ ns : List Int, ds = [tupI ns] ∧ ns.length ≤ 1000 ∧ Φ (tupI (turnR ns))
abbrev pre_move_of : List PyData → (PyData → Prop) → Prop := fun ds Φ => ∃ rows n ns, ds = [frameD rows, tupI ns] ∧ IsFrame rows n ∧ isSmall rows n (tupI ns) = true ∧ (∃ c ∈ ns, c ≠ 0) ∧ Φ (tupI (turnR ns))
abbrev pre_ends : List PyData → (PyData → Prop) → Prop := fun ds Φ => ∃ rows n ns, ds = [frameD rows, tupI ns] ∧ IsFrame rows n ∧ isMove rows n (tupI ns) = true ∧ Φ (.tuple [tupI (ns.map fun c => if 0 > c then 0 else c), tupI ((ns.map fun c => -c).map fun c => if 0 > c then 0 else c)])
abbrev pre_sums_by : Pre := fun ds Φ => ∃ rows n ns, ds = [frameD rows, tupI ns] ∧ IsFrame rows n ∧ Φ (tupI (sumsI rows ns))
end K27
namespace K27
open PySem Fw
theorem toI_ints (ns : List Int) : (ns.map PyData.int).map toI = ns := by
  rw [List.map_map]
  exact List.map_id' ns
end K27
namespace K27
open PySem Fw
theorem first_none {ns : List Int} : isNo (firstD ns) = ns.all fun c => c == 0 := by
  unfold firstD
  cases h : ns.findIdx? (fun n => decide (n ≠ 0)) with
  | none =>
    rw [List.findIdx?_eq_none_iff] at h
    symm
    refine List.all_eq_true.mpr fun c hc => ?_
    have := h c hc
    simpa using this
  | some i =>
    obtain ⟨hi, h1, _⟩ := List.findIdx?_eq_some_iff_getElem.mp h
    show false = _
    symm
    rw [Bool.eq_false_iff]
    intro z
    have := List.all_eq_true.mp z ns[i] (List.getElem_mem hi)
    simp at h1 this
    exact h1 this
theorem ints_area {x : PyData} {n : Int} (h : areInts x n = true) : ∃ ns : List Int, x = tupI ns ∧ (ns.length : Int) = n := by
  cases x with
  | tuple xs =>
    have e2 : (decide ((xs.length : Int) = n) && xs.all isInt) = true := h
    obtain ⟨a, b⟩ := Bool.and_eq_true_iff.mp e2
    refine ⟨_, congrArg PyData.tuple (ints_of b), ?_⟩
    rw [List.length_map]
    exact of_decide_eq_true a
  | _ => cases h
end K27
namespace K27
open PySem Fw
theorem first_find {ns : List Int} : (∃ i c, firstD ns = .int (i : Nat) ∧ ns[i]? = some c ∧ ns.find? (fun c => decide (c ≠ 0)) = some c) ∨ (firstD ns = .none ∧ ns.find? (fun c => decide (c ≠ 0)) = none) := by
  unfold firstD
  cases h : ns.findIdx? (fun n => decide (n ≠ 0)) with
  | none =>
    refine .inr ⟨rfl, ?_⟩
    rw [List.findIdx?_eq_none_iff] at h
    exact List.find?_eq_none.mpr fun c hc => by have := h c hc; simpa using this
  | some i =>
    obtain ⟨hi, h1, h2⟩ := List.findIdx?_eq_some_iff_getElem.mp h
    refine .inl ⟨i, ns[i], rfl, List.getElem?_eq_getElem hi, ?_⟩
    rw [List.find?_eq_some_iff_getElem]
    exact ⟨h1, i, hi, rfl, fun j hj => by have := h2 j hj; simpa using this⟩
end K27
namespace K27
open PySem Fw
theorem deep_row (m : List Int) : (tupI m).depth ≤ 60 := by
  show PyData.depthAll (m.map .int) + 1 ≤ 60
  rw [FwW.deep_ints]
  decide
theorem noDict_row (m : List Int) : (tupI m).hasDict = false := by
  have all : ∀ m : List Int, PyData.hasDictAll (m.map .int) = false := fun m => by
    induction m with
    | nil => rfl
    | cons x m ih =>
      show (PyData.hasDict (.int x) || PyData.hasDictAll (m.map .int)) = false
      rw [ih]
      rfl
  exact all m
theorem alike_row (a b : List Int) : PySem.W.alike (tupI a) (tupI b) = true := by
  have := FwW.alike_all a b
  simpa [PySem.W.alike] using this
end K27
namespace K27
open PySem Fw
theorem move_row {rows : List (List Int)} {n : Nat} {x : PyData} (h : isMove rows n x = true) : ∃ ns : List Int, x = tupI ns ∧ ns.length = n := by
  obtain ⟨ns, e, hl⟩ := ints_area (Bool.and_eq_true_iff.mp (Bool.and_eq_true_iff.mp (Bool.and_eq_true_iff.mp h).1).1).1
  exact ⟨ns, e, by omega⟩
theorem rows_of {rows : List (List Int)} {n : Nat} : ∀ {xs : List PyData}, xs.all (isMove rows n) = true → xs = (xs.map rowOf).map fun m => tupI m
  | [], _ => rfl
  | x :: xs, h => by
    rw [List.all_cons, Bool.and_eq_true] at h
    obtain ⟨ns, rfl, _⟩ := move_row h.1
    have ih := rows_of h.2
    have e1 : rowOf (tupI ns) = ns := toI_ints ns
    rw [List.map_cons, List.map_cons, e1, ← ih]
end K27
namespace K27
open PySem Fw
theorem small_row {rows : List (List Int)} {n : Nat} {ns : List Int} (h : isSmall rows n (tupI ns) = true) : ns.length = n := by
  obtain ⟨ms, e, hl⟩ := ints_area (Bool.and_eq_true_iff.mp (Bool.and_eq_true_iff.mp h).1).1
  have := congrArg List.length (PyData.tuple.inj e)
  rw [List.length_map, List.length_map] at this
  omega
theorem not_none {ns : List Int} (h : ∃ c ∈ ns, c ≠ 0) : isNo (firstD ns) = false := by
  rw [first_none, Bool.eq_false_iff]
  obtain ⟨c, hc, hn⟩ := h
  intro z
  have := List.all_eq_true.mp z c hc
  exact hn (by simpa using this)
end K27
namespace K27
open PySem PySem.Spec PyProof.Rows L2 Evl Fw
abbrev pre__law_pot : PreN := fun ds Φ => ∃ ns : List Int, ds = [.list (ns.map .int), .int 0] ∧ ns.length ≤ 63 ∧ ∀ a b : Int, PotB a b → Φ [.int a, .int b]
abbrev pre__law_draw : Pre := fun ds Φ => ∃ n : Int, ds = [.int n] ∧ 1 ≤ n ∧ n ≤ 1000000 ∧ ∀ r : Int, 0 ≤ r → r < n → Φ (.int r)
abbrev pre__law_pick : Pre := fun ds Φ => ∃ xs : List PyData, ds = [.list xs] ∧ 0 < xs.length ∧ xs.length ≤ 1000 ∧ ∀ x ∈ xs, Φ x
abbrev pre__law_turned : Pre := fun ds Φ => ∃ ns : List Int, ds = [tupI ns] ∧ ns.length ≤ 1000 ∧ Φ (tupI (ns.map fun c => 0 - c))
abbrev pre__law_sums : Pre := fun ds Φ => ∃ rows n ns, ds = [rowsT rows, tupI ns] ∧ IsFrame rows n ∧ Φ (tupI (sumsI rows ns))
abbrev pre__law_is_row : Pre := fun ds Φ => ∃ (x : PyData) (n : Int), ds = [x, .int n] ∧ shortOk x ∧ Φ (.bool (areInts x n))
end K27
namespace K27
open PySem PySem.Spec PyProof.Rows L2 Evl Fw
abbrev pre__law_is_move : Pre := fun ds Φ => ∃ rows n x, ds = [frameD rows, x] ∧ IsFrame rows n ∧ shortOk x ∧ Φ (.bool (isMove rows n x))
theorem find_filter (ns : List Int) : ns.find? (fun c => decide (c ≠ 0)) = (ns.filter fun c => decide (c ≠ 0)).head? := by
  rw [List.head?_filter]
theorem canLay_i : ∀ ns : List Int, PyData.canLayAll0 (ns.map .int) = true
  | [] => rfl
  | n :: ns => by
    show (PyData.canLay0 (.int n) && PyData.canLayAll0 (ns.map .int)) = true
    rw [canLay_i ns]
    rfl
theorem shapedLi (ns : List Int) : SeqAt.shaped (.list (ns.map .int)) = true := by
  unfold SeqAt.shaped
  have e1 : PyData.canLay0 (.list (ns.map .int)) = true := canLay_i ns
  have e2 : PyData.depth (.list (ns.map .int)) = 1 := congrArg (· + 1) (FwW.deep_ints ns)
  rw [e1, e2]
  rfl
theorem all_abs {ns : List Int} {m : Int} (h1 : m ∈ ns.map fun c => if c < 0 then -c else c) (h2 : ∀ y ∈ ns.map fun c => if c < 0 then -c else c, y ≤ m) : (ns.all fun c => decide ((if c < 0 then -c else c) ≤ 99)) = decide (m ≤ 99) := by
  by_cases h : m ≤ 99
  · rw [decide_eq_true h]
    refine List.all_eq_true.mpr fun c hc => ?_
    have := h2 _ (List.mem_map.mpr ⟨c, hc, rfl⟩)
    exact decide_eq_true (by omega)
  · rw [decide_eq_false h, Bool.eq_false_iff]
    intro z
    obtain ⟨c, hc, e⟩ := List.mem_map.mp h1
    have := of_decide_eq_true (List.all_eq_true.mp z c hc)
    omega
theorem zero_any (rows : List (List Int)) (ns : List Int) : zeroS rows ns = !((sumsI rows ns).any fun c => c != 0) := by
  unfold zeroS
  induction sumsI rows ns with
  | nil => rfl
  | cons c cs ih =>
    rw [List.all_cons, List.any_cons, ih]
    by_cases h : c = 0
    · simp [h]
    · have e1 : (c == 0) = false := by simpa using h
      have e2 : (c != 0) = true := by simpa using h
      rw [e1, e2]
      rfl
end K27

namespace K27
open PySem PySem.Spec PyProof.Rows L2 Evl Fw
/-- whether any value is a table of the frame -/
def isTab (rows : List (List Int)) (n : Nat) (x : PyData) : Bool := areCnts x n 20000 && (match x with
  | .tuple xs => (sumsI rows (xs.map toI)).all fun c => decide (c ≤ 20000)
  | _ => false)
structure TOk (rows : List (List Int)) (n : Nat) (t : List Int) : Prop where
  len : t.length = n
  sz : ∀ c ∈ t, 0 ≤ c ∧ c ≤ 20000
  sum : ∀ r ∈ rows, innerI r t ≤ 20000
abbrev pre_is_table_of : Pre := fun ds Φ => ∃ rows n x, ds = [frameD rows, x] ∧ IsFrame rows n ∧ shortOk x ∧ Φ (.bool (isTab rows n x))
theorem cnts_of {x : PyData} {n m : Int} : areCnts x n m = true ↔ ∃ t : List Int, x = tupI t ∧ (t.length : Int) = n ∧ ∀ c ∈ t, 0 ≤ c ∧ c ≤ m := by
  constructor
  · intro h
    cases x with
    | tuple xs =>
      have h2 : (decide ((xs.length : Int) = n) && xs.all (isCnt m)) = true := h
      obtain ⟨h3, h4⟩ := Bool.and_eq_true_iff.mp h2
      have all : ∀ x ∈ xs, ∃ c : Int, x = .int c ∧ 0 ≤ c ∧ c ≤ m := fun x hx => by
        have h5 := List.all_eq_true.mp h4 x hx
        cases x with
        | int i =>
          have h6 : (decide (0 ≤ i) && decide (i ≤ m)) = true := h5
          obtain ⟨a, b⟩ := Bool.and_eq_true_iff.mp h6
          exact ⟨i, rfl, of_decide_eq_true a, of_decide_eq_true b⟩
        | _ => cases h5
      obtain ⟨ns, rfl, hn⟩ := ints_all all
      refine ⟨ns, rfl, ?_, hn⟩
      have := of_decide_eq_true h3
      rwa [List.length_map] at this
    | _ => cases h
  · rintro ⟨t, rfl, hl, hc⟩
    show (decide (((t.map PyData.int).length : Int) = n) && (t.map PyData.int).all (isCnt m)) = true
    rw [List.length_map, decide_eq_true hl, Bool.true_and]
    refine List.all_eq_true.mpr fun x hx => ?_
    obtain ⟨c, hcm, rfl⟩ := List.mem_map.mp hx
    have := hc c hcm
    show (decide (0 ≤ c) && decide (c ≤ m)) = true
    rw [decide_eq_true this.1, decide_eq_true this.2]
    rfl
theorem tab_iff {rows : List (List Int)} {n : Nat} {x : PyData} : isTab rows n x = true ↔ ∃ t, x = tupI t ∧ TOk rows n t := by
  unfold isTab
  rw [Bool.and_eq_true_iff, cnts_of]
  constructor
  · rintro ⟨⟨t, rfl, hl, hc⟩, h⟩
    have h2 : (sumsI rows ((t.map PyData.int).map toI)).all (fun c => decide (c ≤ 20000)) = true := h
    rw [toI_ints] at h2
    exact ⟨t, rfl, by omega, hc, fun r hr => of_decide_eq_true (List.all_eq_true.mp h2 _ (List.mem_map.mpr ⟨r, hr, rfl⟩))⟩
  · rintro ⟨t, rfl, T⟩
    refine ⟨⟨t, rfl, by rw [T.len], T.sz⟩, ?_⟩
    show (sumsI rows ((t.map PyData.int).map toI)).all (fun c => decide (c ≤ 20000)) = true
    rw [toI_ints]
    refine List.all_eq_true.mpr fun c hc => ?_
    obtain ⟨r, hr, rfl⟩ := List.mem_map.mp hc
    exact decide_eq_true (T.sum r hr)
end K27
namespace K27
open PySem PySem.Spec PyProof.Rows L2 Evl Fw FwS FwD
/-- a move whose numbers are small -/
structure SmMove (rows : List (List Int)) (n : Nat) (m : List Int) : Prop where
  mv : isMove rows n (tupI m) = true
  bd : ∀ c ∈ m, -2 ≤ c ∧ c ≤ 2
abbrev rowsL (ms : List (List Int)) : PyData := .list (ms.map fun m => tupI m)
def nonz (ns : List Int) : Bool := ns.any fun c => c != 0
abbrev pre__law_is_book : Pre := fun ds Φ => ∃ rows n x, ds = [frameD rows, x] ∧ IsFrame rows n ∧ deepOk x ∧ Φ (.bool (isBook rows n x))
abbrev pre__law_change : Pre := fun ds Φ => ∃ (rows : List (List Int)) (n : Nat) (ms : List (List Int)), ds = [rowsL ms, .int n] ∧ IsFrame rows n ∧ ms.length ≤ 1000 ∧ (∀ m ∈ ms, SmMove rows n m) ∧ ∀ ns, isSmall rows n (tupI ns) = true → Φ (tupI ns)
abbrev pre__law_move_of : Pre := fun ds Φ => ∃ ns, ds = [tupI ns] ∧ ns.length ≤ 1000 ∧ nonz ns = true ∧ Φ (tupI (turnR ns))
abbrev pre_book_of : Pre := fun ds Φ => ∃ (rows : List (List Int)) (n : Nat) (rs : List (List Int)) (x : PyData), ds = [frameD rows, x] ∧ (x = .list (rs.map fun m => tupI m) ∨ x = .tuple (rs.map fun m => tupI m)) ∧ IsFrame rows n ∧ rs.length ≤ 60 ∧ (∀ r ∈ rs, isSmall rows n (tupI r) = true) ∧
  ∀ bs : List (List Int), bs.Pairwise (· < ·) → (∀ y, y ∈ bs ↔ y ∈ (rs.filter nonz).map turnR) → Φ (rowsT bs)
abbrev pre__law_judged_right : Pre := fun ds Φ => ∃ (rows : List (List Int)) (n : Nat) (ms : List (List Int)), ds = [frameD rows, rowsL ms] ∧ IsFrame rows n ∧ n ≤ 4 ∧ ms.length ≤ 625 ∧ (∀ m ∈ ms, SmMove rows n m) ∧ Φ (.bool true)
abbrev pre_law : Pre := Fw.pre_law
/-! ### numbers -/
theorem small_bd {rows : List (List Int)} {n : Nat} {ns : List Int} (h : isSmall rows n (tupI ns) = true) : ∀ c ∈ ns, -99 ≤ c ∧ c ≤ 99 := by
  have h2 : ((ns.map PyData.int).map toI).all (fun c => decide ((if c < 0 then -c else c) ≤ 99)) = true := (Bool.and_eq_true_iff.mp h).2
  rw [toI_ints] at h2
  intro c hc
  have := of_decide_eq_true (List.all_eq_true.mp h2 c hc)
  split at this <;> omega
theorem small_zero {rows : List (List Int)} {n : Nat} {ns : List Int} (h : isSmall rows n (tupI ns) = true) : zeroS rows ns = true := by
  have h2 : zeroS rows ((ns.map PyData.int).map toI) = true := (Bool.and_eq_true_iff.mp (Bool.and_eq_true_iff.mp h).1).2
  rw [toI_ints] at h2
  exact h2
theorem zero_in {rows : List (List Int)} {ns : List Int} (h : zeroS rows ns = true) : ∀ r ∈ rows, innerI r ns = 0 := fun r hr => by
  have := List.all_eq_true.mp h (innerI r ns) (List.mem_map.mpr ⟨r, hr, rfl⟩)
  simpa using this
theorem small_of {rows : List (List Int)} {n : Nat} {ns : List Int} (hl : ns.length = n) (hz : ∀ r ∈ rows, innerI r ns = 0) (hb : ∀ c ∈ ns, -99 ≤ c ∧ c ≤ 99) : isSmall rows n (tupI ns) = true := by
  have e1 : areInts (tupI ns) n = true := by
    show (decide (((ns.map PyData.int).length : Int) = n) && (ns.map PyData.int).all isInt) = true
    rw [all_ints, List.length_map, hl]
    simp
  have e2 : zeroS rows ((ns.map PyData.int).map toI) = true := by
    rw [toI_ints]
    refine List.all_eq_true.mpr fun c hc => ?_
    obtain ⟨r, hr, rfl⟩ := List.mem_map.mp hc
    rw [hz r hr]
    rfl
  have e3 : (((ns.map PyData.int).map toI).all fun c => decide ((if c < 0 then -c else c) ≤ 99)) = true := by
    rw [toI_ints]
    refine List.all_eq_true.mpr fun c hc => decide_eq_true ?_
    have := hb c hc
    split <;> omega
  show ((areInts (tupI ns) n && zeroS rows ((ns.map PyData.int).map toI)) && (((ns.map PyData.int).map toI).all fun c => decide ((if c < 0 then -c else c) ≤ 99))) = true
  rw [e1, e2, e3]
  rfl
theorem move_of_small {rows : List (List Int)} {n : Nat} {ns : List Int} (h : isSmall rows n (tupI ns) = true) (g : goesUp ns = true) : isMove rows n (tupI ns) = true := by
  show (isSmall rows n (tupI ns) && goesUp ((ns.map PyData.int).map toI)) = true
  rw [h, toI_ints, g]
  rfl
theorem small_of_move {rows : List (List Int)} {n : Nat} {ns : List Int} (h : isMove rows n (tupI ns) = true) : isSmall rows n (tupI ns) = true ∧ goesUp ns = true := by
  have h2 : (isSmall rows n (tupI ns) && goesUp ((ns.map PyData.int).map toI)) = true := h
  rw [toI_ints] at h2
  exact Bool.and_eq_true_iff.mp h2
theorem inner_scale (k : Int) : ∀ r ns : List Int, innerI r (ns.map fun c => k * c) = k * innerI r ns
  | [], ns => by simp [innerI]
  | _ :: _, [] => by simp [innerI]
  | a :: r, c :: ns => by
    have ih := inner_scale k r ns
    unfold innerI at ih ⊢
    simp only [List.map_cons, List.zipWith_cons_cons, List.sum_cons]
    rw [ih, Int.mul_add, ← Int.mul_assoc, ← Int.mul_assoc, Int.mul_comm a k]
theorem inner_neg (r ns : List Int) : innerI r (ns.map fun c => -c) = - innerI r ns := by
  have := inner_scale (-1) r ns
  have e : (ns.map fun c => -1 * c) = ns.map fun c => -c := List.map_congr_left fun c _ => by omega
  rw [e] at this
  omega
theorem inner_nil (r : List Int) : innerI r [] = 0 := by simp [innerI]
theorem inner_zero : ∀ (r : List Int) (n : Nat), innerI r (List.replicate n 0) = 0
  | [], n => by simp [innerI]
  | _ :: _, 0 => by simp [innerI]
  | a :: r, n + 1 => by
    have ih := inner_zero r n
    unfold innerI at ih ⊢
    rw [List.replicate_succ, List.zipWith_cons_cons, List.sum_cons, ih]
    omega
theorem inner_parts : ∀ r ns : List Int, innerI r (ns.map fun c => if 0 > c then 0 else c) - innerI r ((ns.map fun c => -c).map fun c => if 0 > c then 0 else c) = innerI r ns
  | [], ns => by simp [innerI]
  | _ :: _, [] => by simp [innerI]
  | a :: r, c :: ns => by
    have ih := inner_parts r ns
    unfold innerI at ih ⊢
    simp only [List.map_cons, List.zipWith_cons_cons, List.sum_cons]
    have e : a * (if 0 > c then 0 else c) - a * (if 0 > -c then 0 else -c) = a * c := by
      by_cases h : 0 > c
      · rw [if_pos h, if_neg (by omega), Int.mul_zero, Int.mul_neg]
        omega
      · by_cases h2 : c = 0
        · subst h2; simp
        · rw [if_neg h, if_pos (by omega), Int.mul_zero]
          omega
    omega
theorem nonz_iff {ns : List Int} : nonz ns = true ↔ ∃ c ∈ ns, c ≠ 0 := by
  unfold nonz
  rw [List.any_eq_true]
  constructor
  · rintro ⟨c, h1, h2⟩
    exact ⟨c, h1, by simpa using h2⟩
  · rintro ⟨c, h1, h2⟩
    exact ⟨c, h1, by simpa using h2⟩
theorem find_some_of {ns : List Int} (h : nonz ns = true) : ∃ c, ns.find? (fun c => decide (c ≠ 0)) = some c ∧ c ∈ ns ∧ c ≠ 0 := by
  cases e : ns.find? (fun c => decide (c ≠ 0)) with
  | some c =>
    have := List.find?_some e
    exact ⟨c, rfl, List.mem_of_find?_eq_some e, by simpa using this⟩
  | none =>
    obtain ⟨c, hc, hn⟩ := nonz_iff.mp h
    have := List.find?_eq_none.mp e c hc
    simp [hn] at this
theorem find_neg : ∀ ns : List Int, (ns.map fun c => -c).find? (fun c => decide (c ≠ 0)) = (ns.find? (fun c => decide (c ≠ 0))).map fun c => -c
  | [] => rfl
  | c :: ns => by
    have ih := find_neg ns
    rw [List.map_cons, List.find?_cons, List.find?_cons]
    by_cases h : c = 0
    · subst h
      simpa using ih
    · have h2 : -c ≠ 0 := by omega
      rw [decide_eq_true h, decide_eq_true h2]
      rfl
theorem turn_small {rows : List (List Int)} {n : Nat} {ns : List Int} (h : isSmall rows n (tupI ns) = true) : isSmall rows n (tupI (turnR ns)) = true := by
  have hl := small_row h
  have hb := small_bd h
  have hz := zero_in (small_zero h)
  unfold turnR
  split
  · split
    · refine small_of (by rw [List.length_map]; exact hl) (fun r hr => by rw [inner_neg, hz r hr]; rfl) fun c hc => ?_
      obtain ⟨d, hd, rfl⟩ := List.mem_map.mp hc
      have := hb d hd
      omega
    · exact h
  · exact h
theorem turn_up {ns : List Int} (h : nonz ns = true) : goesUp (turnR ns) = true := by
  obtain ⟨c, e, _, hn⟩ := find_some_of h
  unfold turnR
  rw [e]
  show goesUp (if c < 0 then ns.map fun c => -c else ns) = true
  by_cases hc : c < 0
  · rw [if_pos hc]
    unfold goesUp
    rw [find_neg, e]
    exact decide_eq_true (show 0 < -c by omega)
  · rw [if_neg hc]
    unfold goesUp
    rw [e]
    exact decide_eq_true (show 0 < c by omega)
theorem turn_move {rows : List (List Int)} {n : Nat} {ns : List Int} (h : isSmall rows n (tupI ns) = true) (hn : nonz ns = true) : isMove rows n (tupI (turnR ns)) = true := move_of_small (turn_small h) (turn_up hn)
/-! ### lists in order -/
theorem lt_irr : ∀ a : List Int, ¬ a < a
  | [], h => by simp at h
  | x :: a, h => by
    rw [List.cons_lt_cons_iff] at h
    rcases h with h | h
    · omega
    · exact lt_irr a h.2
theorem lt_tr : ∀ {a b c : List Int}, a < b → b < c → a < c
  | [], _, [], _, h => by simp at h
  | [], _, z :: c, _, _ => List.nil_lt_cons ..
  | x :: a, [], c, h, _ => by simp at h
  | x :: a, y :: b, [], _, h => by simp at h
  | x :: a, y :: b, z :: c, h1, h2 => by
    rw [List.cons_lt_cons_iff] at h1 h2 ⊢
    rcases h1 with h1 | ⟨e1, h1⟩ <;> rcases h2 with h2 | ⟨e2, h2⟩
    · left; omega
    · left; omega
    · left; omega
    · right; exact ⟨by omega, lt_tr h1 h2⟩
theorem asc_uniq : ∀ {xs ys : List (List Int)}, xs.Pairwise (· < ·) → ys.Pairwise (· < ·) → (∀ x, x ∈ xs ↔ x ∈ ys) → xs = ys
  | [], [], _, _, _ => rfl
  | [], y :: ys, _, _, h => by have := (h y).mpr (by simp); simp at this
  | x :: xs, [], _, _, h => by have := (h x).mp (by simp); simp at this
  | x :: xs, y :: ys, h1, h2, h => by
    have p1 := List.pairwise_cons.mp h1
    have p2 := List.pairwise_cons.mp h2
    have e : x = y := by
      rcases List.mem_cons.mp ((h x).mp List.mem_cons_self) with e | m1
      · exact e
      · rcases List.mem_cons.mp ((h y).mpr List.mem_cons_self) with e | m2
        · exact e.symm
        · exact absurd (lt_tr (p1.1 y m2) (p2.1 x m1)) (lt_irr _)
    subst e
    rw [asc_uniq p1.2 p2.2 fun z => ?_]
    constructor
    · intro q
      rcases List.mem_cons.mp ((h z).mp (List.mem_cons_of_mem _ q)) with e | q2
      · subst e
        exact absurd (p1.1 z q) (lt_irr _)
      · exact q2
    · intro q
      rcases List.mem_cons.mp ((h z).mpr (List.mem_cons_of_mem _ q)) with e | q2
      · subst e
        exact absurd (p2.1 z q) (lt_irr _)
      · exact q2
theorem rise_cons (a : List Int) (b : List Int) (ms : List (List Int)) : riseB (a :: b :: ms) = (decide (a < b) && riseB (b :: ms)) := by
  unfold riseB
  have e : (a :: b :: ms).length - 1 = (b :: ms).length - 1 + 1 := by simp
  rw [e, List.range_succ_eq_map, List.all_cons, List.all_map]
  rfl
theorem rise_asc : ∀ {ms : List (List Int)}, riseB ms = true ↔ ms.Pairwise (· < ·)
  | [] => by simp [riseB]
  | [a] => by simp [riseB]
  | a :: b :: ms => by
    have ih := rise_asc (ms := b :: ms)
    rw [rise_cons, Bool.and_eq_true, ih, decide_eq_true_eq]
    constructor
    · rintro ⟨h1, h2⟩
      refine List.pairwise_cons.mpr ?_
      refine ⟨fun x hx => ?_, h2⟩
      rcases List.mem_cons.mp hx with e | e
      · rw [e]; exact h1
      · exact lt_tr h1 ((List.pairwise_cons.mp h2).1 x e)
    · intro h
      obtain ⟨h1, h2⟩ := List.pairwise_cons.mp h
      exact ⟨h1 b List.mem_cons_self, h2⟩
/-- a list is the sorted one of its members exactly if it rises -/
theorem rise_eq {ms rs : List (List Int)} (asc : rs.Pairwise (· < ·)) (mem : ∀ y, y ∈ rs ↔ y ∈ ms) : decide (ms = rs) = riseB ms := by
  by_cases h : ms = rs
  · rw [decide_eq_true h, h, (rise_asc.mpr asc)]
  · rw [decide_eq_false h]
    symm
    rw [Bool.eq_false_iff]
    exact fun z => h (asc_uniq (rise_asc.mp z) asc fun y => (mem y).symm)
theorem eqvAll_ints : ∀ a b : List Int, PyData.eqvAll (a.map .int) (b.map .int) = decide (a = b)
  | [], [] => rfl
  | [], _ :: _ => rfl
  | _ :: _, [] => rfl
  | x :: a, y :: b => by
    show ((x == y) && PyData.eqvAll (a.map .int) (b.map .int)) = _
    rw [eqvAll_ints a b]
    by_cases h : x = y
    · subst h
      by_cases h2 : a = b
      · subst h2; simp
      · simp [h2]
    · simp [h]
theorem eqv_row (a b : List Int) : PyData.eqv (tupI a) (tupI b) = decide (a = b) := eqvAll_ints a b
theorem eqvAll_rows : ∀ a b : List (List Int), PyData.eqvAll (a.map fun m => tupI m) (b.map fun m => tupI m) = decide (a = b)
  | [], [] => rfl
  | [], _ :: _ => rfl
  | _ :: _, [] => rfl
  | x :: a, y :: b => by
    show (PyData.eqv (tupI x) (tupI y) && PyData.eqvAll (a.map fun m => tupI m) (b.map fun m => tupI m)) = _
    rw [eqvAll_rows a b, eqv_row]
    by_cases h : x = y
    · subst h
      by_cases h2 : a = b
      · subst h2; simp
      · simp [h2]
    · simp [h]
end K27
namespace K27
open PySem Fw
theorem canLay_rows : ∀ ms : List (List Int), PyData.canLayAll0 (ms.map fun m => tupI m) = true
  | [] => rfl
  | m :: ms => by
    show (PyData.canLayAll0 (m.map .int) && PyData.canLayAll0 (ms.map fun m => tupI m)) = true
    rw [canLay_i m, canLay_rows ms]
    rfl
theorem depth_rows : ∀ ms : List (List Int), PyData.depthAll (ms.map fun m => tupI m) ≤ 1
  | [] => Nat.zero_le _
  | m :: ms => by
    show max (PyData.depthAll (m.map .int) + 1) (PyData.depthAll (ms.map fun m => tupI m)) ≤ 1
    rw [FwW.deep_ints]
    have := depth_rows ms
    omega
theorem shaped_rows (ms : List (List Int)) : SeqAt.shaped (.list (ms.map fun m => tupI m)) = true := by
  unfold SeqAt.shaped
  have e1 : PyData.canLay0 (.list (ms.map fun m => tupI m)) = true := canLay_rows ms
  have e2 : PyData.depth (.list (ms.map fun m => tupI m)) ≤ 2 := Nat.succ_le_succ (depth_rows ms)
  rw [e1, decide_eq_true (show PyData.depth (.list (ms.map fun m => tupI m)) ≤ 64 by omega)]
  rfl
theorem shaped_rowsT (ms : List (List Int)) : SeqAt.shaped (rowsT ms) = true := by
  unfold SeqAt.shaped
  have e1 : PyData.canLay0 (rowsT ms) = true := canLay_rows ms
  have e2 : PyData.depth (rowsT ms) ≤ 2 := Nat.succ_le_succ (depth_rows ms)
  rw [e1, decide_eq_true (show PyData.depth (rowsT ms) ≤ 64 by omega)]
  rfl
theorem shaped_row (m : List Int) : SeqAt.shaped (tupI m) = true := by
  unfold SeqAt.shaped
  have e1 : PyData.canLay0 (tupI m) = true := canLay_i m
  have e2 : PyData.depth (tupI m) = 1 := congrArg (· + 1) (FwW.deep_ints m)
  rw [e1, e2]
  rfl
end K27
namespace K27
open PySem Fw
theorem all_nonz : ∀ ns : List Int, (ns.all fun c => c == 0) = !nonz ns
  | [] => rfl
  | c :: ns => by
    have ih := all_nonz ns
    unfold nonz at ih ⊢
    rw [List.all_cons, List.any_cons, ih]
    by_cases h : c = 0
    · subst h; simp
    · have e1 : (c == 0) = false := by simpa using h
      have e2 : (c != 0) = true := by simpa using h
      rw [e1, e2]
      rfl
theorem turn_len (ns : List Int) : (turnR ns).length = ns.length := by
  unfold turnR
  split
  · split
    · rw [List.length_map]
    · rfl
  · rfl
end K27
namespace K27
open PySem PySem.Spec PyProof.Rows L2 Evl Fw
theorem tm_frame {rows : List (List Int)} {n : Nat} (r : IsFrame rows n) : Tm (frameD rows) 3 1000 := by
  have h2 : Tm (rowsT rows) 2 272 := by
    have := tm_tuple (xs := rows.map fun m => tupI m) (k := 1) (b := 16) (n := 16) (fun x hx => by
      obtain ⟨m, hm, rfl⟩ := List.mem_map.mp hx
      exact tm_tupI (fun c hc => by have := r.size m hm c hc; omega) (by rw [r.len m hm]; exact r.cmost)) (by rw [List.length_map]; exact r.most)
    exact this
  have h1 : Tm (.str "frame") 2 272 := ⟨by decide, rfl, by decide +kernel, by decide, by decide, by decide⟩
  have := tm_tuple (xs := [.str "frame", rowsT rows]) (k := 2) (b := 272) (n := 2) (fun x hx => by
    simp only [List.mem_cons, List.not_mem_nil, or_false] at hx
    rcases hx with rfl | rfl
    · exact h1
    · exact h2) (Nat.le_refl _)
  exact this.mono (Nat.le_refl _) (by decide)
theorem tm_bools (bs : List Bool) (h : bs.length ≤ 100) : Tm (.list (bs.map .bool)) 1 100 := by
  have := tm_list (xs := bs.map .bool) (k := 0) (b := 0) (n := 100) (fun x hx => by
    obtain ⟨b, _, rfl⟩ := List.mem_map.mp hx
    exact tm_bool) (by rw [List.length_map]; exact h)
  exact this
end K27
namespace K27
open PySem PySem.Spec PyProof.Rows L2 Evl Fw
theorem parts_alt (mv : List Int) : (mv.map fun c => if 0 > 0 - c then 0 else 0 - c) = (mv.map fun c => -c).map fun c => if 0 > c then 0 else c := by
  rw [List.map_map]
  refine List.map_congr_left fun c _ => ?_
  show (if 0 > 0 - c then 0 else 0 - c) = if 0 > -c then 0 else -c
  rw [show 0 - c = -c by omega]
theorem sums_parts {rows : List (List Int)} {mv : List Int} (h : zeroS rows mv = true) : sumsI rows (mv.map fun c => if 0 > c then 0 else c) = sumsI rows ((mv.map fun c => -c).map fun c => if 0 > c then 0 else c) := by
  unfold sumsI
  refine List.map_congr_left fun r hr => ?_
  have := inner_parts r mv
  rw [zero_in h r hr] at this
  omega
theorem book_true {rows : List (List Int)} {n : Nat} {bs : List (List Int)} (hl : bs.length ≤ 60) (hm : ∀ b ∈ bs, isMove rows n (tupI b) = true) (asc : bs.Pairwise (· < ·)) : isBook rows n (rowsT bs) = true := by
  have e1 : (bs.map fun m => tupI m).all (isMove rows n) = true := List.all_eq_true.mpr fun x hx => by
    obtain ⟨m, hmm, rfl⟩ := List.mem_map.mp hx
    exact hm m hmm
  have e2 : (bs.map fun m => tupI m).map rowOf = bs := by
    rw [List.map_map]
    have : ∀ m ∈ bs, (rowOf ∘ fun m => tupI m) m = m := fun m _ => toI_ints m
    rw [List.map_congr_left this]
    exact List.map_id' bs
  show (decide ((bs.map fun m => tupI m).length ≤ 60) && ((bs.map fun m => tupI m).all (isMove rows n) && riseB ((bs.map fun m => tupI m).map rowOf))) = true
  rw [e1, e2, rise_asc.mpr asc, List.length_map, decide_eq_true hl]
  rfl
theorem asc_len : ∀ {xs ys : List (List Int)}, xs.Pairwise (· < ·) → (∀ x ∈ xs, x ∈ ys) → xs.length ≤ ys.length
  | [], _, _, _ => Nat.zero_le _
  | x :: xs, ys, h, m => by
    have p := List.pairwise_cons.mp h
    have hx := m x List.mem_cons_self
    have ih := asc_len (xs := xs) (ys := ys.erase x) p.2 fun z hz => (List.mem_erase_of_ne (fun e => lt_irr x (by have := p.1 z hz; rw [e] at this; exact this))).mpr (m z (List.mem_cons_of_mem _ hz))
    have := List.length_erase_of_mem hx
    have := List.length_pos_of_mem hx
    rw [List.length_cons]
    omega
end K27
namespace K27
open PySem PySem.Spec PyProof.Rows L2 Evl Fw FwS FwD
/-! ### steps -/
def addI (k : Int) (a b : List Int) : List Int := List.zipWith (fun x y => x + k * y) a b
def rowAt (book : List (List Int)) (i : Nat) : List Int := (book[i]?).getD []
def okN (t : List Int) : Bool := t.all fun c => decide (0 ≤ c)
def wayLn (i : Nat) : List (Nat × Int) := (List.range i).flatMap fun i => [(i, 1), (i, -1)]
def late (book : List (List Int)) (t : List Int) (w : Nat × Int) : List Int := addI w.2 t (rowAt book w.1)
def nextW (book : List (List Int)) (t : List Int) (ws : List (Nat × Int)) : List (List Int) := (ws.map (late book t)).filter okN
def nexts (book : List (List Int)) (t : List Int) : List (List Int) := nextW book t (wayLn book.length)
theorem wayLn_succ (i : Nat) : wayLn (i + 1) = wayLn i ++ [(i, 1), (i, -1)] := by
  unfold wayLn
  rw [List.range_succ, List.flatMap_append]
  rfl
theorem mem_wayLn {i : Nat} {w : Nat × Int} : w ∈ wayLn i ↔ w.1 < i ∧ (w.2 = 1 ∨ w.2 = -1) := by
  unfold wayLn
  rw [List.mem_flatMap]
  constructor
  · rintro ⟨j, hj, h⟩
    have hj := List.mem_range.mp hj
    simp only [List.mem_cons, List.not_mem_nil, or_false] at h
    rcases h with rfl | rfl
    · exact ⟨hj, .inl rfl⟩
    · exact ⟨hj, .inr rfl⟩
  · rintro ⟨h1, h2⟩
    refine ⟨w.1, List.mem_range.mpr h1, ?_⟩
    obtain ⟨a, b⟩ := w
    rcases h2 with h2 | h2
    · simp only at h2
      rw [h2]; exact List.mem_cons_self
    · simp only at h2
      rw [h2]; exact List.mem_cons_of_mem _ List.mem_cons_self
theorem len_wayLn : ∀ i : Nat, (wayLn i).length = 2 * i
  | 0 => rfl
  | i + 1 => by rw [wayLn_succ, List.length_append, len_wayLn i]; simp only [List.length_cons, List.length_nil]; omega
theorem mem_nexts {book : List (List Int)} {t y : List Int} : y ∈ nexts book t ↔ ∃ i s, i < book.length ∧ (s = 1 ∨ s = -1) ∧ y = addI s t (rowAt book i) ∧ okN y = true := by
  unfold nexts nextW
  rw [List.mem_filter, List.mem_map]
  constructor
  · rintro ⟨⟨w, hw, rfl⟩, h⟩
    exact ⟨w.1, w.2, (mem_wayLn.mp hw).1, (mem_wayLn.mp hw).2, rfl, h⟩
  · rintro ⟨i, s, h1, h2, rfl, h3⟩
    exact ⟨⟨(i, s), mem_wayLn.mpr ⟨h1, h2⟩, rfl⟩, h3⟩
theorem nexts_len (book : List (List Int)) (t : List Int) : (nexts book t).length ≤ 2 * book.length := by
  unfold nexts nextW
  refine Nat.le_trans (List.length_filter_le _ _) ?_
  rw [List.length_map, len_wayLn]
  exact Nat.le_refl _
theorem addI_len {k : Int} {a b : List Int} (h : a.length = b.length) : (addI k a b).length = a.length := by
  unfold addI
  rw [List.length_zipWith]
  omega
theorem addI_back : ∀ {k : Int} {a b : List Int}, a.length = b.length → addI (-k) (addI k a b) b = a
  | _, [], [], _ => rfl
  | _, [], _ :: _, h => by cases h
  | _, _ :: _, [], h => by cases h
  | k, x :: a, y :: b, h => by
    have ih := addI_back (k := k) (a := a) (b := b) (Nat.succ.inj h)
    show (x + k * y + -k * y) :: addI (-k) (addI k a b) b = x :: a
    rw [ih, Int.neg_mul]
    congr 1
    omega
theorem addI_diff : ∀ {k : Int} {a b : List Int}, a.length = b.length → addI (-1) (addI k a b) a = b.map fun y => k * y
  | _, [], [], _ => rfl
  | _, [], _ :: _, h => by cases h
  | _, _ :: _, [], h => by cases h
  | k, x :: a, y :: b, h => by
    have ih := addI_diff (k := k) (a := a) (b := b) (Nat.succ.inj h)
    show (x + k * y + -1 * x) :: addI (-1) (addI k a b) a = (k * y) :: b.map fun y => k * y
    rw [ih]
    congr 1
    omega
theorem addI_one (a : List Int) (b : List Int) (s : Int) : addI 1 a (b.map fun y => s * y) = addI s a b := by
  unfold addI
  rw [List.zipWith_map_right]
  congr 1
  funext x y
  omega
theorem inner_add : ∀ {r a b : List Int} {k : Int}, a.length = b.length → innerI r (addI k a b) = innerI r a + k * innerI r b
  | [], a, b, k, _ => by simp [innerI]
  | _ :: _, [], [], k, _ => by simp [innerI, addI]
  | _ :: _, [], _ :: _, _, h => by cases h
  | _ :: _, _ :: _, [], _, h => by cases h
  | q :: r, x :: a, y :: b, k, h => by
    have ih := inner_add (r := r) (k := k) (a := a) (b := b) (Nat.succ.inj h)
    unfold innerI addI at ih ⊢
    simp only [List.zipWith_cons_cons, List.sum_cons]
    rw [ih, Int.mul_add, Int.mul_add, ← Int.mul_assoc, ← Int.mul_assoc, Int.mul_comm q k, Int.mul_assoc k q y]
    omega
/-! ### a book, a table -/
structure BkOk (rows : List (List Int)) (n : Nat) (book : List (List Int)) : Prop where
  mv : ∀ b ∈ book, isMove rows n (tupI b) = true
  bd : ∀ b ∈ book, ∀ c ∈ b, -2 ≤ c ∧ c ≤ 2
  few : book.length ≤ 3
  asc : book.Pairwise (· < ·)
/-- the first row has all cells, and few -/
structure FrOk (rows : List (List Int)) (n : Nat) : Prop where
  fr : IsFrame rows n
  two : 2 ≤ n
  four : n ≤ 4
  r0 : ∃ r rs, rows = r :: rs ∧ ∀ c ∈ r, 1 ≤ c ∧ c ≤ 2
def topS (n : Nat) : Nat := if n ≤ 3 then 28 else 20
/-- a table, as the law draws them, or joined with one -/
structure TbOk (rows : List (List Int)) (n : Nat) (t : List Int) : Prop where
  len : t.length = n
  pos : ∀ c ∈ t, 0 ≤ c
  sum : innerI (rows.headD []) t ≤ (topS n : Nat)
theorem okN_iff {t : List Int} : okN t = true ↔ ∀ c ∈ t, 0 ≤ c := by
  unfold okN
  rw [List.all_eq_true]
  exact ⟨fun h c hc => of_decide_eq_true (h c hc), fun h c hc => decide_eq_true (h c hc)⟩
theorem mv_len {rows : List (List Int)} {n : Nat} {m : List Int} (h : isMove rows n (tupI m) = true) : m.length = n := small_row (small_of_move h).1
theorem BkOk.at_ {rows : List (List Int)} {n : Nat} {book : List (List Int)} (B : BkOk rows n book) {i : Nat} (hi : i < book.length) : rowAt book i ∈ book ∧ (rowAt book i).length = n := by
  have e : rowAt book i = book[i] := by
    unfold rowAt
    rw [List.getElem?_eq_getElem hi]
    rfl
  rw [e]
  have m := List.getElem_mem hi
  exact ⟨m, mv_len (B.mv _ m)⟩
theorem head_in {rows : List (List Int)} {n : Nat} (F : FrOk rows n) : rows.headD [] ∈ rows := by
  obtain ⟨r, rs, rfl, _⟩ := F.r0
  exact List.mem_cons_self
theorem next_ok {rows : List (List Int)} {n : Nat} {book : List (List Int)} {t y : List Int} (F : FrOk rows n) (B : BkOk rows n book) (T : TbOk rows n t) (h : y ∈ nexts book t) : TbOk rows n y := by
  obtain ⟨i, s, hi, hs, rfl, ok⟩ := mem_nexts.mp h
  have b := B.at_ hi
  have l : t.length = (rowAt book i).length := by rw [T.len, b.2]
  refine ⟨by rw [addI_len l, T.len], okN_iff.mp ok, ?_⟩
  rw [inner_add l, zero_in (small_zero (small_of_move (B.mv _ b.1)).1) _ (head_in F), Int.mul_zero, Int.add_zero]
  exact T.sum
theorem next_back {rows : List (List Int)} {n : Nat} {book : List (List Int)} {t y : List Int} (B : BkOk rows n book) (T : TbOk rows n t) (h : y ∈ nexts book t) : t ∈ nexts book y := by
  obtain ⟨i, s, hi, hs, rfl, ok⟩ := mem_nexts.mp h
  have b := B.at_ hi
  have l : t.length = (rowAt book i).length := by rw [T.len, b.2]
  refine mem_nexts.mpr ⟨i, -s, hi, by omega, (addI_back l).symm, okN_iff.mpr T.pos⟩
/-! ### few tables -/
def allSum : Nat → Nat → List (List Int)
  | 0, _ => [[]]
  | n + 1, s => (List.range (s + 1)).flatMap fun k => (allSum n (s - k)).map fun l => (k : Int) :: l
def sumL (t : List Int) : Int := t.foldr (· + ·) 0
theorem sum_nn : ∀ {t : List Int}, (∀ c ∈ t, 0 ≤ c) → 0 ≤ sumL t
  | [], _ => Int.le_refl _
  | c :: t, h => by
    have := sum_nn fun e he => h e (List.mem_cons_of_mem _ he)
    have := h c List.mem_cons_self
    show 0 ≤ c + sumL t
    omega
theorem mem_allSum : ∀ {n s : Nat} {t : List Int}, t.length = n → (∀ c ∈ t, 0 ≤ c) → sumL t ≤ (s : Nat) → t ∈ allSum n s
  | 0, s, [], _, _, _ => List.mem_cons_self
  | 0, s, _ :: _, h, _, _ => by cases h
  | n + 1, s, [], h, _, _ => by cases h
  | n + 1, s, c :: t, h, p, hs => by
    have hc := p c List.mem_cons_self
    have hp : ∀ d ∈ t, 0 ≤ d := fun d hd => p d (List.mem_cons_of_mem _ hd)
    have st := sum_nn hp
    have e : c + sumL t ≤ (s : Nat) := hs
    refine List.mem_flatMap.mpr ⟨c.toNat, List.mem_range.mpr (by omega), List.mem_map.mpr ⟨t, mem_allSum (Nat.succ.inj h) hp (by omega), ?_⟩⟩
    rw [Int.toNat_of_nonneg hc]
theorem sum_le_inner : ∀ {r t : List Int}, t.length ≤ r.length → (∀ c ∈ r, 1 ≤ c ∧ c ≤ 2) → (∀ c ∈ t, 0 ≤ c) → sumL t ≤ innerI r t
  | _, [], _, _, _ => by simp [sumL, innerI]
  | [], _ :: _, h, _, _ => by simp at h
  | q :: r, c :: t, h, hr, p => by
    have ih := sum_le_inner (r := r) (t := t) (Nat.le_of_succ_le_succ h) (fun d hd => hr d (List.mem_cons_of_mem _ hd)) (fun d hd => p d (List.mem_cons_of_mem _ hd))
    have hq := hr q List.mem_cons_self
    have hc := p c List.mem_cons_self
    have e : innerI (q :: r) (c :: t) = q * c + innerI r t := by
      unfold innerI
      simp only [List.zipWith_cons_cons, List.sum_cons]
    rw [e]
    show c + sumL t ≤ _
    have : 1 * c ≤ q * c := Int.mul_le_mul_of_nonneg_right hq.1 hc
    omega
theorem inner_le : ∀ {r t : List Int} {u : Int}, (∀ c ∈ r, 1 ≤ c ∧ c ≤ 2) → (∀ c ∈ t, 0 ≤ c ∧ c ≤ u) → innerI r t ≤ 2 * u * t.length
  | _, [], _, _, _ => by simp [innerI]
  | [], c :: t, u, _, p => by
    have hu : 0 ≤ u := Int.le_trans (p c List.mem_cons_self).1 (p c List.mem_cons_self).2
    have : 0 ≤ 2 * u * ((c :: t).length : Nat) := Int.mul_nonneg (by omega) (by omega)
    simpa [innerI] using this
  | q :: r, c :: t, u, hr, p => by
    have ih := inner_le (r := r) (t := t) (u := u) (fun d hd => hr d (List.mem_cons_of_mem _ hd)) (fun d hd => p d (List.mem_cons_of_mem _ hd))
    have hq := hr q List.mem_cons_self
    have hc := p c List.mem_cons_self
    have e : innerI (q :: r) (c :: t) = q * c + innerI r t := by
      unfold innerI
      simp only [List.zipWith_cons_cons, List.sum_cons]
    rw [e, List.length_cons]
    have h1 : q * c ≤ 2 * c := Int.mul_le_mul_of_nonneg_right hq.2 hc.1
    have h2 : 2 * u * ((t.length + 1 : Nat) : Int) = 2 * u * t.length + 2 * u := by
      rw [Int.natCast_add, Int.mul_add]
      simp
    omega
theorem all_few : (allSum 2 28).length ≤ 11000 ∧ (allSum 3 28).length ≤ 11000 ∧ (allSum 4 20).length ≤ 11000 := by decide +kernel
theorem nodup_len : ∀ {l m : List (List Int)}, l.Nodup → (∀ x ∈ l, x ∈ m) → l.length ≤ m.length
  | [], _, _, _ => Nat.zero_le _
  | x :: l, m, h, s => by
    have p := List.nodup_cons.mp h
    have hx := s x List.mem_cons_self
    have ih := nodup_len (l := l) (m := m.erase x) p.2 fun y hy => by
      have ne : y ≠ x := fun z => p.1 (by rw [← z]; exact hy)
      exact (List.mem_erase_of_ne ne).mpr (s y (List.mem_cons_of_mem _ hy))
    rw [List.length_erase_of_mem hx] at ih
    have : 0 < m.length := List.length_pos_of_mem hx
    rw [List.length_cons]
    omega
theorem tb_few {rows : List (List Int)} {n : Nat} (F : FrOk rows n) {ks : List (List Int)} (nd : ks.Nodup) (h : ∀ k ∈ ks, TbOk rows n k) : ks.length ≤ 11000 := by
  obtain ⟨r, rs, rfl, hr⟩ := F.r0
  have rl : r.length = n := F.fr.len r List.mem_cons_self
  have hm : ∀ k ∈ ks, k ∈ allSum n (topS n) := fun k hk => by
    have T := h k hk
    have := sum_le_inner (r := r) (t := k) (by rw [T.len, rl]; exact Nat.le_refl _) hr T.pos
    have s : innerI r k ≤ (topS n : Nat) := T.sum
    exact mem_allSum T.len T.pos (by omega)
  have l := nodup_len nd hm
  have a := all_few
  have t2 := F.two
  have t4 := F.four
  rcases (by omega : n = 2 ∨ n = 3 ∨ n = 4) with e | e | e
  · subst e
    exact Nat.le_trans l a.1
  · subst e
    exact Nat.le_trans l a.2.1
  · subst e
    exact Nat.le_trans l a.2.2
theorem tb_bd {rows : List (List Int)} {n : Nat} (F : FrOk rows n) {t : List Int} (T : TbOk rows n t) : ∀ c ∈ t, 0 ≤ c ∧ c ≤ 28 := fun c hc => by
  obtain ⟨r, rs, rfl, hr⟩ := F.r0
  have rl : r.length = n := F.fr.len r List.mem_cons_self
  have := sum_le_inner (r := r) (t := t) (by rw [T.len, rl]; exact Nat.le_refl _) hr T.pos
  have s : innerI r t ≤ (topS n : Nat) := T.sum
  have t12 : topS n ≤ 28 := by unfold topS; split <;> decide
  have le : ∀ {t : List Int}, (∀ c ∈ t, 0 ≤ c) → ∀ c ∈ t, c ≤ sumL t := by
    intro t
    induction t with
    | nil => intro _ c hc; cases hc
    | cons d t ih =>
      intro p c hc
      have st := sum_nn fun e he => p e (List.mem_cons_of_mem _ he)
      have hd := p d List.mem_cons_self
      show c ≤ d + sumL t
      rcases List.mem_cons.mp hc with z | z
      · omega
      · have := ih (fun e he => p e (List.mem_cons_of_mem _ he)) c z
        omega
  have := le T.pos c hc
  exact ⟨T.pos c hc, by omega⟩
end K27

namespace K27
open PySem PySem.Spec PyProof.Rows L2 Evl Fw FwS FwD
/-! ### distances -/
inductive Wk (book : List (List Int)) (t : List Int) : Nat → List Int → Prop
  | nil : Wk book t 0 t
  | step {n : Nat} {x y : List Int} : Wk book t n x → y ∈ nexts book x → Wk book t (n + 1) y
def Lv (book : List (List Int)) (t : List Int) (n : Nat) (x : List Int) : Prop := Wk book t n x ∧ ∀ m, m < n → ¬ Wk book t m x
variable {book : List (List Int)} {t : List Int}
theorem lv_of : ∀ {n : Nat} {x : List Int}, Wk book t n x → ∃ m, m ≤ n ∧ Lv book t m x := by
  intro n
  induction n using Nat.strongRecOn with
  | ind n ih =>
    intro x h
    by_cases q : ∃ m, m < n ∧ Wk book t m x
    · obtain ⟨m, hm, hw⟩ := q
      obtain ⟨k, hk, hl⟩ := ih m hm hw
      exact ⟨k, by omega, hl⟩
    · exact ⟨n, Nat.le_refl _, h, fun m hm hw => q ⟨m, hm, hw⟩⟩
theorem lv_uniq {n m : Nat} {x : List Int} (h1 : Lv book t n x) (h2 : Lv book t m x) : n = m := by
  rcases Nat.lt_trichotomy n m with z | z | z
  · exact absurd h1.1 (h2.2 n z)
  · exact z
  · exact absurd h2.1 (h1.2 m z)
theorem lv_pred {n : Nat} {x : List Int} (h : Lv book t (n + 1) x) : ∃ y, Lv book t n y ∧ x ∈ nexts book y := by
  cases h.1 with
  | step hw hy => exact ⟨_, ⟨hw, fun m hm hq => h.2 (m + 1) (by omega) (.step hq hy)⟩, hy⟩
theorem lv_zero {x : List Int} (h : Lv book t 0 x) : x = t := by
  cases h.1
  rfl
theorem lv_t : Lv book t 0 t := ⟨.nil, fun m hm => absurd hm (Nat.not_lt_zero _)⟩
theorem wk_app {n m : Nat} {x y : List Int} (h1 : Wk book t n x) (h2 : Wk book x m y) : Wk book t (n + m) y := by
  induction h2 with
  | nil => exact h1
  | step _ hy ih => exact .step ih hy
theorem wk_ok {rows : List (List Int)} {k : Nat} (F : FrOk rows k) (B : BkOk rows k book) (T : TbOk rows k t) {n : Nat} {x : List Int} (h : Wk book t n x) : TbOk rows k x := by
  induction h with
  | nil => exact T
  | step _ hy ih => exact next_ok F B ih hy
theorem wk_back {rows : List (List Int)} {k : Nat} (F : FrOk rows k) (B : BkOk rows k book) (T : TbOk rows k t) {n : Nat} {x : List Int} (h : Wk book t n x) : Wk book x n t := by
  induction h with
  | nil => exact .nil
  | @step n x y hw hy ih =>
    have ox := wk_ok F B T hw
    have := wk_app (Wk.step .nil (next_back B ox hy)) ih
    rwa [Nat.add_comm] at this
theorem lv_back {rows : List (List Int)} {k : Nat} (F : FrOk rows k) (B : BkOk rows k book) (T : TbOk rows k t) {n : Nat} {x : List Int} (h : Lv book t n x) : Lv book x n t := by
  have ox := wk_ok F B T h.1
  exact ⟨wk_back F B T h.1, fun m hm hw => h.2 m hm (wk_back F B ox hw)⟩
/-! ### a walk by a queue -/
/-- q: the queue, at: how many of it are done, D: distances, f: the one ahead of each -/
structure QI (book : List (List Int)) (t : List Int) (q : List (List Int)) (at_ : Nat) (D : List Int → Nat) (f : List Int → PyData) : Prop where
  nd : q.Nodup
  t0 : q[0]? = some t
  ft : f t = .none
  lv : ∀ x ∈ q, Lv book t (D x) x
  mono : ∀ (i j : Nat) (x y : List Int), i ≤ j → q[i]? = some x → q[j]? = some y → D x ≤ D y
  up : ∀ (h x : List Int), q[at_]? = some h → x ∈ q → D x ≤ D h + 1
  fa : ∀ x ∈ q, x ≠ t → ∃ y, y ∈ q ∧ f x = tupI y ∧ x ∈ nexts book y ∧ D x = D y + 1
/-- the first at of the queue are done -/
def DoneTo (book : List (List Int)) (q : List (List Int)) (at_ : Nat) : Prop := ∀ (i : Nat) (x : List Int), i < at_ → q[i]? = some x → ∀ y ∈ nexts book x, y ∈ q
theorem mem_of_idx {q : List (List Int)} {x : List Int} (h : x ∈ q) : ∃ i, i < q.length ∧ q[i]? = some x := by
  obtain ⟨i, hi, e⟩ := List.getElem_of_mem h
  exact ⟨i, hi, by rw [List.getElem?_eq_getElem hi, e]⟩
theorem qi_near {q : List (List Int)} {at_ : Nat} {D : List Int → Nat} {f : List Int → PyData} (I : QI book t q at_ D f) (done_ : DoneTo book q at_) {h : List Int} (hh : q[at_]? = some h) : ∀ (e : Nat) (x : List Int), e ≤ D h → Lv book t e x → x ∈ q
  | 0, x, _, l => by
    rw [lv_zero l]
    exact List.mem_of_getElem? I.t0
  | e + 1, x, he, l => by
    obtain ⟨y, ly, hy⟩ := lv_pred l
    have yq := qi_near I done_ hh e y (by omega) ly
    obtain ⟨i, hi, ey⟩ := mem_of_idx yq
    have dy : D y = e := lv_uniq (I.lv y yq) ly
    by_cases z : i < at_
    · exact done_ i y z ey x hy
    · have := I.mono at_ i h y (by omega) hh ey
      omega
def setF {α : Type} (D : List Int → α) (x : List Int) (v : α) : List Int → α := fun y => if y = x then v else D y
theorem setF_same {α : Type} {D : List Int → α} {x : List Int} {v : α} : setF D x v x = v := if_pos rfl
theorem setF_ne {α : Type} {D : List Int → α} {x y : List Int} {v : α} (h : y ≠ x) : setF D x v y = D y := if_neg h
theorem qi_new {q : List (List Int)} {at_ : Nat} {D : List Int → Nat} {f : List Int → PyData} (I : QI book t q at_ D f) (done_ : DoneTo book q at_) {h x : List Int} (hh : q[at_]? = some h) (hx : x ∈ nexts book h) (nx : x ∉ q) :
    QI book t (q ++ [x]) at_ (setF D x (D h + 1)) (setF f x (tupI h)) := by
  have hq := List.mem_of_getElem? hh
  have lx : Lv book t (D h + 1) x := by
    refine ⟨.step (I.lv h hq).1 hx, fun m hm hw => ?_⟩
    obtain ⟨k, hk, lk⟩ := lv_of hw
    exact nx (qi_near I done_ hh k x (by omega) lk)
  have ne : ∀ y ∈ q, y ≠ x := fun y hy z => nx (z ▸ hy)
  have tq : t ∈ q := List.mem_of_getElem? I.t0
  have idx : ∀ (i : Nat) (y : List Int), (q ++ [x])[i]? = some y → (i < q.length ∧ q[i]? = some y ∧ y ∈ q) ∨ (i = q.length ∧ y = x) := fun i y e => by
    by_cases z : i < q.length
    · rw [List.getElem?_append_left z] at e
      exact .inl ⟨z, e, List.mem_of_getElem? e⟩
    · rw [List.getElem?_append_right (by omega)] at e
      have : i - q.length = 0 := by
        cases w : i - q.length with
        | zero => rfl
        | succ k => rw [w] at e; simp at e
      rw [this] at e
      exact .inr ⟨by omega, (Option.some.inj e).symm⟩
  have hlt : at_ < q.length := (List.getElem?_eq_some_iff.mp hh).1
  refine ⟨List.nodup_append.mpr ⟨I.nd, by simp, fun a ha b hb => by rw [List.mem_singleton.mp hb]; exact ne a ha⟩, ?_, ?_, fun y hy => ?_, fun i j y z hij ey ez => ?_, fun g y hg hy => ?_, fun y hy yt => ?_⟩
  · rw [List.getElem?_append_left (by omega)]
    exact I.t0
  · rw [setF_ne (ne t tq)]
    exact I.ft
  · rcases List.mem_append.mp hy with m | m
    · rw [setF_ne (ne y m)]
      exact I.lv y m
    · rw [List.mem_singleton.mp m, setF_same]
      exact lx
  · rcases idx i y ey with ⟨l1, e1, m1⟩ | ⟨l1, rfl⟩
    · rw [setF_ne (ne y m1)]
      rcases idx j z ez with ⟨l2, e2, m2⟩ | ⟨l2, rfl⟩
      · rw [setF_ne (ne z m2)]
        exact I.mono i j y z hij e1 e2
      · rw [setF_same]
        exact I.up h y hh m1
    · rcases idx j z ez with ⟨l2, e2, m2⟩ | ⟨l2, rfl⟩
      · omega
      · exact Nat.le_refl _
  · rw [List.getElem?_append_left hlt, hh] at hg
    have hg := Option.some.inj hg
    subst hg
    rw [setF_ne (ne h hq)]
    rcases List.mem_append.mp hy with m | m
    · rw [setF_ne (ne y m)]
      exact I.up h y hh m
    · rw [List.mem_singleton.mp m, setF_same]
      exact Nat.le_refl _
  · rcases List.mem_append.mp hy with m | m
    · obtain ⟨w, h1, h2, h3, h4⟩ := I.fa y m yt
      exact ⟨w, List.mem_append_left _ h1, by rw [setF_ne (ne y m)]; exact h2, h3, by rw [setF_ne (ne y m), setF_ne (ne w h1)]; exact h4⟩
    · rw [List.mem_singleton.mp m]
      exact ⟨h, List.mem_append_left _ hq, setF_same, hx, by rw [setF_same, setF_ne (ne h hq)]⟩
theorem qi_start : QI book t [t] 0 (fun _ => 0) (fun _ => .none) := by
  refine ⟨List.pairwise_singleton _ _, rfl, rfl, fun x hx => ?_, fun _ _ _ _ _ _ _ => Nat.le_refl _, fun _ _ _ _ => Nat.le_add_right _ _, fun x hx h => absurd (List.mem_singleton.mp hx) h⟩
  rw [List.mem_singleton.mp hx]
  exact lv_t
theorem qi_next {q : List (List Int)} {at_ : Nat} {D : List Int → Nat} {f : List Int → PyData} (I : QI book t q at_ D f) {h : List Int} (hh : q[at_]? = some h) : QI book t q (at_ + 1) D f :=
  ⟨I.nd, I.t0, I.ft, I.lv, I.mono, fun g x hg hx => by
    have := I.mono at_ (at_ + 1) h g (by omega) hh hg
    have := I.up h x hh hx
    omega, I.fa⟩
/-- what a walk finds -/
structure Wd (book : List (List Int)) (t : List Int) (q : List (List Int)) (D : List Int → Nat) (f : List Int → PyData) : Prop where
  nd : q.Nodup
  tq : t ∈ q
  ft : f t = .none
  lv : ∀ x ∈ q, Lv book t (D x) x
  fa : ∀ x ∈ q, x ≠ t → ∃ y, y ∈ q ∧ f x = tupI y ∧ x ∈ nexts book y ∧ D x = D y + 1
  all : ∀ n x, Wk book t n x → x ∈ q
theorem qi_end {q : List (List Int)} {D : List Int → Nat} {f : List Int → PyData} (I : QI book t q q.length D f) (done_ : DoneTo book q q.length) : Wd book t q D f := by
  refine ⟨I.nd, List.mem_of_getElem? I.t0, I.ft, I.lv, I.fa, fun n x h => ?_⟩
  induction h with
  | nil => exact List.mem_of_getElem? I.t0
  | step _ hy ih =>
    obtain ⟨i, hi, e⟩ := mem_of_idx ih
    exact done_ i _ hi e _ hy
theorem qi_few {rows : List (List Int)} {n : Nat} (F : FrOk rows n) (B : BkOk rows n book) (T : TbOk rows n t) {q : List (List Int)} {at_ : Nat} {D : List Int → Nat} {f : List Int → PyData} (I : QI book t q at_ D f) : q.length ≤ 11000 := tb_few F I.nd fun k hk => wk_ok F B T (I.lv k hk).1
/-! ### the law's own walk, in levels -/
structure FI (book : List (List Int)) (t : List Int) (n : Nat) (ks ws : List (List Int)) (D : List Int → Nat) : Prop where
  nd : ks.Nodup
  tk : t ∈ ks
  lv : ∀ x ∈ ks, Lv book t (D x) x
  lo : ∀ x ∈ ks, D x ≤ n
  all : ∀ m x, m ≤ n → Lv book t m x → x ∈ ks
  wsi : ∀ x, x ∈ ws ↔ Lv book t n x
/-- in a round: ls is the next level as far as it is found -/
structure FR (book : List (List Int)) (t : List Int) (n : Nat) (ks ws : List (List Int)) (qs ls : List (List Int)) (D : List Int → Nat) : Prop where
  nd : qs.Nodup
  sub : ∀ x ∈ ks, x ∈ qs
  new : ∀ x ∈ qs, x ∈ ks ∨ x ∈ ls
  lsi : ∀ x ∈ ls, x ∈ qs ∧ Lv book t (n + 1) x
  lv : ∀ x ∈ qs, Lv book t (D x) x
  len : qs.length = ks.length + ls.length
theorem fr_start {n : Nat} {ks ws : List (List Int)} {D : List Int → Nat} (I : FI book t n ks ws D) : FR book t n ks ws ks [] D := ⟨I.nd, fun _ h => h, fun _ h => .inl h, fun _ h => (nomatch h), I.lv, rfl⟩
theorem fr_new {n : Nat} {ks ws qs ls : List (List Int)} {D D0 : List Int → Nat} (I : FI book t n ks ws D0) (R : FR book t n ks ws qs ls D) {h x : List Int} (hh : h ∈ ws) (hx : x ∈ nexts book h) (nx : x ∉ qs) : FR book t n ks ws (qs ++ [x]) (ls ++ [x]) (setF D x (n + 1)) := by
  have ne : ∀ y ∈ qs, y ≠ x := fun y hy z => nx (z ▸ hy)
  have lx : Lv book t (n + 1) x := by
    refine ⟨.step ((I.wsi h).mp hh).1 hx, fun m hm hw => ?_⟩
    obtain ⟨k, hk, lk⟩ := lv_of hw
    exact nx (R.sub x (I.all k x (by omega) lk))
  refine ⟨List.nodup_append.mpr ⟨R.nd, by simp, fun a ha b hb => by rw [List.mem_singleton.mp hb]; exact ne a ha⟩, fun y hy => List.mem_append_left _ (R.sub y hy), fun y hy => ?_, fun y hy => ?_, fun y hy => ?_, ?_⟩
  · rcases List.mem_append.mp hy with m | m
    · rcases R.new y m with z | z
      · exact .inl z
      · exact .inr (List.mem_append_left _ z)
    · exact .inr (List.mem_append_right _ m)
  · rcases List.mem_append.mp hy with m | m
    · exact ⟨List.mem_append_left _ (R.lsi y m).1, (R.lsi y m).2⟩
    · rw [List.mem_singleton.mp m]
      exact ⟨by simp, lx⟩
  · rcases List.mem_append.mp hy with m | m
    · rw [setF_ne (ne y m)]
      exact R.lv y m
    · rw [List.mem_singleton.mp m, setF_same]
      exact lx
  · rw [List.length_append, List.length_append, R.len]
    simp only [List.length_cons, List.length_nil]
    omega
theorem fr_end {n : Nat} {ks ws qs ls : List (List Int)} {D D0 : List Int → Nat} (I : FI book t n ks ws D0) (R : FR book t n ks ws qs ls D) (done_ : ∀ h ∈ ws, ∀ x ∈ nexts book h, x ∈ qs) : FI book t (n + 1) qs ls D := by
  refine ⟨R.nd, R.sub t I.tk, R.lv, fun x hx => ?_, fun m x hm hl => ?_, fun x => ⟨fun h => (R.lsi x h).2, fun h => ?_⟩⟩
  · rcases R.new x hx with z | z
    · have := I.lo x z
      have := lv_uniq (R.lv x hx) (I.lv x z)
      omega
    · have := lv_uniq (R.lv x hx) (R.lsi x z).2
      omega
  · by_cases z : m ≤ n
    · exact R.sub x (I.all m x z hl)
    · have : m = n + 1 := by omega
      subst this
      obtain ⟨y, ly, hy⟩ := lv_pred hl
      exact done_ y ((I.wsi y).mpr ly) x hy
  · obtain ⟨y, ly, hy⟩ := lv_pred h
    rcases R.new x (done_ y ((I.wsi y).mpr ly) x hy) with z | z
    · have := I.lo x z
      have := lv_uniq (I.lv x z) h
      omega
    · exact z
theorem fi_start : FI book t 0 [t] [t] (fun _ => 0) := by
  refine ⟨List.pairwise_singleton _ _, List.mem_singleton.mpr rfl, fun x hx => ?_, fun _ _ => Nat.le_refl _, fun m x hm hl => ?_, fun x => ⟨fun h => ?_, fun h => ?_⟩⟩
  · rw [List.mem_singleton.mp hx]
    exact lv_t
  · have : m = 0 := by omega
    subst this
    rw [lv_zero hl]
    exact List.mem_singleton.mpr rfl
  · rw [List.mem_singleton.mp h]
    exact lv_t
  · rw [lv_zero h]
    exact List.mem_singleton.mpr rfl
/-- what the law's walk finds -/
structure Fd (book : List (List Int)) (t : List Int) (ks : List (List Int)) (D : List Int → Nat) : Prop where
  nd : ks.Nodup
  tk : t ∈ ks
  lv : ∀ x ∈ ks, Lv book t (D x) x
  all : ∀ n x, Wk book t n x → x ∈ ks
theorem fi_end {n : Nat} {ks : List (List Int)} {D : List Int → Nat} (I : FI book t n ks [] D) : Fd book t ks D := by
  have up : ∀ (m : Nat) (x : List Int), Lv book t m x → m < n := fun m => by
    intro x h
    by_cases z : m < n
    · exact z
    · exfalso
      have gen : ∀ (k : Nat) (x : List Int), Lv book t (n + k) x → False := fun k => by
        induction k with
        | zero =>
          intro x h
          have := (I.wsi x).mpr h
          cases this
        | succ k ih =>
          intro x h
          obtain ⟨y, ly, _⟩ := lv_pred (show Lv book t (n + k + 1) x from h)
          exact ih y ly
      exact gen (m - n) x (by rw [show n + (m - n) = m by omega]; exact h)
  refine ⟨I.nd, I.tk, I.lv, fun m x h => ?_⟩
  obtain ⟨k, _, lk⟩ := lv_of h
  exact I.all k x (Nat.le_of_lt (up k x lk)) lk
end K27
namespace K27
open PySem PySem.Spec PyProof.Rows L2 Evl Fw FwS FwD
theorem key_ok (m : List Int) : KeyOk (tupI m) := FwN.key_ok m
/-! ### the dict of what is come to -/
def dkv (f : List Int → PyData) (ks : List (List Int)) : List (PyData × PyData) := ks.map fun k => (tupI k, f k)
theorem dkv_keys (f : List Int → PyData) (ks : List (List Int)) : (dkv f ks).map (·.1) = ks.map fun m => tupI m := by
  unfold dkv
  rw [List.map_map]
  rfl
theorem dkv_has (f : List Int → PyData) (ks : List (List Int)) (m : List Int) : hasD (dkv f ks) (tupI m) = decide (m ∈ ks) := by
  unfold hasD dkv
  rw [List.any_map]
  have : ((fun p : PyData × PyData => PyData.eqv p.1 (tupI m)) ∘ fun k => (tupI k, f k)) = fun x : List Int => decide (x = m) := by
    funext x
    exact eqv_row x m
  rw [this]
  by_cases q : m ∈ ks
  · rw [decide_eq_true q]
    exact List.any_eq_true.mpr ⟨m, q, by simp⟩
  · rw [decide_eq_false q, List.any_eq_false]
    intro x hx
    have : x ≠ m := fun z => q (by rw [← z]; exact hx)
    simpa using this
theorem dkv_put (f : List Int → PyData) {ks : List (List Int)} {m : List Int} (h : m ∉ ks) : putD (dkv f ks) (tupI m) (f m) = dkv f (ks ++ [m]) := by
  unfold putD
  rw [dkv_has, decide_eq_false h, if_neg (by decide)]
  unfold dkv
  rw [List.map_append]
  rfl
theorem dkv_at (f : List Int → PyData) : ∀ {ks : List (List Int)} {m : List Int}, m ∈ ks → FwD.atD (dkv f ks) (tupI m) = some (f m)
  | k :: ks, m, h => by
    unfold FwD.atD dkv
    rw [List.map_cons, List.find?_cons]
    by_cases e : k = m
    · subst e
      have : PyData.eqv (tupI k) (tupI k) = true := by rw [eqv_row]; simp
      simp only [this]
      rfl
    · have : PyData.eqv (tupI k) (tupI m) = false := by rw [eqv_row]; simpa using e
      simp only [this]
      rcases List.mem_cons.mp h with z | z
      · exact absurd z.symm e
      · exact dkv_at f z
theorem dkv_kv (f : List Int → PyData) {ks : List (List Int)} (h : ks ≠ []) : KV (dkv f ks) := by
  cases ks with
  | nil => exact absurd rfl h
  | cons k ks =>
    obtain ⟨⟨x, hx, _⟩, _⟩ := key_ok k
    exact ⟨tupI k, f k, dkv f ks, rfl, by rw [hx]; rfl⟩

/-! ### what a Steps holds -/
def chg (book : List (List Int)) (w : Nat × Int) : List Int := (rowAt book w.1).map fun y => w.2 * y
def needsN (c : List Int) : List (Nat × Int) := ((List.range c.length).map fun i => (i, (c[i]?).getD 0)).filter fun q => decide (q.2 < 0)
def nD (q : Nat × Int) : PyData := .tuple [.int (q.1 : Nat), .int (-q.2)]
def needsD (c : List Int) : PyData := .list ((needsN c).map nD)
def wayD (book : List (List Int)) (w : Nat × Int) : PyData := .tuple [tupI (chg book w), needsD (chg book w)]
def posD (w : Nat × Int) : PyData := .tuple [.int (w.1 : Nat), .int w.2]
def knownK (book : List (List Int)) (ws : List (Nat × Int)) : List (PyData × PyData) := ws.foldl (fun kvs w => putD kvs (tupI (chg book w)) (posD w)) []
def stX : List Str := ["ways", "known"]
def stE (book : List (List Int)) : List PyData := [.list ((wayLn book.length).map (wayD book)), dkD (knownK book (wayLn book.length))]
def stD (C : Addr) (book : List (List Int)) : PyData := obD C stX (stE book)
/-- by which move a change goes -/
def wayB (book : List (List Int)) (c : List Int) : PyData := (FwD.atD (knownK book (wayLn book.length)) (tupI c)).getD .none
structure TabOk (n : Nat) (t : List Int) : Prop where
  len : t.length = n
  sz : ∀ c ∈ t, 0 ≤ c ∧ c ≤ 100
/-- a road -/
structure Rd (book : List (List Int)) (n : Nat) (R : List (List Int)) : Prop where
  ne : R ≠ []
  few : R.length ≤ 600
  ok : ∀ x ∈ R, TabOk n x
  ch : ∀ (i : Nat) (x y : List Int), R[i]? = some x → R[i + 1]? = some y → y ∈ nexts book x
def waysR (book : List (List Int)) (R : List (List Int)) : List PyData := (List.range (R.length - 1)).map fun i => wayB book (addI (-1) ((R[i + 1]?).getD []) ((R[i]?).getD []))
/-- the parts of a frame and a book -/
structure Fb (rows : List (List Int)) (n : Nat) (book : List (List Int)) : Prop where
  F : FrOk rows n
  B : BkOk rows n book
/-- a table, however big -/
structure Tp (n : Nat) (t : List Int) : Prop where
  len : t.length = n
  pos : ∀ c ∈ t, 0 ≤ c
abbrev pre_put_on : Pre := fun ds Φ => ∃ (a b : List Int) (k : Int), ds = [tupI a, .int k, tupI b] ∧ a.length ≤ 1000 ∧ -10 ≤ k ∧ k ≤ 10 ∧ Φ (tupI (addI k a b))
abbrev pre_check_book : Pre := fun ds Φ => ∃ rows n book, ds = [frameD rows, rowsT book] ∧ Fb rows n book ∧ Φ .none
abbrev pre_Steps___init__ (C : Addr) : Addr → List PyData → (List Str → List PyData → Prop) → Prop := fun C' ds Φ => C' = C ∧ ∃ rows n book, ds = [rowsT book] ∧ Fb rows n book ∧ Φ stX (stE book)
abbrev pre_Steps_tables_from (C : Addr) : Pre := fun ds Φ => ∃ rows n book t, ds = [stD C book, tupI t] ∧ Fb rows n book ∧ Tp n t ∧ Φ (.list ((nexts book t).map fun m => tupI m))
abbrev pre_Steps_way_between (C : Addr) : Pre := fun ds Φ => ∃ rows n book a b, ds = [stD C book, tupI a, tupI b] ∧ Fb rows n book ∧ a.length = n ∧ b.length = n ∧ Φ (wayB book (addI (-1) b a))
/-- a shortest road from t to o -/
structure Rs (book : List (List Int)) (n : Nat) (t o : List Int) (k : Nat) (R : List (List Int)) : Prop where
  rd : Rd book n R
  len : R.length = k + 1
  fst : R[0]? = some t
  lst : R[k]? = some o
/-- what is asked of a road, a distance -/
def Far (book : List (List Int)) (t o : List Int) (yes : Nat → Prop) (no : Prop) : Prop := (∀ k, Lv book t k o → yes k) ∧ ((∀ k, ¬ Wk book t k o) → no)
/-! ### the law's own -/
def rowsN (s : Nat) : Nat → List (List Int)
  | 0 => [[]]
  | n + 1 => (rowsN s n).flatMap fun r => (List.range (2 * s + 1)).map fun j : Nat => r ++ [(j : Int) - (s : Int)]
abbrev pre__law_frame : Pre := fun ds Φ => ds = [.int 4] ∧ ∀ rows n, FrOk rows n → Φ (frameD rows)
abbrev pre__law_rows : Pre := fun ds Φ => ∃ n s : Nat, ds = [.int (n : Nat), .int (s : Nat)] ∧ n ≤ 4 ∧ s ≤ 2 ∧ Φ (rowsL (rowsN s n))
abbrev pre__law_moves : PreN := fun ds Φ => ∃ rows n, ds = [frameD rows] ∧ FrOk rows n ∧ ∀ ms : List (List Int), ms.length ≤ 625 → ms.Nodup → (∀ m ∈ ms, SmMove rows n m) → Φ (ms.map fun m => tupI m)
abbrev pre__law_book : Pre := fun ds Φ => ∃ rows n, ∃ ms : List (List Int), ds = [rowsL ms] ∧ FrOk rows n ∧ ms.length ≤ 1000 ∧ ms.Nodup ∧ (∀ m ∈ ms, SmMove rows n m) ∧ ∀ bs, BkOk rows n bs → Φ (rowsT bs)
abbrev pre__law_table : Pre := fun ds Φ => ∃ rows n, ∃ u : Nat, ds = [frameD rows, .int (u : Nat)] ∧ FrOk rows n ∧ u ≤ 2 ∧ ∀ t : List Int, t.length = n → (∀ c ∈ t, 0 ≤ c ∧ c ≤ (u : Nat)) → Φ (tupI t)
def lowS (n : Nat) : Nat := if n ≤ 3 then 12 else 8
/-- a table as the law draws them -/
structure Sm (rows : List (List Int)) (n : Nat) (t : List Int) : Prop where
  len : t.length = n
  pos : ∀ c ∈ t, 0 ≤ c
  sum : innerI (rows.headD []) t ≤ (lowS n : Nat)
abbrev pre__law_small : Pre := fun ds Φ => ∃ rows n, ds = [frameD rows] ∧ FrOk rows n ∧ ∀ t : List Int, Sm rows n t → Φ (tupI t)
abbrev pre__law_steps : Pre := fun ds Φ => ∃ rows n book t, ds = [rowsT book, tupI t] ∧ Fb rows n book ∧ Tp n t ∧ Φ (.list (sortD ((nexts book t).map fun m => tupI m)))
abbrev pre__law_far : Pre := fun ds Φ => ∃ rows n book t, ds = [rowsT book, tupI t] ∧ Fb rows n book ∧ TbOk rows n t ∧ ∀ ks D, Fd book t ks D → Φ (.dict (dkv (fun x => .int (D x : Nat)) ks))
def dueD (book : List (List Int)) (t o : List Int) (due : PyData) : Prop := (∃ k, due = .int (k : Nat) ∧ Lv book t k o) ∨ (due = .none ∧ ∀ k, ¬ Wk book t k o)
abbrev pre__law_right (C : Addr) : Pre := fun ds Φ => ds = [] ∧ Φ (.bool true)
def stepB (book : List (List Int)) (x y : List Int) : Bool := decide (y ∈ nexts book x)
def roadB (book R : List (List Int)) : Bool := (List.range (R.length - 1)).all fun i => stepB book ((R[i]?).getD []) ((R[i + 1]?).getD [])
def isRd (rows : List (List Int)) (n : Nat) (book : List (List Int)) (x : PyData) : Bool := match x with
  | .tuple xs => decide (xs ≠ []) && (xs.all (isTab rows n) && roadB book (xs.map rowOf))
  | _ => false
abbrev pre_ways_along (C : Addr) : Pre := fun ds Φ => ∃ rows n book R, ds = [rowsT book, rowsT R] ∧ Fb rows n book ∧ R.length ≤ 1000 ∧ (∀ x ∈ R, Tp n x) ∧ Φ (.list (waysR book R))
abbrev pre_is_way (C : Addr) : Pre := fun ds Φ => ∃ rows n book R, ds = [rowsT book, rowsT R] ∧ Fb rows n book ∧ R.length ≤ 1000 ∧ (∀ x ∈ R, Tp n x) ∧ Φ (.bool (roadB book R))
abbrev pre_is_road (C : Addr) : Pre := fun ds Φ => ∃ rows n book x, ds = [frameD rows, rowsT book, x] ∧ Fb rows n book ∧ deepOk x ∧ Φ (.bool (isRd rows n book x))
abbrev pre__law_is_table : Pre := fun ds Φ => ∃ rows n x, ds = [frameD rows, x] ∧ FrOk rows n ∧ shortOk x ∧ Φ (.bool (isTab rows n x))
abbrev pre__law_is_road : Pre := fun ds Φ => ∃ rows n book x, ds = [frameD rows, rowsT book, x] ∧ Fb rows n book ∧ deepOk x ∧ (∀ xs, x = .tuple xs → SeqAt.shaped x = true) ∧ Φ (.bool (isRd rows n book x))
abbrev pre__law_walk : Pre := fun ds Φ => ∃ rows n book t, ds = [rowsT book, tupI t] ∧ Fb rows n book ∧ TbOk rows n t ∧ ∀ R : List (List Int), R ≠ [] → R.length ≤ 6 → (∀ x ∈ R, ∃ k, Wk book t k x) → Φ (rowsT R)
abbrev pre_is_one_closed_part (C : Addr) : Pre := fun ds Φ => ∃ rows n book t vs x, ds = [stD C book, x] ∧ (x = .list ((t :: vs).map fun m => tupI m) ∨ x = .tuple ((t :: vs).map fun m => tupI m)) ∧ Fb rows n book ∧ (∀ y ∈ t :: vs, Tp n y) ∧ (t :: vs).Nodup ∧ vs.length ≤ 900 ∧ ∀ b : Bool, (b = true ↔ ∀ y, y ∈ t :: vs ↔ ∃ k, Wk book t k y) → Φ (.bool b)
end K27
namespace K27
open PySem PySem.Spec PyProof.Rows L2 Evl Fw FwS FwD
/-! ### rows of small numbers -/
def grow (s : Nat) (r : List Int) : List (List Int) := (List.range (2 * s + 1)).map fun j : Nat => r ++ [(j : Int) - (s : Int)]
theorem rowsN_succ (s n : Nat) : rowsN s (n + 1) = (rowsN s n).flatMap (grow s) := rfl
theorem grow_len (s : Nat) (r : List Int) : (grow s r).length = 2 * s + 1 := by
  unfold grow
  rw [List.length_map, List.length_range]
theorem flat_len {α β : Type} {f : α → List β} {k : Nat} (h : ∀ a, (f a).length = k) : ∀ l : List α, (l.flatMap f).length = l.length * k
  | [] => by simp
  | a :: l => by rw [List.flatMap_cons, List.length_append, h, flat_len h l, List.length_cons, Nat.succ_mul]; omega
theorem rowsN_len (s : Nat) : ∀ n : Nat, (rowsN s n).length = (2 * s + 1) ^ n
  | 0 => rfl
  | n + 1 => by rw [rowsN_succ, flat_len (grow_len s), rowsN_len s n, Nat.pow_succ]
theorem rowsN_few {s n : Nat} (hn : n ≤ 4) (hs : s ≤ 2) : (rowsN s n).length ≤ 625 := by
  rw [rowsN_len]
  calc (2 * s + 1) ^ n ≤ 5 ^ n := Nat.pow_le_pow_left (by omega) n
    _ ≤ 5 ^ 4 := Nat.pow_le_pow_right (by decide) hn
    _ = 625 := by decide
theorem mem_grow {s : Nat} {r m : List Int} (h : m ∈ grow s r) : ∃ c : Int, m = r ++ [c] ∧ -(s : Int) ≤ c ∧ c ≤ s := by
  obtain ⟨j, hj, rfl⟩ := List.mem_map.mp h
  have := List.mem_range.mp hj
  exact ⟨_, rfl, by omega, by omega⟩
theorem rowsN_mem {s : Nat} : ∀ {n : Nat} {m : List Int}, m ∈ rowsN s n → m.length = n ∧ ∀ c ∈ m, -(s : Int) ≤ c ∧ c ≤ s
  | 0, m, h => by
    rw [List.mem_singleton.mp h]
    exact ⟨rfl, fun _ h => nomatch h⟩
  | n + 1, m, h => by
    rw [rowsN_succ] at h
    obtain ⟨r, hr, hm⟩ := List.mem_flatMap.mp h
    obtain ⟨c, rfl, h1, h2⟩ := mem_grow hm
    obtain ⟨l, b⟩ := rowsN_mem hr
    refine ⟨by rw [List.length_append, l]; rfl, fun d hd => ?_⟩
    rcases List.mem_append.mp hd with z | z
    · exact b d z
    · rw [List.mem_singleton.mp z]
      exact ⟨h1, h2⟩
theorem grow_nodup (s : Nat) (r : List Int) : (grow s r).Nodup := by
  unfold grow
  refine List.pairwise_map.mpr (List.Pairwise.imp_of_mem (fun {a b} _ _ hab => ?_) List.nodup_range)
  intro e
  have := List.append_cancel_left e
  simp only [List.cons.injEq, and_true] at this
  exact hab (by omega)
theorem flat_nodup {f : List Int → List (List Int)} (h1 : ∀ r, (f r).Nodup) (h2 : ∀ r r' m, m ∈ f r → m ∈ f r' → r = r') : ∀ {l : List (List Int)}, l.Nodup → (l.flatMap f).Nodup
  | [], _ => List.nodup_nil
  | r :: l, h => by
    have p := List.nodup_cons.mp h
    rw [List.flatMap_cons]
    refine List.nodup_append.mpr ⟨h1 r, flat_nodup h1 h2 p.2, fun a ha b hb e => ?_⟩
    obtain ⟨r', hr', hb'⟩ := List.mem_flatMap.mp hb
    rw [← e] at hb'
    exact p.1 (h2 r r' a ha hb' ▸ hr')
theorem rowsN_nodup (s : Nat) : ∀ n : Nat, (rowsN s n).Nodup
  | 0 => List.pairwise_singleton _ _
  | n + 1 => by
    rw [rowsN_succ]
    refine flat_nodup (grow_nodup s) (fun r r' m h h' => ?_) (rowsN_nodup s n)
    obtain ⟨c, rfl, _, _⟩ := mem_grow h
    obtain ⟨d, e, _, _⟩ := mem_grow h'
    exact (List.append_inj' e rfl).1
/-! ### the needs of a change -/
theorem addI_get : ∀ {k : Int} {a b : List Int} (i : Nat), a.length = b.length → ((addI k a b)[i]?).getD 0 = (a[i]?).getD 0 + k * (b[i]?).getD 0
  | k, [], [], i, _ => by simp [addI]
  | _, [], _ :: _, _, h => by cases h
  | _, _ :: _, [], _, h => by cases h
  | k, x :: a, y :: b, 0, _ => by simp [addI]
  | k, x :: a, y :: b, i + 1, h => by
    have ih := addI_get (k := k) (a := a) (b := b) i (Nat.succ.inj h)
    simpa [addI] using ih
theorem okN_get {t : List Int} : okN t = true ↔ ∀ i, i < t.length → 0 ≤ (t[i]?).getD 0 := by
  rw [okN_iff]
  constructor
  · intro h i hi
    rw [List.getElem?_eq_getElem hi]
    exact h _ (List.getElem_mem hi)
  · intro h c hc
    obtain ⟨i, hi, rfl⟩ := List.getElem_of_mem hc
    have := h i hi
    rwa [List.getElem?_eq_getElem hi] at this
theorem mem_needsN {c : List Int} {q : Nat × Int} : q ∈ needsN c ↔ q.1 < c.length ∧ q.2 = (c[q.1]?).getD 0 ∧ q.2 < 0 := by
  unfold needsN
  rw [List.mem_filter, List.mem_map]
  constructor
  · rintro ⟨⟨i, hi, rfl⟩, hp⟩
    exact ⟨List.mem_range.mp hi, rfl, of_decide_eq_true hp⟩
  · rintro ⟨h1, h2, h3⟩
    exact ⟨⟨q.1, List.mem_range.mpr h1, by rw [← h2]⟩, decide_eq_true h3⟩
theorem needsN_len (c : List Int) : (needsN c).length ≤ c.length := by
  unfold needsN
  refine Nat.le_trans (List.length_filter_le _ _) ?_
  rw [List.length_map, List.length_range]
  exact Nat.le_refl _
theorem fit_needs {c t : List Int} (hl : t.length = c.length) (ht : ∀ x ∈ t, 0 ≤ x) : ((needsN c).all fun q => decide (-q.2 ≤ (t[q.1]?).getD 0)) = okN (addI 1 t c) := by
  rw [Bool.eq_iff_iff, okN_get, List.all_eq_true]
  have al : (addI 1 t c).length = t.length := addI_len hl
  constructor
  · intro h i hi
    rw [addI_get i hl]
    rw [al] at hi
    by_cases hp : (c[i]?).getD 0 < 0
    · have := h (i, (c[i]?).getD 0) (mem_needsN.mpr ⟨by omega, rfl, hp⟩)
      have := of_decide_eq_true this
      simp only at this
      omega
    · have : 0 ≤ (t[i]?).getD 0 := by
        rw [List.getElem?_eq_getElem hi]
        exact ht _ (List.getElem_mem _)
      omega
  · intro h q hq
    obtain ⟨h1, h2, h3⟩ := mem_needsN.mp hq
    have := h q.1 (by omega)
    rw [addI_get q.1 hl] at this
    exact decide_eq_true (by omega)
/-! ### the known changes -/
theorem kv_put {kvs : List (PyData × PyData)} {c : List Int} {z : PyData} (h : kvs = [] ∨ KV kvs) : KV (putD kvs (tupI c) z) := by
  obtain ⟨⟨x, hx, _⟩, _⟩ := key_ok c
  unfold putD
  split
  · rcases h with rfl | ⟨k, v, r, rfl, hk⟩
    · rename_i h; cases h
    · rw [List.map_cons]
      split
      · exact ⟨_, _, _, rfl, by first | exact hk | (rw [hx]; rfl)⟩
      · exact ⟨_, _, _, rfl, hk⟩
  · rcases h with rfl | ⟨k, v, r, rfl, hk⟩
    · exact ⟨_, _, _, rfl, by rw [hx]; rfl⟩
    · exact ⟨_, _, _, rfl, hk⟩
end K27
namespace K27
open PySem PySem.Spec PyProof.Rows L2 Evl Fw FwS FwD
structure KO (book : List (List Int)) (ws : List (Nat × Int)) (kvs : List (PyData × PyData)) : Prop where
  of : ∀ q ∈ kvs, ∃ w ∈ ws, q = (tupI (chg book w), posD w)
  has : ∀ w ∈ ws, ∃ q ∈ kvs, q.1 = tupI (chg book w)
  len : kvs.length ≤ ws.length
  kv : kvs = [] ∨ KV kvs
theorem tupI_inj {a b : List Int} (h : tupI a = tupI b) : a = b := by
  have := eqv_row a b
  rw [h, eqv_row, decide_eq_true rfl] at this
  exact of_decide_eq_true this.symm
theorem ko_put {book : List (List Int)} {ws : List (Nat × Int)} {kvs : List (PyData × PyData)} (h : KO book ws kvs) (w : Nat × Int) : KO book (ws ++ [w]) (putD kvs (tupI (chg book w)) (posD w)) := by
  refine ⟨fun q hq => ?_, fun v hv => ?_, ?_, .inr (kv_put h.kv)⟩
  · unfold putD at hq
    split at hq
    · obtain ⟨p, hp, rfl⟩ := List.mem_map.mp hq
      obtain ⟨v, hv, e⟩ := h.of p hp
      split
      · rename_i he
        rw [e] at he
        rw [eqv_row] at he
        have he := of_decide_eq_true he
        exact ⟨w, by simp, by rw [e, he]⟩
      · exact ⟨v, List.mem_append_left _ hv, e⟩
    · rcases List.mem_append.mp hq with m | m
      · obtain ⟨v, hv, e⟩ := h.of q m
        exact ⟨v, List.mem_append_left _ hv, e⟩
      · exact ⟨w, by simp, List.mem_singleton.mp m⟩
  · have old : ∀ p ∈ kvs, ∃ q ∈ putD kvs (tupI (chg book w)) (posD w), q.1 = p.1 := fun p hp => by
      unfold putD
      split
      · refine ⟨_, List.mem_map.mpr ⟨p, hp, rfl⟩, ?_⟩
        split <;> rfl
      · exact ⟨p, List.mem_append_left _ hp, rfl⟩
    rcases List.mem_append.mp hv with m | m
    · obtain ⟨p, hp, e⟩ := h.has v m
      obtain ⟨q, hq, e2⟩ := old p hp
      exact ⟨q, hq, by rw [e2, e]⟩
    · rw [List.mem_singleton.mp m]
      by_cases z : hasD kvs (tupI (chg book w)) = true
      · obtain ⟨p, hp, e⟩ := List.any_eq_true.mp z
        obtain ⟨v', _, ev⟩ := h.of p hp
        rw [ev, eqv_row] at e
        obtain ⟨q, hq, e2⟩ := old p hp
        exact ⟨q, hq, by rw [e2, ev, of_decide_eq_true e]⟩
      · unfold putD
        rw [if_neg z]
        exact ⟨_, List.mem_append_right _ List.mem_cons_self, rfl⟩
  · have := putD_len kvs (tupI (chg book w)) (posD w)
    have := h.len
    rw [List.length_append]
    simp only [List.length_cons, List.length_nil]
    omega
theorem knownK_snoc (book : List (List Int)) (ws : List (Nat × Int)) (w : Nat × Int) : knownK book (ws ++ [w]) = putD (knownK book ws) (tupI (chg book w)) (posD w) := by
  unfold knownK
  rw [List.foldl_append]
  rfl
theorem ko_all (book : List (List Int)) : ∀ ws : List (Nat × Int), KO book ws (knownK book ws) := fun ws => by
  generalize hn : ws.length = n
  induction n generalizing ws with
  | zero =>
    rw [List.length_eq_zero_iff.mp hn]
    exact ⟨(fun _ h => nomatch h), (fun _ h => nomatch h), Nat.le_refl _, .inl rfl⟩
  | succ n ih =>
    have ne : ws ≠ [] := fun e => by rw [e] at hn; cases hn
    rw [← List.dropLast_concat_getLast ne, knownK_snoc]
    exact ko_put (ih _ (by rw [List.length_dropLast, hn]; rfl)) _
theorem wayB_of {book : List (List Int)} {w : Nat × Int} (hw : w ∈ wayLn book.length) : ∃ v ∈ wayLn book.length, wayB book (chg book w) = posD v ∧ chg book v = chg book w := by
  have K := ko_all book (wayLn book.length)
  obtain ⟨q, hq, e⟩ := K.has w hw
  unfold wayB FwD.atD
  cases hf : (knownK book (wayLn book.length)).find? fun p => PyData.eqv p.1 (tupI (chg book w)) with
  | none =>
    have := List.find?_eq_none.mp hf q hq
    rw [e, eqv_row, decide_eq_true rfl] at this
    exact absurd rfl this
  | some p =>
    have h1 := List.find?_some hf
    obtain ⟨v, hv, ev⟩ := K.of p (List.mem_of_find?_eq_some hf)
    rw [ev, eqv_row] at h1
    exact ⟨v, hv, by rw [ev]; rfl, of_decide_eq_true h1⟩
theorem late_chg {book : List (List Int)} {t : List Int} {w : Nat × Int} : addI 1 t (chg book w) = late book t w := addI_one t (rowAt book w.1) w.2
/-- a step has its move -/
theorem way_step {rows : List (List Int)} {n : Nat} {book : List (List Int)} {x y : List Int} (B : BkOk rows n book) (hx : x.length = n) (h : y ∈ nexts book x) : ∃ (i : Nat) (s : Int), wayB book (addI (-1) y x) = .tuple [.int (i : Nat), .int s] ∧ i < book.length ∧ (s = 1 ∨ s = -1) ∧ addI s x (rowAt book i) = y := by
  obtain ⟨i, s, hi, hs, rfl, ok⟩ := mem_nexts.mp h
  have b := B.at_ hi
  have e : addI (-1) (addI s x (rowAt book i)) x = chg book (i, s) := addI_diff (by rw [hx, b.2])
  rw [e]
  obtain ⟨v, hv, e1, e2⟩ := wayB_of (book := book) (w := (i, s)) (mem_wayLn.mpr ⟨hi, hs⟩)
  refine ⟨v.1, v.2, e1, (mem_wayLn.mp hv).1, (mem_wayLn.mp hv).2, ?_⟩
  have h1 := late_chg (book := book) (t := x) (w := v)
  have h2 := late_chg (book := book) (t := x) (w := (i, s))
  rw [e2, h2] at h1
  exact h1.symm
theorem kn_ok (book : List (List Int)) : knownK book (wayLn book.length) = [] ∨ KV (knownK book (wayLn book.length)) := (ko_all book _).kv
theorem tab_of {rows : List (List Int)} {n : Nat} (F : FrOk rows n) {t : List Int} (T : TbOk rows n t) : TabOk n t := ⟨T.len, fun c hc => by have := tb_bd F T c hc; omega⟩
theorem fd_few {rows : List (List Int)} {n : Nat} {book : List (List Int)} {t : List Int} (G : Fb rows n book) (T : TbOk rows n t) {q : List (List Int)} {D : List Int → Nat} (W : Fd book t q D) : q.length ≤ 11000 := tb_few G.F W.nd fun k hk => wk_ok G.F G.B T (W.lv k hk).1
theorem fi_few {rows : List (List Int)} {n : Nat} {book : List (List Int)} {t : List Int} (G : Fb rows n book) (T : TbOk rows n t) {k : Nat} {q ws : List (List Int)} {D : List Int → Nat} (W : FI book t k q ws D) : q.length ≤ 11000 := tb_few G.F W.nd fun k hk => wk_ok G.F G.B T (W.lv k hk).1
theorem fr_few {rows : List (List Int)} {n : Nat} {book : List (List Int)} {t : List Int} (G : Fb rows n book) (T : TbOk rows n t) {k : Nat} {ks ws qs ls : List (List Int)} {D : List Int → Nat} (W : FR book t k ks ws qs ls D) : qs.length ≤ 11000 := tb_few G.F W.nd fun k hk => wk_ok G.F G.B T (W.lv k hk).1
end K27
namespace K27
open PySem PySem.Spec PyProof.Rows L2 Evl Fw FwS FwD
theorem zw_zip {α β γ : Type} (f : α → β → γ) : ∀ (xs : List α) (ys : List β), (xs.zip ys).map (fun q => f q.1 q.2) = List.zipWith f xs ys
  | [], _ => rfl
  | _ :: _, [] => rfl
  | x :: xs, y :: ys => by
    show f x y :: (xs.zip ys).map (fun q => f q.1 q.2) = _
    rw [zw_zip f xs ys]
    rfl
theorem zipD_zip (xs ys : List Int) : zipD (xs.map .int) (ys.map .int) = (xs.zip ys).map fun q => .tuple [.int q.1, .int q.2] := by
  rw [zw_zip (fun x y => PyData.tuple [.int x, .int y]) xs ys]
  unfold zipD
  rw [List.zipWith_map]
theorem enum_rows (m : List Int) : enumD (m.map .int) = ((List.range m.length).map fun i => (i, (m[i]?).getD 0)).map fun q : Nat × Int => .tuple [.int (q.1 : Nat), .int q.2] := by
  refine List.ext_getElem? fun i => ?_
  rw [List.map_map, List.getElem?_map]
  unfold enumD
  rw [List.getElem?_mapIdx, List.getElem?_map]
  by_cases h : i < m.length
  · rw [List.getElem?_eq_getElem h, List.getElem?_range h]
    simp [List.getElem?_eq_getElem h]
  · rw [List.getElem?_eq_none (by omega), List.getElem?_eq_none (by rw [List.length_range]; omega)]
    rfl
theorem getD_of {m : List Int} {i : Nat} (h : i < m.length) : (m[i]?).getD 0 = m[i] := by rw [List.getElem?_eq_getElem h]; rfl
theorem at_int {m : List Int} {i : Nat} (h : i < m.length) : atI (m.map PyData.int) (i : Int) = some (.int ((m[i]?).getD 0)) := by
  rw [getD_of h]
  exact (FwN.at_nat (j := i) (by rw [List.length_map]; exact h)).trans (by rw [List.getElem_map])
theorem eqv_nil (W : List (List Int)) : PyData.eqv (.list (W.map fun m => tupI m)) (.list []) = decide (W = []) := by
  cases W with
  | nil => rfl
  | cons a W =>
    rw [decide_eq_false (by simp)]
    rfl
theorem snoc_of {α : Type} {W : List α} (h : W ≠ []) : ∃ V x, W = V ++ [x] := ⟨W.dropLast, W.getLast h, (List.dropLast_concat_getLast h).symm⟩
theorem row_at {ms : List (List Int)} {k : Nat} {m : List Int} (h : ms[k]? = some m) : atI (ms.map fun m => tupI m) (k : Int) = some (tupI m) := by
  have hk := (List.getElem?_eq_some_iff.mp h).1
  unfold atI
  rw [ixN_nat (by omega) (by rw [List.length_map]; omega)]
  show (ms.map fun m => tupI m)[((k : Int)).toNat]? = _
  rw [Int.toNat_natCast, List.getElem?_map, h]
  rfl
section
variable {K K' : PySem.W.Frag} {p : Option Addr} {env : List Slot} {Φ : PyData → Prop} {te : TE} {C : Addr}
theorem e_ways (cf : Cf K C) (h : WpE K p te env fun x => ∃ book, x = stD C book ∧ Φ (.list ((wayLn book.length).map (wayD book)))) (hK : K' = K := by with_unfolding_all rfl) : WpE K p (tFld K' te "ways") env Φ := by subst hK; exact e_fld (h.mono fun x ⟨b, e, q⟩ => ⟨C, stX, stE b, _, e, rfl, cf.cls, cf.no_ways, rfl, q⟩)
theorem e_known (cf : Cf K C) (h : WpE K p te env fun x => ∃ book, x = stD C book ∧ Φ (dkD (knownK book (wayLn book.length)))) (hK : K' = K := by with_unfolding_all rfl) : WpE K p (tFld K' te "known") env Φ := by subst hK; exact e_fld (h.mono fun x ⟨b, e, q⟩ => ⟨C, stX, stE b, _, e, rfl, cf.cls, cf.no_known, rfl, q⟩)
end
end K27
namespace K27
open PySem PySem.Spec PyProof.Rows L2 Evl Fw FwS FwD
theorem fold_le {u : Int} : ∀ {l : List Int} {a : Int}, a ≤ u → (∀ y ∈ l, y ≤ u) → l.foldl max a ≤ u
  | [], _, h, _ => h
  | y :: l, a, h, hl => by
    rw [List.foldl_cons]
    exact fold_le (by have := hl y List.mem_cons_self; omega) fun z hz => hl z (List.mem_cons_of_mem _ hz)
end K27
namespace K27
open PySem PySem.Spec PyProof.Rows L2 Evl Fw FwS FwD
theorem dkv_congr {f g : List Int → PyData} {ks : List (List Int)} (h : ∀ k ∈ ks, f k = g k) : dkv f ks = dkv g ks := by
  unfold dkv
  exact List.map_congr_left fun k hk => by rw [h k hk]
theorem dkv_set {f : List Int → PyData} {ks : List (List Int)} {x : List Int} {v : PyData} (h : x ∉ ks) : putD (dkv f ks) (tupI x) v = dkv (setF f x v) (ks ++ [x]) := by
  have e1 : dkv f ks = dkv (setF f x v) ks := dkv_congr fun k hk => (setF_ne fun e => h (by rw [← e]; exact hk)).symm
  rw [e1]
  have := dkv_put (setF f x v) h
  rwa [setF_same] at this
theorem dkv_len (f : List Int → PyData) (ks : List (List Int)) : (dkv f ks).length = ks.length := by
  unfold dkv
  rw [List.length_map]
end K27
namespace K27
open PySem PySem.Spec PyProof.Rows L2 Evl Fw FwS FwD
theorem rng_nat (n : Nat) : rng 0 n = (List.range n).map fun i : Nat => PyData.int (i : Nat) := by
  unfold rng
  exact List.map_congr_left fun k _ => by rw [Int.zero_add]
theorem choose_list {α : Type} {P : Nat → α → Prop} : ∀ m : Nat, (∀ i, i < m → ∃ w, P i w) → ∃ ws : List α, ws.length = m ∧ ∀ (i : Nat) (w : α), ws[i]? = some w → P i w
  | 0, _ => ⟨[], rfl, fun i w h => by simp at h⟩
  | m + 1, h => by
    obtain ⟨ws, h1, h2⟩ := choose_list m fun i hi => h i (by omega)
    obtain ⟨w, hw⟩ := h m (by omega)
    refine ⟨ws ++ [w], by rw [List.length_append, h1]; rfl, fun i v hv => ?_⟩
    by_cases z : i < ws.length
    · rw [List.getElem?_append_left z] at hv
      exact h2 i v hv
    · have lt := (List.getElem?_eq_some_iff.mp hv).1
      rw [List.length_append] at lt
      simp only [List.length_cons, List.length_nil] at lt
      have e : i = m := by omega
      subst e
      rw [List.getElem?_append_right (by omega), h1, Nat.sub_self] at hv
      rw [← Option.some.inj hv]
      exact hw
theorem shaped_pos (ws : List (Nat × Int)) : SeqAt.shaped (.list (ws.map posD)) = true := by
  have e1 : ∀ ws : List (Nat × Int), PyData.canLayAll0 (ws.map posD) = true := fun ws => by
    induction ws with
    | nil => rfl
    | cons w ws ih =>
      show (PyData.canLay0 (posD w) && PyData.canLayAll0 (ws.map posD)) = true
      rw [ih]
      rfl
  have e2 : ∀ ws : List (Nat × Int), PyData.depthAll (ws.map posD) ≤ 1 := fun ws => by
    induction ws with
    | nil => exact Nat.zero_le _
    | cons w ws ih =>
      show max 1 (PyData.depthAll (ws.map posD)) ≤ 1
      omega
  unfold SeqAt.shaped
  have e3 : PyData.canLay0 (.list (ws.map posD)) = true := e1 ws
  have e4 : PyData.depth (.list (ws.map posD)) ≤ 2 := Nat.succ_le_succ (e2 ws)
  rw [e3, decide_eq_true (show PyData.depth (.list (ws.map posD)) ≤ 64 by omega)]
  rfl
theorem none_in (ws : List (Nat × Int)) : FwWd.inD .none (ws.map posD) = false := by
  induction ws with
  | nil => rfl
  | cons w ws ih => exact ih
end K27
namespace K27
open PySem PySem.Spec PyProof.Rows L2 Evl Fw FwS FwD
theorem atI_last {xs : List PyData} (h : xs ≠ []) : atI xs (-1) = xs.getLast? := by
  have hl : 0 < xs.length := List.length_pos_iff.mpr h
  unfold atI ixN
  rw [if_neg (by decide), if_pos (by omega)]
  show xs[((-1 : Int) + xs.length).toNat]? = _
  rw [List.getLast?_eq_getElem?]
  congr 1
  omega
theorem row_last (ms : List (List Int)) (m : List Int) : atI ((ms.map fun m => tupI m) ++ [tupI m]) (-1) = some (tupI m) := by
  rw [atI_last (by simp)]
  simp
end K27
namespace K27
open PySem PySem.Spec PyProof.Rows L2 Evl Fw FwS FwD
theorem perm_erase {α : Type} : ∀ {l : List α} {j : Nat} (h : j < l.length), (l[j] :: l.eraseIdx j).Perm l
  | a :: l, 0, _ => List.Perm.refl _
  | a :: l, j + 1, h => by
    have h' := Nat.lt_of_succ_lt_succ h
    have ih := perm_erase (l := l) (j := j) h'
    show (l[j]'h' :: a :: l.eraseIdx j).Perm (a :: l)
    exact (List.Perm.swap a (l[j]'h') _).trans (ih.cons a)
theorem min_iff : ∀ {cs : List Int} {c : Int}, 0 ≤ cs.foldl min c ↔ ∀ x ∈ c :: cs, 0 ≤ x
  | [], c => by simp
  | d :: cs, c => by
    rw [List.foldl_cons, min_iff]
    constructor
    · intro h x hx
      have h0 := h (min c d) List.mem_cons_self
      rcases List.mem_cons.mp hx with e | e
      · rw [e]; omega
      · rcases List.mem_cons.mp e with e | e
        · rw [e]; omega
        · exact h x (List.mem_cons_of_mem _ e)
    · intro h x hx
      rcases List.mem_cons.mp hx with e | e
      · rw [e]
        have h1 := h c List.mem_cons_self
        have h2 := h d (List.mem_cons_of_mem _ List.mem_cons_self)
        omega
      · exact h x (List.mem_cons_of_mem _ (List.mem_cons_of_mem _ e))
theorem min_ok {cs : List Int} {c : Int} : decide (0 ≤ cs.foldl min c) = okN (c :: cs) := by
  rw [Bool.eq_iff_iff, okN_iff, decide_eq_true_iff, min_iff]
theorem dkv_setI {D : List Int → Nat} {ks : List (List Int)} {x : List Int} {n : Nat} (h : x ∉ ks) : putD (dkv (fun y => .int (D y : Nat)) ks) (tupI x) (.int (n : Nat)) = dkv (fun y => .int (setF D x n y : Nat)) (ks ++ [x]) := by
  rw [dkv_set h]
  refine dkv_congr fun k _ => ?_
  by_cases e : k = x
  · rw [e, setF_same, setF_same]
  · rw [setF_ne e, setF_ne e]
theorem nextW_snoc (book : List (List Int)) (t : List Int) (ws : List (Nat × Int)) (w : Nat × Int) : nextW book t (ws ++ [w]) = nextW book t ws ++ (if okN (late book t w) = true then [late book t w] else []) := by
  unfold nextW
  rw [List.map_append, List.filter_append]
  congr 1
  show List.filter _ [late book t w] = _
  rw [List.filter_cons, List.filter_nil]
theorem nextW_len (book : List (List Int)) (t : List Int) (ws : List (Nat × Int)) : (nextW book t ws).length ≤ ws.length := by
  unfold nextW
  refine Nat.le_trans (List.length_filter_le _ _) ?_
  rw [List.length_map]
  exact Nat.le_refl _
theorem two_at {i j : Nat} {x : PyData} (hx : [PyData.int 1, PyData.int (-1)][j]? = some x) : ∃ s : Int, x = .int s ∧ (s = 1 ∨ s = -1) ∧ ([(i, 1), (i, -1)] : List (Nat × Int)).take (j + 1) = ([(i, 1), (i, -1)] : List (Nat × Int)).take j ++ [(i, s)] := by
  cases j with
  | zero => cases hx; exact ⟨1, rfl, .inl rfl, rfl⟩
  | succ j =>
    cases j with
    | zero => cases hx; exact ⟨-1, rfl, .inr rfl, rfl⟩
    | succ j => simp at hx
end K27
namespace K27
open PySem PySem.Spec PyProof.Rows L2 Evl Fw FwS FwD
theorem dkv_no {f : List Int → PyData} {ks : List (List Int)} {m : List Int} (h : m ∉ ks) : FwD.atD (dkv f ks) (tupI m) = none := by
  unfold FwD.atD dkv
  have e : (ks.map fun k => (tupI k, f k)).find? (fun p => PyData.eqv p.1 (tupI m)) = none := List.find?_eq_none.mpr fun p hp => by
    obtain ⟨k, hk, rfl⟩ := List.mem_map.mp hp
    rw [eqv_row]
    have : k ≠ m := fun e => h (e ▸ hk)
    simpa using this
  rw [e]
  rfl
theorem pos_at {ws : List (Nat × Int)} {i : Nat} {x : PyData} (h : (enumD (ws.map posD))[i]? = some x) : ∃ w, ws[i]? = some w ∧ x = .tuple [.int (i : Nat), posD w] := by
  have lt := (List.getElem?_eq_some_iff.mp h).1
  rw [enumD_len, List.length_map] at lt
  refine ⟨ws[i], List.getElem?_eq_getElem lt, ?_⟩
  rw [enumD_get (xs := ws.map posD) (i := i) (x := posD ws[i]) (by rw [List.getElem?_map, List.getElem?_eq_getElem lt]; rfl)] at h
  exact (Option.some.inj h).symm
theorem eqv_pos : ∀ ws : List (Nat × Int), PyData.eqv (.list (ws.map posD)) (.list (ws.map posD)) = true := by
  have all : ∀ ws : List (Nat × Int), PyData.eqvAll (ws.map posD) (ws.map posD) = true := fun ws => by
    induction ws with
    | nil => rfl
    | cons w ws ih =>
      show (PyData.eqv (posD w) (posD w) && PyData.eqvAll (ws.map posD) (ws.map posD)) = true
      rw [ih, Bool.and_true]
      have := eqvAll_ints [(w.1 : Int), w.2] [(w.1 : Int), w.2]
      rw [decide_eq_true rfl] at this
      exact this
  exact all
end K27
namespace K27
theorem max_all : ∀ {l : List Int} {a u : Int}, ((a :: l).all fun c => decide (c ≤ u)) = decide (l.foldl max a ≤ u)
  | [], a, u => by
    show (decide (a ≤ u) && true) = _
    rw [Bool.and_true]
    rfl
  | b :: l, a, u => by
    rw [List.foldl_cons, ← max_all]
    show (decide (a ≤ u) && (decide (b ≤ u) && l.all fun c => decide (c ≤ u))) = (decide (max a b ≤ u) && l.all fun c => decide (c ≤ u))
    rw [← Bool.and_assoc]
    congr 1
    by_cases h1 : a ≤ u
    · by_cases h2 : b ≤ u
      · rw [decide_eq_true h1, decide_eq_true h2, decide_eq_true (show max a b ≤ u by omega)]
        rfl
      · rw [decide_eq_false h2, Bool.and_false, decide_eq_false (show ¬ max a b ≤ u by omega)]
    · rw [decide_eq_false h1, Bool.false_and, decide_eq_false (show ¬ max a b ≤ u by omega)]
end K27

namespace K27
open PySem PySem.Spec PyProof.Rows L2 Evl Fw FwS FwD
theorem addI_sub : ∀ {x y : List Int}, x.length = y.length → addI 1 x (addI (-1) y x) = y
  | [], [], _ => rfl
  | [], _ :: _, h => by cases h
  | _ :: _, [], h => by cases h
  | a :: x, b :: y, h => by
    have ih := addI_sub (x := x) (y := y) (Nat.succ.inj h)
    show (a + 1 * (b + -1 * a)) :: addI 1 x (addI (-1) y x) = b :: y
    rw [ih]
    congr 1
    omega
theorem next_len {rows : List (List Int)} {n : Nat} {book : List (List Int)} {t y : List Int} (B : BkOk rows n book) (T : Tp n t) (h : y ∈ nexts book t) : Tp n y := by
  obtain ⟨i, s, hi, hs, rfl, ok⟩ := mem_nexts.mp h
  have b := B.at_ hi
  exact ⟨by rw [addI_len (by rw [T.len, b.2]), T.len], okN_iff.mp ok⟩
theorem TbOk.tp {rows : List (List Int)} {n : Nat} {t : List Int} (T : TbOk rows n t) : Tp n t := ⟨T.len, T.pos⟩
theorem TOk.tp {rows : List (List Int)} {n : Nat} {t : List Int} (T : TOk rows n t) : Tp n t := ⟨T.len, fun c hc => (T.sz c hc).1⟩
/-- a change is known exactly if it is a step -/
theorem way_iff {rows : List (List Int)} {n : Nat} {book : List (List Int)} {x y : List Int} (B : BkOk rows n book) (X : Tp n x) (Y : Tp n y) : (stepB book x y = true ∧ ∃ w, wayB book (addI (-1) y x) = posD w) ∨ (stepB book x y = false ∧ wayB book (addI (-1) y x) = .none) := by
  by_cases h : y ∈ nexts book x
  · obtain ⟨i, s, e, _⟩ := way_step B X.len h
    exact .inl ⟨decide_eq_true h, (i, s), e⟩
  · refine .inr ⟨decide_eq_false h, ?_⟩
    unfold wayB FwD.atD
    cases hf : (knownK book (wayLn book.length)).find? fun p => PyData.eqv p.1 (tupI (addI (-1) y x)) with
    | none => rfl
    | some p =>
      exfalso
      have h1 := List.find?_some hf
      obtain ⟨v, hv, ev⟩ := (ko_all book (wayLn book.length)).of p (List.mem_of_find?_eq_some hf)
      rw [ev, eqv_row] at h1
      have h2 := of_decide_eq_true h1
      have hv := mem_wayLn.mp hv
      have b := B.at_ hv.1
      refine h (mem_nexts.mpr ⟨v.1, v.2, hv.1, hv.2, ?_, okN_iff.mpr Y.pos⟩)
      have h3 := late_chg (book := book) (t := x) (w := v)
      rw [h2] at h3
      rw [show addI v.2 x (rowAt book v.1) = late book x v from rfl, ← h3]
      exact (addI_sub (by rw [X.len, Y.len])).symm
end K27
namespace K27
open PySem PySem.Spec PyProof.Rows L2 Evl Fw FwS FwD
def optD : Option (Nat × Int) → PyData
  | none => .none
  | some w => posD w
theorem ways_opt {rows : List (List Int)} {n : Nat} {book R : List (List Int)} (G : Fb rows n book) (W : ∀ x ∈ R, Tp n x) : ∃ os : List (Option (Nat × Int)), waysR book R = os.map optD ∧ os.any (fun o => o.isNone) = !roadB book R := by
  obtain ⟨os, h1, h2⟩ := choose_list (P := fun i (o : Option (Nat × Int)) => wayB book (addI (-1) ((R[i + 1]?).getD []) ((R[i]?).getD [])) = optD o ∧ o.isNone = !stepB book ((R[i]?).getD []) ((R[i + 1]?).getD [])) (R.length - 1) fun i hi => by
    have e1 : R[i]? = some R[i] := List.getElem?_eq_getElem (by omega)
    have e2 : R[i + 1]? = some R[i + 1] := List.getElem?_eq_getElem (by omega)
    rw [e1, e2]
    rcases way_iff G.B (W _ (List.mem_of_getElem? e1)) (W _ (List.mem_of_getElem? e2)) with ⟨a, w, b⟩ | ⟨a, b⟩
    · exact ⟨some w, b, by rw [Option.getD_some, Option.getD_some, a]; rfl⟩
    · exact ⟨none, b, by rw [Option.getD_some, Option.getD_some, a]; rfl⟩
  refine ⟨os, ?_, ?_⟩
  · refine List.ext_getElem? fun i => ?_
    unfold waysR
    rw [List.getElem?_map, List.getElem?_map]
    by_cases hi : i < R.length - 1
    · rw [List.getElem?_range hi, List.getElem?_eq_getElem (show i < os.length by omega)]
      obtain ⟨e, _⟩ := h2 i os[i] (List.getElem?_eq_getElem (by omega))
      simp only [Option.map_some, e]
    · rw [List.getElem?_eq_none (by rw [List.length_range]; omega), List.getElem?_eq_none (by omega)]
      rfl
  · rw [Bool.eq_iff_iff, List.any_eq_true, Bool.not_eq_true']
    unfold roadB
    rw [List.all_eq_false]
    constructor
    · rintro ⟨o, ho, hn⟩
      obtain ⟨i, hi, rfl⟩ := List.getElem_of_mem ho
      obtain ⟨_, e⟩ := h2 i _ (List.getElem?_eq_getElem hi)
      refine ⟨i, List.mem_range.mpr (by omega), fun z => ?_⟩
      rw [hn, z] at e
      cases e
    · rintro ⟨i, hi, hz⟩
      have hi := List.mem_range.mp hi
      obtain ⟨_, e⟩ := h2 i os[i] (List.getElem?_eq_getElem (by omega))
      refine ⟨os[i], List.getElem_mem _, ?_⟩
      rw [e]
      simpa using hz
theorem shaped_opt (os : List (Option (Nat × Int))) : SeqAt.shaped (.list (os.map optD)) = true := by
  have e1 : ∀ os : List (Option (Nat × Int)), PyData.canLayAll0 (os.map optD) = true := fun os => by
    induction os with
    | nil => rfl
    | cons w ws ih =>
      show (PyData.canLay0 (optD w) && PyData.canLayAll0 (ws.map optD)) = true
      rw [ih]
      cases w <;> rfl
  have e2 : ∀ os : List (Option (Nat × Int)), PyData.depthAll (os.map optD) ≤ 1 := fun os => by
    induction os with
    | nil => exact Nat.zero_le _
    | cons w ws ih =>
      show max (PyData.depth (optD w)) (PyData.depthAll (ws.map optD)) ≤ 1
      have : PyData.depth (optD w) ≤ 1 := by
        cases w with
        | none => exact Nat.zero_le _
        | some w => exact Nat.le_refl 1
      omega
  unfold SeqAt.shaped
  have e3 : PyData.canLay0 (.list (os.map optD)) = true := e1 os
  have e4 : PyData.depth (.list (os.map optD)) ≤ 2 := Nat.succ_le_succ (e2 os)
  rw [e3, decide_eq_true (show PyData.depth (.list (os.map optD)) ≤ 64 by omega)]
  rfl
theorem opt_in (os : List (Option (Nat × Int))) : FwWd.inD .none (os.map optD) = os.any fun o => o.isNone := by
  induction os with
  | nil => rfl
  | cons w ws ih =>
    show (PyData.eqv (optD w) .none || FwWd.inD .none (ws.map optD)) = (w.isNone || ws.any fun o => o.isNone)
    rw [ih]
    cases w <;> rfl
/-- the tables of a value -/
theorem tabs_of {rows : List (List Int)} {n : Nat} : ∀ {xs : List PyData}, xs.all (isTab rows n) = true → xs = (xs.map rowOf).map (fun m => tupI m) ∧ ∀ t ∈ xs.map rowOf, TOk rows n t
  | [], _ => ⟨rfl, fun _ h => nomatch h⟩
  | x :: xs, h => by
    rw [List.all_cons, Bool.and_eq_true] at h
    obtain ⟨t, rfl, T⟩ := tab_iff.mp h.1
    obtain ⟨e, f⟩ := tabs_of h.2
    have e1 : rowOf (tupI t) = t := toI_ints t
    refine ⟨by rw [List.map_cons, List.map_cons, e1, ← e], fun s hs => ?_⟩
    rw [List.map_cons, e1] at hs
    rcases List.mem_cons.mp hs with z | z
    · rw [z]; exact T
    · exact f s z
end K27
namespace K27
open PySem PySem.Spec PyProof.Rows L2 Evl Fw FwS FwD
theorem cnt0_of : ∀ {xs : List PyData}, xs.all isCnt0 = true → ∃ t : List Int, xs = t.map .int ∧ ∀ c ∈ t, 0 ≤ c
  | [], _ => ⟨[], rfl, fun _ h => nomatch h⟩
  | x :: xs, h => by
    rw [List.all_cons, Bool.and_eq_true] at h
    obtain ⟨t, rfl, ht⟩ := cnt0_of h.2
    have h1 := h.1
    cases x with
    | int i =>
      refine ⟨i :: t, rfl, fun c hc => ?_⟩
      rcases List.mem_cons.mp hc with e | e
      · rw [e]; exact of_decide_eq_true h1
      · exact ht c e
    | _ => cases h1
theorem le_sumL : ∀ {t : List Int}, (∀ c ∈ t, 0 ≤ c) → ∀ c ∈ t, c ≤ sumL t
  | [], _, _, h => by cases h
  | d :: t, p, c, hc => by
    have st := sum_nn fun e he => p e (List.mem_cons_of_mem _ he)
    have hd := p d List.mem_cons_self
    show c ≤ d + sumL t
    rcases List.mem_cons.mp hc with z | z
    · omega
    · have := le_sumL (fun e he => p e (List.mem_cons_of_mem _ he)) c z
      omega
theorem tab_pos {rows : List (List Int)} {n : Nat} {t : List Int} (F : FrOk rows n) (hl : t.length = n) (hp : ∀ c ∈ t, 0 ≤ c) : isTab rows n (tupI t) = (sumsI rows t).all fun c => decide (c ≤ 20000) := by
  rw [Bool.eq_iff_iff, tab_iff, List.all_eq_true]
  constructor
  · rintro ⟨s, e, T⟩ c hc
    have e := tupI_inj e
    subst e
    obtain ⟨r, hr, rfl⟩ := List.mem_map.mp hc
    exact decide_eq_true (T.sum r hr)
  · intro h
    have hs : ∀ r ∈ rows, innerI r t ≤ 20000 := fun r hr => of_decide_eq_true (h _ (List.mem_map.mpr ⟨r, hr, rfl⟩))
    refine ⟨t, rfl, hl, fun c hc => ⟨hp c hc, ?_⟩, hs⟩
    obtain ⟨r, rs, er, hr⟩ := F.r0
    have rin : r ∈ rows := by rw [er]; exact List.mem_cons_self
    have rl := F.fr.len r rin
    have a := sum_le_inner (r := r) (t := t) (by omega) hr hp
    have b := le_sumL hp c hc
    have d := hs r rin
    omega
theorem tab_not {rows : List (List Int)} {n : Nat} {xs : List PyData} (h : ¬ ((xs.length : Int) = n ∧ xs.all isCnt0 = true)) : isTab rows n (.tuple xs) = false := by
  rw [Bool.eq_false_iff]
  intro z
  obtain ⟨t, e, T⟩ := tab_iff.mp z
  have e := PyData.tuple.inj e
  subst e
  refine h ⟨by rw [List.length_map, T.len], List.all_eq_true.mpr fun x hx => ?_⟩
  obtain ⟨c, hc, rfl⟩ := List.mem_map.mp hx
  exact decide_eq_true (T.sz c hc).1
end K27
namespace K27
open PySem PySem.Spec PyProof.Rows L2 Evl Fw FwS FwD
theorem in_rows (r : List Int) (rs : List (List Int)) : FwWd.inD (tupI r) (rs.map fun m => tupI m) = decide (r ∈ rs) := by
  unfold FwWd.inD
  rw [List.any_map]
  have : ((fun y => PyData.eqv y (tupI r)) ∘ fun m => tupI m) = fun x : List Int => decide (x = r) := by
    funext x
    exact eqv_row x r
  rw [this]
  by_cases q : r ∈ rs
  · rw [decide_eq_true q]
    exact List.any_eq_true.mpr ⟨r, q, by simp⟩
  · rw [decide_eq_false q, List.any_eq_false]
    intro x hx
    have : x ≠ r := fun z => q (by rw [← z]; exact hx)
    simpa using this
theorem zip_rows (xs ys : List (List Int)) : zipD (xs.map fun m => tupI m) (ys.map fun m => tupI m) = (xs.zip ys).map fun q => .tuple [tupI q.1, tupI q.2] := by
  rw [zw_zip (fun x y => PyData.tuple [tupI x, tupI y]) xs ys]
  unfold zipD
  rw [List.zipWith_map]
theorem cut_tail (P : List (List Int)) (m : List Int) : Fw.cutD ((m :: P).map fun m => tupI m) (some 1) none = P.map fun m => tupI m := by
  rw [cut_from (by decide)]
  rfl
theorem road_cons {book : List (List Int)} (m p : List Int) (P : List (List Int)) : roadB book (m :: p :: P) = (stepB book m p && roadB book (p :: P)) := by
  unfold roadB
  have e : (m :: p :: P).length - 1 = (p :: P).length - 1 + 1 := by simp
  rw [e, List.range_succ_eq_map, List.all_cons, List.all_map]
  rfl
theorem road_zip {book : List (List Int)} : ∀ (m : List Int) (P : List (List Int)), (((m :: P).zip P).all fun q => stepB book q.1 q.2) = roadB book (m :: P)
  | m, [] => rfl
  | m, p :: P => by
    rw [road_cons, ← road_zip p P]
    rfl
end K27
namespace K27
open PySem PySem.Spec PyProof.Rows L2 Evl Fw FwS FwD
/-! ### all that is joined, rising -/
def Seq (x : PyData) (xs : List PyData) : Prop := x = .list xs ∨ x = .tuple xs
def ClP (rows : List (List Int)) (n : Nat) (book : List (List Int)) (x : PyData) : Prop := ∃ t vs, Seq x ((t :: vs).map fun m => tupI m) ∧ (∀ y ∈ t :: vs, TOk rows n y) ∧ (t :: vs).Pairwise (· < ·) ∧ ∀ y, y ∈ t :: vs ↔ ∃ k, Wk book t k y
theorem rows_inj : ∀ {a b : List (List Int)}, (a.map fun m => tupI m) = b.map (fun m => tupI m) → a = b
  | [], [], _ => rfl
  | [], _ :: _, h => by cases h
  | _ :: _, [], h => by cases h
  | x :: a, y :: b, h => by
    have h1 : tupI x = tupI y := (List.cons.inj h).1
    rw [tupI_inj h1, rows_inj (List.cons.inj h).2]
theorem seq_inj {x : PyData} {xs ys : List PyData} (h1 : Seq x xs) (h2 : Seq x ys) : xs = ys := by
  rcases h1 with rfl | rfl <;> rcases h2 with h | h
  · exact PyData.list.inj h
  · cases h
  · cases h
  · exact PyData.tuple.inj h
variable {rows : List (List Int)} {n : Nat} {book : List (List Int)}
theorem cl_tabs {t : List Int} {vs : List (List Int)} {x : PyData} (hx : Seq x ((t :: vs).map fun m => tupI m)) (T : ∀ y ∈ t :: vs, TOk rows n y) : ClP rows n book x ↔ (t :: vs).Pairwise (· < ·) ∧ ∀ y, y ∈ t :: vs ↔ ∃ k, Wk book t k y := by
  constructor
  · rintro ⟨t', vs', hx', _, p, a⟩
    have e := rows_inj (seq_inj hx hx')
    obtain ⟨rfl, rfl⟩ := List.cons.inj e
    exact ⟨p, a⟩
  · rintro ⟨p, a⟩
    exact ⟨t, vs, hx, T, p, a⟩
theorem cl_seq {xs : List PyData} {x : PyData} (hx : Seq x xs) (h : ClP rows n book x) : xs ≠ [] ∧ xs.all (isTab rows n) = true := by
  obtain ⟨t, vs, hx', T, _⟩ := h
  have e := seq_inj hx hx'
  subst e
  refine ⟨fun z => (nomatch z), List.all_eq_true.mpr fun y hy => ?_⟩
  obtain ⟨m, hm, rfl⟩ := List.mem_map.mp hy
  exact tab_iff.mpr ⟨m, rfl, T m hm⟩
theorem cl_no {x : PyData} (h : ∀ xs, ¬ Seq x xs) : ¬ ClP rows n book x := fun ⟨_, _, hx, _⟩ => h _ hx
abbrev pre_is_closed_lot (C : Addr) : Pre := fun ds Φ => ∃ rows n book x, ds = [frameD rows, rowsT book, x] ∧ Fb rows n book ∧ deepOk x ∧ (∀ xs, Seq x xs → xs.length ≤ 900) ∧ ∀ b : Bool, (b = true ↔ ClP rows n book x) → Φ (.bool b)
abbrev pre__law_is_closed : Pre := fun ds Φ => ∃ rows n book x, ds = [frameD rows, rowsT book, x] ∧ Fb rows n book ∧ deepOk x ∧ (∀ xs, Seq x xs → xs.length ≤ 900) ∧ (∀ xs, Seq x xs → ∀ t, tupI t ∈ xs → TOk rows n t → TbOk rows n t) ∧ ∀ b : Bool, (b = true ↔ ClP rows n book x) → Φ (.bool b)
/-! ### bent -/
theorem cut_len0 {xs : List PyData} {i : Int} (h : 0 ≤ i) (h2 : i < xs.length) : (Fw.cutD xs (some i) (some (i + 1))).length = 1 := by
  unfold Fw.cutD
  have e1 : HT.sIx xs.length 0 (some i) = min i.toNat xs.length := if_neg (show ¬ i < 0 by omega)
  have e2 : HT.sIx xs.length xs.length (some (i + 1)) = min (i + 1).toNat xs.length := if_neg (show ¬ i + 1 < 0 by omega)
  rw [e1, e2, List.length_take, List.length_drop]
  omega
theorem cut_len1 {xs : List PyData} {j : Nat} (h : j < xs.length) : (Fw.cutD xs (some (j : Int)) (some ((j : Int) + 1))).length = 1 := cut_len0 (by omega) (by omega)
theorem cut_ahead (xs : List PyData) (j : Nat) : Fw.cutD xs none (some (j : Int)) = xs.take j := by
  rw [cut_to (by omega), Int.toNat_natCast]
theorem cut_behind (xs : List PyData) (j : Nat) : Fw.cutD xs (some ((j : Int) + 1)) none = xs.drop (j + 1) := by
  rw [cut_from (by omega), show ((j : Int) + 1).toNat = j + 1 by omega]
def B0 (c : Int) (y : PyData) : Prop := y = .none ∨ y = .bool true ∨ y = .str "1" ∨ ∃ e : Int, y = .int e ∧ -1 ≤ e ∧ (e ≤ c + 2 ∨ e = 20001)
/-- one thing otherwise in a sequence -/
def SeqB (R : PyData → PyData → Prop) (xs ys : List PyData) : Prop :=
  (∃ j, j < xs.length ∧ ys = xs.take j ++ xs.drop (j + 1)) ∨ (∃ zs, zs.length = 1 ∧ (∀ z ∈ zs, z ∈ xs) ∧ ys = xs ++ zs) ∨ ys = xs ∨ ys = xs.reverse ∨ ∃ (j : Nat) (h : j < xs.length) (z : PyData), R xs[j] z ∧ ys = xs.take j ++ [z] ++ xs.drop (j + 1)
def okB : Nat → PyData → Prop
  | 0, v => ∃ c : Int, v = .int c ∧ 0 ≤ c ∧ c ≤ 100
  | k + 1, v => ∃ xs, Seq v xs ∧ 0 < xs.length ∧ xs.length ≤ 600 ∧ ∀ x ∈ xs, okB k x
def bOf : Nat → PyData → PyData → Prop
  | 0, v, y => ∃ c, v = .int c ∧ B0 c y
  | k + 1, v, y => ∃ xs ys, Seq v xs ∧ Seq y ys ∧ SeqB (bOf k) xs ys
abbrev pre_bent (k : Nat) : Pre := fun ds Φ => ∃ v, ds = [v] ∧ okB k v ∧ ∀ d, bOf k v d → Φ d
abbrev pre__law_bent : Pre := pre_bent 2
theorem seqB_mem {R : PyData → PyData → Prop} {xs ys : List PyData} (h : SeqB R xs ys) : ∀ y ∈ ys, y ∈ xs ∨ ∃ x ∈ xs, R x y := by
  rcases h with ⟨j, hj, rfl⟩ | ⟨zs, _, hz, rfl⟩ | rfl | rfl | ⟨j, hj, z, hz, rfl⟩
  · intro y hy
    rcases List.mem_append.mp hy with w | w
    · exact .inl (List.mem_of_mem_take w)
    · exact .inl (List.mem_of_mem_drop w)
  · intro y hy
    rcases List.mem_append.mp hy with w | w
    · exact .inl w
    · exact .inl (hz y w)
  · exact fun y hy => .inl hy
  · exact fun y hy => .inl (List.mem_reverse.mp hy)
  · intro y hy
    rcases List.mem_append.mp hy with w | w
    · rcases List.mem_append.mp w with w | w
      · exact .inl (List.mem_of_mem_take w)
      · rw [List.mem_singleton.mp w]
        exact .inr ⟨_, List.getElem_mem hj, hz⟩
    · exact .inl (List.mem_of_mem_drop w)
theorem seqB_len {R : PyData → PyData → Prop} {xs ys : List PyData} (h : SeqB R xs ys) : ys.length ≤ xs.length + 1 := by
  rcases h with ⟨j, hj, rfl⟩ | ⟨zs, lz, hz, rfl⟩ | rfl | rfl | ⟨j, hj, z, hz, rfl⟩
  · rw [List.length_append, List.length_take, List.length_drop]; omega
  · rw [List.length_append]; omega
  · omega
  · rw [List.length_reverse]; omega
  · rw [List.length_append, List.length_append, List.length_take, List.length_drop]; show _ + 1 + _ ≤ _; omega
theorem sumL_app : ∀ a b : List Int, sumL (a ++ b) = sumL a + sumL b
  | [], b => (Int.zero_add _).symm
  | x :: a, b => by
    show x + sumL (a ++ b) = x + sumL a + sumL b
    rw [sumL_app a b, Int.add_assoc]
theorem sumL_rev : ∀ a : List Int, sumL a.reverse = sumL a
  | [] => rfl
  | x :: a => by
    rw [List.reverse_cons, sumL_app, sumL_rev a]
    show sumL a + (x + 0) = x + sumL a
    omega
theorem inner_two : ∀ {r t : List Int}, (∀ c ∈ r, 1 ≤ c ∧ c ≤ 2) → (∀ c ∈ t, 0 ≤ c) → innerI r t ≤ 2 * sumL t
  | _, [], _, _ => by simp [sumL, innerI]
  | [], c :: t, _, p => by
    have := sum_nn p
    have e : innerI [] (c :: t) = 0 := by simp [innerI]
    omega
  | q :: r, c :: t, hr, p => by
    have ih := inner_two (r := r) (t := t) (fun d hd => hr d (List.mem_cons_of_mem _ hd)) (fun d hd => p d (List.mem_cons_of_mem _ hd))
    have hq := hr q List.mem_cons_self
    have hc := p c List.mem_cons_self
    have e : innerI (q :: r) (c :: t) = q * c + innerI r t := by
      unfold innerI
      simp only [List.zipWith_cons_cons, List.sum_cons]
    rw [e]
    have h1 : q * c ≤ 2 * c := Int.mul_le_mul_of_nonneg_right hq.2 hc
    show _ ≤ 2 * (c + sumL t)
    omega
/-! ### small tables -/
theorem Sm.tb {t : List Int} (T : Sm rows n t) : TbOk rows n t := ⟨T.len, T.pos, by
  have := T.sum
  have : lowS n ≤ topS n := by unfold lowS topS; split <;> decide
  omega⟩
theorem sm_wk {t : List Int} (G : Fb rows n book) (T : Sm rows n t) {k : Nat} {x : List Int} (h : Wk book t k x) : Sm rows n x := by
  induction h with
  | nil => exact T
  | step _ hy ih =>
    obtain ⟨i, s, hi, hs, rfl, ok⟩ := mem_nexts.mp hy
    have b := G.B.at_ hi
    have l := ih.len.trans b.2.symm
    refine ⟨by rw [addI_len l, ih.len], okN_iff.mp ok, ?_⟩
    rw [inner_add l, zero_in (small_zero (small_of_move (G.B.mv _ b.1)).1) _ (head_in G.F), Int.mul_zero, Int.add_zero]
    exact ih.sum
theorem sm_sum (F : FrOk rows n) {t : List Int} (T : Sm rows n t) : sumL t ≤ (lowS n : Nat) := by
  obtain ⟨r, rs, rfl, hr⟩ := F.r0
  have rl : r.length = n := F.fr.len r List.mem_cons_self
  have := sum_le_inner (r := r) (t := t) (by rw [T.len, rl]; exact Nat.le_refl _) hr T.pos
  have s : innerI r t ≤ (lowS n : Nat) := T.sum
  omega
theorem low_few : (allSum 2 12).length ≤ 500 ∧ (allSum 3 12).length ≤ 500 ∧ (allSum 4 8).length ≤ 500 := by decide +kernel
theorem sm_few (F : FrOk rows n) {ks : List (List Int)} (nd : ks.Nodup) (h : ∀ k ∈ ks, Sm rows n k) : ks.length ≤ 500 := by
  have hm : ∀ k ∈ ks, k ∈ allSum n (lowS n) := fun k hk => mem_allSum (h k hk).len (h k hk).pos (sm_sum F (h k hk))
  have l := nodup_len nd hm
  have a := low_few
  have t2 := F.two
  have t4 := F.four
  rcases (by omega : n = 2 ∨ n = 3 ∨ n = 4) with e | e | e
  · subst e
    exact Nat.le_trans l a.1
  · subst e
    exact Nat.le_trans l a.2.1
  · subst e
    exact Nat.le_trans l a.2.2
theorem sm_bd (F : FrOk rows n) {t : List Int} (T : Sm rows n t) : ∀ c ∈ t, 0 ≤ c ∧ c ≤ 12 := fun c hc => by
  have := le_sumL T.pos c hc
  have := sm_sum F T
  have : lowS n ≤ 12 := by unfold lowS; split <;> decide
  exact ⟨T.pos c hc, by omega⟩
theorem tb_of_sum (F : FrOk rows n) {t : List Int} (hl : t.length = n) (hp : ∀ c ∈ t, 0 ≤ c) (hs : sumL t ≤ (lowS n : Nat) + 2) : TbOk rows n t := by
  obtain ⟨r, rs, rfl, hr⟩ := F.r0
  refine ⟨hl, hp, ?_⟩
  show innerI r t ≤ _
  have := inner_two (r := r) (t := t) hr hp
  have : 2 * (lowS n + 2) = topS n := by unfold lowS topS; split <;> decide
  omega
/-- a table bent once -/
theorem bent_tab (F : FrOk rows n) {m t : List Int} (M : Sm rows n m) (h : bOf 1 (tupI m) (tupI t)) (T : TOk rows n t) : TbOk rows n t := by
  obtain ⟨xs, ys, hx, hy, sb⟩ := h
  have e1 : xs = m.map .int := seq_inj hx (.inr rfl)
  have e2 : ys = t.map .int := seq_inj hy (.inr rfl)
  subst e1
  subst e2
  have lm := M.len
  have lt := T.len
  have pos : ∀ c ∈ t, 0 ≤ c := fun c hc => (T.sz c hc).1
  have inj : ∀ {a b : List Int}, a.map PyData.int = b.map PyData.int → a = b := fun {a b} h => tupI_inj (a := a) (b := b) (by show PyData.tuple _ = PyData.tuple _; rw [h])
  have sm := sm_sum F M
  rcases sb with ⟨j, hj, e⟩ | ⟨zs, lz, _, e⟩ | e | e | ⟨j, hj, z, hz, e⟩
  · have := congrArg List.length e
    rw [List.length_append, List.length_take, List.length_drop, List.length_map, List.length_map] at this
    rw [List.length_map] at hj
    omega
  · have := congrArg List.length e
    rw [List.length_append, List.length_map, List.length_map] at this
    omega
  · rw [inj e]
    exact M.tb
  · rw [← List.map_reverse] at e
    rw [inj e] at T pos lt ⊢
    exact tb_of_sum F lt pos (by rw [sumL_rev]; omega)
  · rw [List.length_map] at hj
    rw [List.getElem_map] at hz
    obtain ⟨c, ec, b0⟩ := hz
    cases ec
    have zi : z ∈ t.map PyData.int := by rw [e]; simp
    obtain ⟨f, hf, rfl⟩ := List.mem_map.mp zi
    have fs := (T.sz f hf).2
    have ef : f ≤ m[j] + 2 := by
      rcases b0 with b | b | b | ⟨g, b, _, b2⟩
      · cases b
      · cases b
      · cases b
      · cases b
        rcases b2 with b2 | b2
        · exact b2
        · omega
    have e3 : t = m.take j ++ [f] ++ m.drop (j + 1) := inj (by rw [e, List.map_append, List.map_append, List.map_take, List.map_drop]; rfl)
    have e4 : m = m.take j ++ [m[j]] ++ m.drop (j + 1) := by
      rw [List.append_assoc]
      show m = m.take j ++ m[j] :: m.drop (j + 1)
      rw [← List.drop_eq_getElem_cons hj, List.take_append_drop]
    refine tb_of_sum F lt pos ?_
    have s1 := congrArg sumL e3
    have s2 := congrArg sumL e4
    rw [sumL_app, sumL_app] at s1 s2
    have s3 : sumL [f] = f := Int.add_zero f
    have s4 : sumL [m[j]] = m[j] := Int.add_zero _
    omega
/-! ### values -/
structure RA (x : PyData) : Prop where
  hk : x.hasDict = false ∨ x = .dict []
  sh : x.showable = true
  dp : x.depth ≤ 60
  sz : x.shown.length ≤ sizeLine
structure VOk (rows : List (List Int)) (n : Nat) (x : PyData) : Prop where
  ra : RA x
  dp : deepOk x
  ln : ∀ xs, Seq x xs → xs.length ≤ 900
  sp : ∀ xs, x = .tuple xs → SeqAt.shaped x = true
  tb : ∀ xs, Seq x xs → ∀ t, tupI t ∈ xs → TOk rows n t → TbOk rows n t
theorem ra_tm {x : PyData} {k b : Nat} (t : Tm x k b) (hk : k ≤ 60) (hb : b ≤ 1000000) : RA x := ⟨.inl t.nd, t.sh, Nat.le_trans t.dp hk, t.fits hb⟩
theorem b0_atom {c : Int} {y : PyData} (hc : c ≤ 100) (h : B0 c y) : Tm y 0 10 ∧ plainB y = true ∧ ∀ xs, ¬ Seq y xs := by
  rcases h with rfl | rfl | rfl | ⟨e, rfl, h1, h2⟩
  · exact ⟨tm_none.mono (Nat.le_refl _) (by omega), rfl, fun xs h => by rcases h with h | h <;> cases h⟩
  · exact ⟨tm_bool.mono (Nat.le_refl _) (by omega), rfl, fun xs h => by rcases h with h | h <;> cases h⟩
  · exact ⟨⟨by decide, rfl, by decide +kernel, by decide, Nat.le_refl _, by decide⟩, rfl, fun xs h => by rcases h with h | h <;> cases h⟩
  · exact ⟨(tm_int (by omega) (by omega)).mono (Nat.le_refl _) (by omega), rfl, fun xs h => by rcases h with h | h <;> cases h⟩
/-- what stands in a value -/
structure El (rows : List (List Int)) (n : Nat) (y : PyData) : Prop where
  tm : Tm y 1 1000
  so : shortOk y
  tb : ∀ t, y = tupI t → TOk rows n t → TbOk rows n t
theorem el_int {c : Int} (h1 : -1000 ≤ c) (h2 : c ≤ 1000) : El rows n (.int c) := ⟨(tm_int (by omega) (by omega)).mono (by omega) (by omega), trivial, fun t h => by cases h⟩
theorem el_sm (F : FrOk rows n) {m : List Int} (M : Sm rows n m) : El rows n (tupI m) := by
  have b := sm_bd F M
  have l4 := F.four
  have lm := M.len
  refine ⟨(tm_tupI (n := 4) (fun c hc => by have := b c hc; omega) (by omega)).mono (Nat.le_refl _) (by omega), ⟨by rw [List.length_map]; omega, plain_ints m⟩, fun t h _ => ?_⟩
  rw [← tupI_inj h]
  exact M.tb
theorem el_bent (F : FrOk rows n) {m : List Int} {y : PyData} (M : Sm rows n m) (h : bOf 1 (tupI m) y) : El rows n y := by
  have h' := h
  obtain ⟨xs, ys, hx, hy, sb⟩ := h
  have e1 : xs = m.map .int := seq_inj hx (.inr rfl)
  subst e1
  have l := seqB_len sb
  rw [List.length_map] at l
  have l4 := F.four
  have lm := M.len
  have b := sm_bd F M
  have at_ : ∀ z ∈ ys, Tm z 0 10 ∧ plainB z = true := fun z hz => by
    rcases seqB_mem sb z hz with w | ⟨x, hx, c, rfl, b0⟩
    · obtain ⟨c, hc, rfl⟩ := List.mem_map.mp w
      have := b c hc
      exact ⟨(tm_int (by omega) (by omega)).mono (Nat.le_refl _) (by omega), rfl⟩
    · obtain ⟨c', hc, e⟩ := List.mem_map.mp hx
      cases e
      have := b _ hc
      have q := b0_atom (by omega) b0
      exact ⟨q.1, q.2.1⟩
  rcases hy with rfl | rfl
  · refine ⟨(tm_list (n := 5) (fun z hz => (at_ z hz).1) (by omega)).mono (Nat.le_refl _) (by omega), (show ys.length ≤ 1000 by omega), fun t h => by cases h⟩
  · refine ⟨(tm_tuple (n := 5) (fun z hz => (at_ z hz).1) (by omega)).mono (Nat.le_refl _) (by omega), ⟨by omega, List.all_eq_true.mpr fun z hz => (at_ z hz).2⟩, fun t h T => ?_⟩
    rw [h] at h'
    exact bent_tab F M h' T
theorem vok_seq {x : PyData} {xs : List PyData} (hx : Seq x xs) (hl : xs.length ≤ 900) (h : ∀ y ∈ xs, El rows n y) : VOk rows n x := by
  have tm : Tm x 2 (900 * 1001) := by
    rcases hx with rfl | rfl
    · exact tm_list (fun y hy => (h y hy).tm) hl
    · exact tm_tuple (fun y hy => (h y hy).tm) hl
  refine ⟨ra_tm tm (by decide) (by decide), ?_, fun ys hy => by rw [seq_inj hy hx]; exact hl, fun _ _ => tm.shaped (by decide), fun ys hy t ht => ?_⟩
  · rcases hx with rfl | rfl
    · exact ⟨by omega, fun y hy => (h y hy).so⟩
    · exact ⟨by omega, fun y hy => (h y hy).so⟩
  · rw [seq_inj hy hx] at ht
    exact (h _ ht).tb t rfl
theorem vok_atom {x : PyData} (r : RA x) (d : deepOk x) (no : ∀ xs, ¬ Seq x xs) : VOk rows n x := ⟨r, d, fun xs h => absurd h (no xs), fun xs h => absurd (.inr h) (no xs), fun xs h => absurd h (no xs)⟩
theorem vok_bent (F : FrOk rows n) {ms : List (List Int)} {v y : PyData} (hv : Seq v (ms.map fun m => tupI m)) (hl : ms.length ≤ 500) (h : ∀ m ∈ ms, Sm rows n m) (hy : bOf 2 v y) : VOk rows n y := by
  obtain ⟨xs, ys, hx, hy, sb⟩ := hy
  have e1 := seq_inj hx hv
  subst e1
  have l := seqB_len sb
  rw [List.length_map] at l
  refine vok_seq hy (by omega) fun z hz => ?_
  rcases seqB_mem sb z hz with w | ⟨x, hx, w⟩
  · obtain ⟨m, hm, rfl⟩ := List.mem_map.mp w
    exact el_sm F (h m hm)
  · obtain ⟨m, hm, rfl⟩ := List.mem_map.mp hx
    exact el_bent F (h m hm) w
theorem vok_rows (F : FrOk rows n) {ms : List (List Int)} {v : PyData} (hv : Seq v (ms.map fun m => tupI m)) (hl : ms.length ≤ 500) (h : ∀ m ∈ ms, Sm rows n m) : VOk rows n v := vok_seq hv (by rw [List.length_map]; omega) fun y hy => by
  obtain ⟨m, hm, rfl⟩ := List.mem_map.mp hy
  exact el_sm F (h m hm)
theorem okb_rows (F : FrOk rows n) {ms : List (List Int)} {v : PyData} (hv : Seq v (ms.map fun m => tupI m)) (ne : ms ≠ []) (hl : ms.length ≤ 500) (h : ∀ m ∈ ms, Sm rows n m) : okB 2 v := by
  refine ⟨_, hv, by rw [List.length_map]; exact List.length_pos_iff.mpr ne, by rw [List.length_map]; omega, fun y hy => ?_⟩
  obtain ⟨m, hm, rfl⟩ := List.mem_map.mp hy
  have M := h m hm
  have n2 := F.two
  have n4 := F.four
  have lm := M.len
  refine ⟨_, .inr rfl, by rw [List.length_map]; omega, by rw [List.length_map]; omega, fun z hz => ?_⟩
  obtain ⟨c, hc, rfl⟩ := List.mem_map.mp hz
  have := sm_bd F M c hc
  exact ⟨c, rfl, this.1, by omega⟩
theorem wk_nodup_few {t : List Int} (G : Fb rows n book) (T : Sm rows n t) {ks : List (List Int)} (nd : ks.Nodup) (h : ∀ k ∈ ks, ∃ j, Wk book t j k) : ks.length ≤ 500 := sm_few G.F nd fun k hk => by
  obtain ⟨j, hj⟩ := h k hk
  exact sm_wk G T hj
theorem tm_two (G : Fb rows n book) : Tm (.list [frameD rows, rowsT book]) 4 3000 := by
  have n4 := G.F.four
  have few := G.B.few
  have h1 : Tm (frameD rows) 3 1000 := tm_frame G.F.fr
  have h2 : Tm (rowsT book) 2 (3 * 5) := tm_tuple (xs := book.map fun m => tupI m) (k := 1) (b := 4) (n := 3) (fun x hx => by
    obtain ⟨m, hm, rfl⟩ := List.mem_map.mp hx
    have ml := mv_len (G.B.mv m hm)
    exact tm_tupI (fun c hc => by have := G.B.bd m hm c hc; omega) (by omega)) (by rw [List.length_map]; exact few)
  have := tm_list (xs := [frameD rows, rowsT book]) (k := 3) (b := 1000) (n := 2) (fun x hx => by
    simp only [List.mem_cons, List.not_mem_nil, or_false] at hx
    rcases hx with rfl | rfl
    · exact h1
    · exact h2.mono (by omega) (by omega)) (Nat.le_refl _)
  exact this.mono (Nat.le_refl _) (by omega)
theorem asc_nd {l : List (List Int)} (h : l.Pairwise (· < ·)) : l.Nodup := h.imp fun {a b} h (z : a = b) => lt_irr b (by rw [z] at h; exact h)
theorem b_eq {a b : Bool} {P : Prop} (h1 : a = true ↔ P) (h2 : b = true ↔ P) : a = b := by
  cases a <;> cases b
  · rfl
  · exact h1.mpr (h2.mp rfl)
  · exact (h2.mpr (h1.mp rfl)).symm
  · rfl
end K27
namespace K27
open PySem PySem.Spec PyProof.Rows L2 Evl
open Fw
section
variable {P : Program} {w : World} {K : PySem.W.Frag} {mg : Str → Option Value} {base : Heap}
local macro_rules | `(tactic| walk_at "wp") => `(tactic| (first
  | with_reducible refine Fw.s_seq ?_
  | with_reducible refine Fw.s_next ?_
  | with_reducible refine Fw.s_nil ?_
  | with_reducible refine Fw.s_app2 rfl ?_
  | with_reducible refine Fw.s_asg ?_
  | with_reducible refine Fw.s_if ?_
  | with_reducible refine Fw.s_ret ?_
  | with_reducible refine Fw.s_retN ?_
  | with_reducible refine Fw.s_drop ?_
  | with_reducible refine Fw.e_var rfl ?_
  | with_reducible refine Fw.e_int ?_
  | with_reducible refine Fw.e_bl ?_
  | with_reducible refine Fw.e_str ?_
  | with_reducible refine Fw.e_non ?_
  | with_reducible refine Fw.e_isi_ ?_
  | with_reducible refine Fw.e_slT_ ?_
  | with_reducible refine Fw.e_repL ?_
  | with_reducible refine Fw.e_pot0 rfl ?_
  | with_reducible refine Fw.e_pot1 rfl ?_
  | with_reducible refine Fw.e_lenO rfl ?_
  | with_reducible refine Fw.e_ixO2 rfl rfl ?_
  | with_reducible refine Fw.e_ixOc2 rfl ?_
  | with_reducible refine Fw.e_ixOn2 rfl ?_
  | with_reducible refine Fw.e_op ?_
  | with_reducible refine Fw.e_un ?_
  | with_reducible refine Fw.e_tup ?_
  | with_reducible refine Fw.e_lst ?_
  | with_reducible refine Fw.o_none ?_
  | with_reducible refine Fw.o_some ?_
  | with_reducible refine Fw.a_nil ?_
  | with_reducible refine Fw.a_cons ?_
  | with_reducible refine Fw.e_callSw ?_
  | with_reducible refine Fw.e_callS3 ?_
  | with_reducible refine Fw.e_isi2 ?_
  | with_reducible refine Fw.od_sub_bb ?_
  | with_reducible refine Fw.od_isN ?_
  | with_reducible refine Fw.od_notN ?_
  | with_reducible refine Fw.e_callS1 ?_
  | with_reducible refine Fw.e_callP rfl ?_
  | with_reducible refine Fw.e_call ?_
  | with_reducible refine Fw.e_cb ?_
  | with_reducible refine Fw.e_andV ?_
  | with_reducible refine Fw.e_orV ?_
  | with_reducible refine Fw.e_notV ?_
  | with_reducible refine Fw.e_if ?_
  | with_reducible refine Fw.e_chain ?_
  | with_reducible refine Fw.t_test ?_
  | with_reducible refine Fw.t_B ?_
  | with_reducible refine Fw.t_and ?_
  | with_reducible refine Fw.t_or ?_
  | with_reducible refine Fw.t_not ?_
  | with_reducible refine Fw.t_yes ?_
  | with_reducible refine Fw.od_add ?_
  | with_reducible refine Fw.od_sub ?_
  | with_reducible refine Fw.od_mul ?_ ?_
  | with_reducible refine Fw.od_fdivN ?_ ?_
  | with_reducible refine Fw.od_modN ?_ ?_
  | with_reducible refine Fw.od_pow ?_ ?_
  | with_reducible refine Fw.od_lt ?_
  | with_reducible refine Fw.od_le ?_
  | with_reducible refine Fw.od_gt ?_
  | with_reducible refine Fw.od_ge ?_
  | with_reducible refine Fw.od_eqI ?_
  | with_reducible refine Fw.od_neI ?_
  | with_reducible refine Fw.od_eqS ?_
  | with_reducible refine Fw.od_neS ?_
  | with_reducible refine Fw.od_isB ?_
  | with_reducible refine Fw.od_notB ?_
  | with_reducible refine Fw.ud_neg ?_
  | with_reducible refine Fw.cb_len_ (.inl rfl) ?_
  | with_reducible refine Fw.cb_len_ (.inr rfl) ?_
  | with_reducible refine Fw.cb_abs ?_
  | with_reducible refine Fw.cb_int ?_
  | with_reducible refine Fw.cb_max2 ?_
  | with_reducible refine Fw.cb_gcd ?_
  | with_reducible refine Fw.cb_reprB ?_
  | with_reducible refine Fw.cb_tuple_ (.inr rfl) ?_
  | with_reducible refine Fw.cb_tuple_ (.inl rfl) ?_
  | with_reducible refine Fw.cb_list_ (.inl rfl) ?_
  | with_reducible refine Fw.cb_list_ (.inr rfl) ?_
  | with_reducible refine L2.iteT ?_
  | with_reducible refine L2.iteF ?_
  | with_reducible refine Fw.iteNT ?_
  | with_reducible refine Fw.iteNF ?_
  | with_reducible refine Fw.iteI ?_
  | with_reducible refine Fw.iteNI ?_
  | with_reducible refine Fw.s_par ?_
  | with_reducible refine Fw.s_par3 ?_
  | with_reducible refine Fw.od_or ?_
  | with_reducible refine Fw.od_and ?_
  | with_reducible refine Fw.od_shl ?_ ?_
  | with_reducible refine Fw.ud_inv ?_
  | with_reducible refine Exists.intro _ (And.intro Fw.kd_none_int ?_)
  | with_reducible refine Exists.intro _ (And.intro Fw.kd_none_bool ?_)
  | with_reducible refine Exists.intro _ (And.intro Fw.kd_none_str ?_)
  | with_reducible refine Exists.intro _ (And.intro Fw.kd_none_list ?_)
  | with_reducible refine Exists.intro _ (And.intro Fw.kd_none_tuple ?_)
  | with_reducible refine Exists.intro _ (And.intro Fw.kd_bool_int ?_)
  | with_reducible refine Exists.intro _ (And.intro Fw.kd_bool_bool ?_)
  | with_reducible refine Exists.intro _ (And.intro Fw.kd_bool_str ?_)
  | with_reducible refine Exists.intro _ (And.intro Fw.kd_bool_list ?_)
  | with_reducible refine Exists.intro _ (And.intro Fw.kd_bool_tuple ?_)
  | with_reducible refine Exists.intro _ (And.intro Fw.kd_int_int ?_)
  | with_reducible refine Exists.intro _ (And.intro Fw.kd_int_bool ?_)
  | with_reducible refine Exists.intro _ (And.intro Fw.kd_int_str ?_)
  | with_reducible refine Exists.intro _ (And.intro Fw.kd_int_list ?_)
  | with_reducible refine Exists.intro _ (And.intro Fw.kd_int_tuple ?_)
  | with_reducible refine Exists.intro _ (And.intro Fw.kd_str_int ?_)
  | with_reducible refine Exists.intro _ (And.intro Fw.kd_str_bool ?_)
  | with_reducible refine Exists.intro _ (And.intro Fw.kd_str_str ?_)
  | with_reducible refine Exists.intro _ (And.intro Fw.kd_str_list ?_)
  | with_reducible refine Exists.intro _ (And.intro Fw.kd_str_tuple ?_)
  | with_reducible refine Exists.intro _ (And.intro Fw.kd_list_int ?_)
  | with_reducible refine Exists.intro _ (And.intro Fw.kd_list_bool ?_)
  | with_reducible refine Exists.intro _ (And.intro Fw.kd_list_str ?_)
  | with_reducible refine Exists.intro _ (And.intro Fw.kd_list_list ?_)
  | with_reducible refine Exists.intro _ (And.intro Fw.kd_list_tuple ?_)
  | with_reducible refine Exists.intro _ (And.intro Fw.kd_tuple_int ?_)
  | with_reducible refine Exists.intro _ (And.intro Fw.kd_tuple_bool ?_)
  | with_reducible refine Exists.intro _ (And.intro Fw.kd_tuple_str ?_)
  | with_reducible refine Exists.intro _ (And.intro Fw.kd_tuple_list ?_)
  | with_reducible refine Exists.intro _ (And.intro Fw.kd_tuple_tuple ?_)
  | with_reducible refine Exists.intro _ (And.intro Fw.kd_dict_int ?_)
  | with_reducible refine Exists.intro _ (And.intro Fw.kd_dict_bool ?_)
  | with_reducible refine Exists.intro _ (And.intro Fw.kd_dict_str ?_)
  | with_reducible refine Exists.intro _ (And.intro Fw.kd_dict_list ?_)
  | with_reducible refine Exists.intro _ (And.intro Fw.kd_dict_tuple ?_)
  | with_reducible refine Exists.intro _ (And.intro rfl ?_)
  | with_reducible refine Exists.intro _ (Exists.intro _ (And.intro rfl ?_))
  | with_reducible refine Exists.intro _ (Exists.intro _ (Exists.intro _ (And.intro rfl ?_)))
  | with_reducible refine Fw.iteD (by first | omega | (simp only [List.length_map, List.length_cons, List.length_nil]; omega)) ?_
  | with_reducible refine Fw.iteND (by first | omega | (simp only [List.length_map, List.length_cons, List.length_nil]; omega)) ?_
  | with_reducible refine Fw.iteDF (by first | omega | (simp only [List.length_map, List.length_cons, List.length_nil]; omega)) ?_
  | with_reducible refine Fw.iteNDF (by first | omega | (simp only [List.length_map, List.length_cons, List.length_nil]; omega)) ?_
  | with_reducible refine And.intro (by first | assumption | omega | (simp only [List.length_map, List.length_cons, List.length_nil]; omega)) ?_
  | fail "wp"))

theorem ok_is_integer (tx : Tx mg) : ∀ f fd, FnP K "is_integer" s_is_integer f fd → FnOk P w K mg base CX0 1 f fd ["value"] (SpF K pre_is_integer) := fun f fd F =>
  F.ok sc_is_integer (fun vs H Q E s => lenF (fun ds Φ h => by
    obtain ⟨_, rfl, _⟩ := h; rfl) s) fun cdv A outer s H vs Q E hr h => ⟨_, PSs.nox (pss_one (ps_ret (pe_and (pe_callB (id := "isinstance") call_isi (by rfl) tx.isinstance (by decide +kernel) (pa_cons (pv 0) (pa_cons (pe_bltn (v := .ty "int") (by rfl) tx.int (by decide +kernel) rfl) pa_nil))) (pe_one (pe_not (pe_callB (id := "isinstance") call_isi (by rfl) tx.isinstance (by decide +kernel) (pa_cons (pv 0) (pa_cons (pe_bltn (v := .ty "bool") (by rfl) tx.bool (by decide +kernel) rfl) pa_nil)))))))),
  bodyF h fun ds Φ hp => by
    obtain ⟨x, rfl, hx, q⟩ := hp
    cases x with
    | dict kvs =>
      cases kvs with
      | cons a r => cases hx
      | nil => (repeat' walk_at "wp") <;> exact q
    | _ => (repeat' walk_at "wp") <;> exact q
⟩
theorem has_is_integer (D : Dn K mg "is_integer" s_is_integer) (tx : Tx mg) : Has P w K mg base "is_integer" ["value"] 1 (SpF K pre_is_integer) := has_of D (fun _ _ _ _ _ _ us hl => match us, hl with | [_], _ => rfl) (ok_is_integer tx)

theorem ok_is_count (tx : Tx mg) (h_is_integer : Has P w K mg base "is_integer" ["value"] 1 (SpF K pre_is_integer)) : ∀ f fd, FnP K "is_count" s_is_count f fd → FnOk P w K mg base CX0 2 f fd ["value"] (SpF K pre_is_count) := fun f fd F =>
  F.ok sc_is_count (fun vs H Q E s => lenF (fun ds Φ h => by
    obtain ⟨_, rfl, _⟩ := h; rfl) s) fun cdv A outer s H vs Q E hr h => ⟨_, PSs.nox (pss_one (ps_ret (pe_and (pe_callH h_is_integer (hr.mono (by decide)) (by rfl) (pa_cons (pv 0) pa_nil)) (pe_one (pe_cmpR op_ge (pv 0) pe_int (nomark _)))))),
  bodyF h fun ds Φ hp => by
    obtain ⟨x, rfl, hx, q⟩ := hp
    cases x with
    | dict kvs =>
      cases kvs with
      | cons a r => cases hx
      | nil => (repeat' walk_at "wp") <;> exact q
    | int i =>
      repeat' walk_at "wp"
      exact q
    | _ => (repeat' walk_at "wp") <;> exact q
⟩
theorem has_is_count (D : Dn K mg "is_count" s_is_count) (tx : Tx mg) (h_is_integer : Has P w K mg base "is_integer" ["value"] 1 (SpF K pre_is_integer)) : Has P w K mg base "is_count" ["value"] 2 (SpF K pre_is_count) := has_of D (fun _ _ _ _ _ _ us hl => match us, hl with | [_], _ => rfl) (ok_is_count tx h_is_integer)

theorem ok_is_count_to (tx : Tx mg) (h_is_count : Has P w K mg base "is_count" ["value"] 2 (SpF K pre_is_count)) : ∀ f fd, FnP K "is_count_to" s_is_count_to f fd → FnOk P w K mg base CX0 3 f fd ["value", "most"] (SpF K pre_is_count_to) := fun f fd F =>
  F.ok sc_is_count_to (fun vs H Q E s => lenF (fun ds Φ h => by
    obtain ⟨_, _, rfl, _⟩ := h; rfl) s) fun cdv A outer s H vs Q E hr h => ⟨_, PSs.nox (pss_one (ps_ret (pe_and (pe_callH h_is_count (hr.mono (by decide)) (by rfl) (pa_cons (pv 0) pa_nil)) (pe_one (pe_cmpR op_le (pv 0) (pv 1) (nomark _)))))),
  bodyF h fun ds Φ hp => by
    obtain ⟨x, m, rfl, hx, q⟩ := hp
    cases x with
    | dict kvs =>
      cases kvs with
      | cons a r => cases hx
      | nil => (repeat' walk_at "wp") <;> exact q
    | int i =>
      have q2 : Φ (.bool (decide (0 ≤ i) && decide (i ≤ m))) := q
      repeat' walk_at "wp"
      show if decide (0 ≤ i) = true then _ else _
      by_cases h : 0 ≤ i
      · rw [decide_eq_true h, Bool.true_and] at q2
        rw [decide_eq_true h, if_pos rfl]
        repeat' walk_at "wp"
        exact q2
      · rw [decide_eq_false h, Bool.false_and] at q2
        rw [decide_eq_false h, if_neg Bool.false_ne_true]
        exact q2
    | _ => (repeat' walk_at "wp") <;> exact q
⟩
theorem has_is_count_to (D : Dn K mg "is_count_to" s_is_count_to) (tx : Tx mg) (h_is_count : Has P w K mg base "is_count" ["value"] 2 (SpF K pre_is_count)) : Has P w K mg base "is_count_to" ["value", "most"] 3 (SpF K pre_is_count_to) := has_of D (fun _ _ _ _ _ _ us hl => match us, hl with | [_, _], _ => rfl) (ok_is_count_to tx h_is_count)

theorem ok_are_integers (tx : Tx mg) (h_is_integer : Has P w K mg base "is_integer" ["value"] 1 (SpF K pre_is_integer)) : ∀ f fd, FnP K "are_integers" s_are_integers f fd → FnOk P w K mg base CX0 2 f fd ["value", "many"] (SpF K pre_are_integers) := fun f fd F =>
  F.ok sc_are_integers (fun vs H Q E s => lenF (fun ds Φ h => by
    obtain ⟨_, _, rfl, _⟩ := h; rfl) s) fun cdv A outer s H vs Q E hr h => ⟨_, PSs.nox (pss_one (ps_ret (pe_and (pe_callB (id := "isinstance") call_isi (by rfl) tx.isinstance (by decide +kernel) (pa_cons (pv 0) (pa_cons (pe_bltn (v := .ty "tuple") (by rfl) tx.tuple (by decide +kernel) rfl) pa_nil))) (pe_and (pe_cmpR op_eq (pe_callB (id := "len") call_len_seq (by rfl) tx.len (by decide +kernel) (pa_cons (pv 0) pa_nil)) (pv 1) (nomark _)) (pe_one (pe_callB (id := "all") (cr_all rfl) (by rfl) tx.all (by decide +kernel) (pa_cons (pe_lc (own := [("number", 2)]) (g := gName 2) (by rfl) sc_are_integers.nd (pi_tup (pv 0)) (blkOk_by (N := N_are_integers) (sc := defScope s_are_integers) (by decide +kernel)) (fun _ _ _ _ _ => (pg_name (i := 2) sc_are_integers.nd rfl (by first | exact Or.inl rfl | exact Or.inr rfl))) (fun _ _ _ _ _ => pts_nil) (fun _ _ _ _ _ => (pe_callH h_is_integer (hr.mono (by decide)) (by rfl) (pa_cons (pv 2) pa_nil)))) pa_nil))))))),
  bodyF h fun ds Φ hp => by
    obtain ⟨x, n, rfl, hl, q⟩ := hp
    cases x with
    | tuple xs =>
      have hz : xs.length ≤ 1000 := hl.1
      have hp := hl.2
      repeat' walk_at "wp"
      refine iteB (fun e => ?_) (fun e => ?_)
      · repeat' walk_at "wp"
        refine e_mapT (fun y => .bool (isInt y)) rfl (by omega) (fun y hy => ?_) ?_
        · repeat' walk_at "wp"
          exact ⟨List.all_eq_true.mp hp y hy, rfl⟩
        · refine a_nil (cb_all_ _ (map_bools xs) ?_)
          rw [all_map_id]
          have q2 : Φ (.bool (decide ((xs.length : Int) = n) && xs.all isInt)) := q
          rw [e, Bool.true_and] at q2
          exact q2
      · have q2 : Φ (.bool (decide ((xs.length : Int) = n) && xs.all isInt)) := q
        rw [e, Bool.false_and] at q2
        exact q2
    | dict kvs =>
      cases kvs with
      | cons a r => exact hl.elim
      | nil => (repeat' walk_at "wp") <;> exact q
    | _ => (repeat' walk_at "wp") <;> exact q
⟩
theorem has_are_integers (D : Dn K mg "are_integers" s_are_integers) (tx : Tx mg) (h_is_integer : Has P w K mg base "is_integer" ["value"] 1 (SpF K pre_is_integer)) : Has P w K mg base "are_integers" ["value", "many"] 2 (SpF K pre_are_integers) := has_of D (fun _ _ _ _ _ _ us hl => match us, hl with | [_, _], _ => rfl) (ok_are_integers tx h_is_integer)

theorem ok_are_counts (tx : Tx mg) (h_is_count_to : Has P w K mg base "is_count_to" ["value", "most"] 3 (SpF K pre_is_count_to)) : ∀ f fd, FnP K "are_counts" s_are_counts f fd → FnOk P w K mg base CX0 4 f fd ["value", "many", "most"] (SpF K pre_are_counts) := fun f fd F =>
  F.ok sc_are_counts (fun vs H Q E s => lenF (fun ds Φ h => by
    obtain ⟨_, _, _, rfl, _⟩ := h; rfl) s) fun cdv A outer s H vs Q E hr h => ⟨_, PSs.nox (pss_one (ps_ret (pe_and (pe_callB (id := "isinstance") call_isi (by rfl) tx.isinstance (by decide +kernel) (pa_cons (pv 0) (pa_cons (pe_bltn (v := .ty "tuple") (by rfl) tx.tuple (by decide +kernel) rfl) pa_nil))) (pe_and (pe_cmpR op_eq (pe_callB (id := "len") call_len_seq (by rfl) tx.len (by decide +kernel) (pa_cons (pv 0) pa_nil)) (pv 1) (nomark _)) (pe_one (pe_callB (id := "all") (cr_all rfl) (by rfl) tx.all (by decide +kernel) (pa_cons (pe_lc (own := [("count", 3)]) (g := gName 3) (by rfl) sc_are_counts.nd (pi_tup (pv 0)) (blkOk_by (N := N_are_counts) (sc := defScope s_are_counts) (by decide +kernel)) (fun _ _ _ _ _ => (pg_name (i := 3) sc_are_counts.nd rfl (by first | exact Or.inl rfl | exact Or.inr rfl))) (fun _ _ _ _ _ => pts_nil) (fun _ _ _ _ _ => (pe_callH h_is_count_to (hr.mono (by decide)) (by rfl) (pa_cons (pv 3) (pa_cons (pv 2) pa_nil))))) pa_nil))))))),
  bodyF h fun ds Φ hp => by
    obtain ⟨x, n, m, rfl, hl, q⟩ := hp
    cases x with
    | tuple xs =>
      have hz : xs.length ≤ 1000 := hl.1
      have hp := hl.2
      repeat' walk_at "wp"
      refine iteB (fun e => ?_) (fun e => ?_)
      · repeat' walk_at "wp"
        refine e_mapT (fun y => .bool (isCnt m y)) rfl (by omega) (fun y hy => ?_) ?_
        · repeat' walk_at "wp"
          exact ⟨List.all_eq_true.mp hp y hy, rfl⟩
        · refine a_nil (cb_all_ (xs.map (isCnt m)) (by rw [List.map_map]; rfl) ?_)
          rw [all_map_id]
          have q2 : Φ (.bool (decide ((xs.length : Int) = n) && xs.all (isCnt m))) := q
          rw [e, Bool.true_and] at q2
          exact q2
      · have q2 : Φ (.bool (decide ((xs.length : Int) = n) && xs.all (isCnt m))) := q
        rw [e, Bool.false_and] at q2
        exact q2
    | dict kvs =>
      cases kvs with
      | cons a r => exact hl.elim
      | nil => (repeat' walk_at "wp") <;> exact q
    | _ => (repeat' walk_at "wp") <;> exact q
⟩
theorem has_are_counts (D : Dn K mg "are_counts" s_are_counts) (tx : Tx mg) (h_is_count_to : Has P w K mg base "is_count_to" ["value", "most"] 3 (SpF K pre_is_count_to)) : Has P w K mg base "are_counts" ["value", "many", "most"] 4 (SpF K pre_are_counts) := has_of D (fun _ _ _ _ _ _ us hl => match us, hl with | [_, _, _], _ => rfl) (ok_are_counts tx h_is_count_to)

theorem ok_is_listed (tx : Tx mg) : ∀ f fd, FnP K "is_listed" s_is_listed f fd → FnOk P w K mg base CX0 1 f fd ["value"] (SpF K pre_is_listed) := fun f fd F =>
  F.ok sc_is_listed (fun vs H Q E s => lenF (fun ds Φ h => by
    obtain ⟨_, rfl, _⟩ := h; rfl) s) fun cdv A outer s H vs Q E hr h => ⟨_, PSs.nox (pss_one (ps_ret (pe_callB (id := "isinstance") call_isiT (by rfl) tx.isinstance (by decide +kernel) (pa_cons (pv 0) (pa_cons (pe_tup (pa_cons (pe_bltn (v := .ty "list") (by rfl) tx.list (by decide +kernel) rfl) (pa_cons (pe_bltn (v := .ty "tuple") (by rfl) tx.tuple (by decide +kernel) rfl) pa_nil))) pa_nil))))),
  bodyF h fun ds Φ hp => by
    obtain ⟨x, rfl, hx, q⟩ := hp
    cases x with
    | dict kvs =>
      cases kvs with
      | cons a r => cases hx
      | nil => (repeat' walk_at "wp") <;> exact q
    | _ => (repeat' walk_at "wp") <;> exact q
⟩
theorem has_is_listed (D : Dn K mg "is_listed" s_is_listed) (tx : Tx mg) : Has P w K mg base "is_listed" ["value"] 1 (SpF K pre_is_listed) := has_of D (fun _ _ _ _ _ _ us hl => match us, hl with | [_], _ => rfl) (ok_is_listed tx)

theorem ok_is_rising (tx : Tx mg) : ∀ f fd, FnP K "is_rising" s_is_rising f fd → FnOk P w K mg base CX0 1 f fd ["values"] (SpF K pre_is_rising) := fun f fd F =>
  F.ok sc_is_rising (fun vs H Q E s => lenF (fun ds Φ h => by
    obtain ⟨_, _, rfl, _⟩ := h; rfl) s) fun cdv A outer s H vs Q E hr h => ⟨_, PSs.nox (pss_one (ps_ret (pe_callB (id := "all") (cr_all rfl) (by rfl) tx.all (by decide +kernel) (pa_cons (pe_lc (own := [("at", 1)]) (g := gName 1) (by rfl) sc_is_rising.nd (pi_range1 (by rfl) tx.range (pa_cons (pe_op op_sub (pe_callB (id := "len") call_len_seq (by rfl) tx.len (by decide +kernel) (pa_cons (pv 0) pa_nil)) pe_int) pa_nil)) (blkOk_by (N := N_is_rising) (sc := defScope s_is_rising) (by decide +kernel)) (fun _ _ _ _ _ => (pg_name (i := 1) sc_is_rising.nd rfl (by first | exact Or.inl rfl | exact Or.inr rfl))) (fun _ _ _ _ _ => pts_nil) (fun _ _ _ _ _ => (pe_cmpR (r := FwS.rOrd K PySem.W.dataLt) (FwS.op_ltD (hu64 hr)) (FwK.pe_or (pe_ix (r := rIxL K) ix_list (pv 0) (pv 1) (fun _ _ => rfl)) (pe_ix (r := rIxT K) ix_tup (pv 0) (pv 1) (fun _ _ => rfl))) (FwK.pe_or (pe_ix (r := rIxL K) ix_list (pv 0) (pe_op op_add (pv 1) pe_int) (fun _ _ => rfl)) (pe_ix (r := rIxT K) ix_tup (pv 0) (pe_op op_add (pv 1) pe_int) (fun _ _ => rfl))) (nomark _)))) pa_nil)))),
  bodyF h fun ds Φ hp => by
    obtain ⟨ms, x, rfl, hx, hl, q⟩ := hp
    rcases hx with rfl | rfl
    · repeat' walk_at "wp"
      refine e_map (js := [1]) (fun k hk => by rw [List.mem_singleton.mp hk]; decide) (i_rng1 (a_cons (e_op (e_cb (a_cons (e_var rfl (a_nil (cb_len_ (.inl rfl) (e_int (od_sub (a_nil ⟨_, rfl, ?_, ?_, ?_, fun y => .bool (ltAt ms (toI y).toNat), fun i x hx => g_name ?_, ?_⟩)))))))))))
      · rw [List.length_map]; omega
      · rw [List.length_map]; omega
      · rw [rng_len, List.length_map]; omega
      · have hi : i < ((List.map (fun m => tupI m) ms).length : Int) - 1 := by
          have := (List.getElem?_eq_some_iff.mp hx).1
          rw [rng_len] at this
          omega
        rw [List.length_map] at hi
        have hx2 : x = .int (i : Nat) := by
          rw [rng_get (by rw [List.length_map]; omega)] at hx
          have := Option.some.inj hx
          rw [← this]
          simp
        subst hx2
        have ha : ms[i]? = some (ms[i]'(by omega)) := List.getElem?_eq_getElem (by omega)
        have hb : ms[i + 1]? = some (ms[i + 1]'(by omega)) := List.getElem?_eq_getElem (by omega)
        repeat' walk_at "wp"
        refine e_or2 ?_
        repeat' walk_at "wp"
        refine od_ixT_ (rows_at ha) ?_
        refine e_or2 ?_
        repeat' walk_at "wp"
        refine od_ixT_ (rows_at (k := i + 1) hb) ?_
        refine od_ord (alike_row _ _) (fun z => nomatch z) (deep_row _) (noDict_row _) (noDict_row _) ?_
        rw [FwW.lt_rows]
        show PyData.bool _ = PyData.bool (ltAt ms ((i : Int)).toNat)
        rw [Int.toNat_natCast]
        unfold ltAt
        rw [ha, hb]
      · refine a_nil (cb_all_ ((List.range (ms.length - 1)).map (ltAt ms)) ?_ ?_)
        · unfold rng
          rw [List.map_map, List.map_map, List.length_map]
          have e : ((ms.length : Int) - 1).toNat = ms.length - 1 := by omega
          rw [e]
          refine List.map_congr_left fun i _ => ?_
          show PyData.bool (ltAt ms ((0 + (i : Int))).toNat) = PyData.bool (ltAt ms i)
          rw [show (0 + (i : Int)).toNat = i by omega]
        · rw [all_map_id]
          exact q
    · repeat' walk_at "wp"
      refine e_map (js := [1]) (fun k hk => by rw [List.mem_singleton.mp hk]; decide) (i_rng1 (a_cons (e_op (e_cb (a_cons (e_var rfl (a_nil (cb_len_ (.inr rfl) (e_int (od_sub (a_nil ⟨_, rfl, ?_, ?_, ?_, fun y => .bool (ltAt ms (toI y).toNat), fun i x hx => g_name ?_, ?_⟩)))))))))))
      · rw [List.length_map]; omega
      · rw [List.length_map]; omega
      · rw [rng_len, List.length_map]; omega
      · have hi : i < ((List.map (fun m => tupI m) ms).length : Int) - 1 := by
          have := (List.getElem?_eq_some_iff.mp hx).1
          rw [rng_len] at this
          omega
        rw [List.length_map] at hi
        have hx2 : x = .int (i : Nat) := by
          rw [rng_get (by rw [List.length_map]; omega)] at hx
          have := Option.some.inj hx
          rw [← this]
          simp
        subst hx2
        have ha : ms[i]? = some (ms[i]'(by omega)) := List.getElem?_eq_getElem (by omega)
        have hb : ms[i + 1]? = some (ms[i + 1]'(by omega)) := List.getElem?_eq_getElem (by omega)
        repeat' walk_at "wp"
        refine e_or1 ?_
        repeat' walk_at "wp"
        refine od_ixL_ (rows_at ha) ?_
        refine e_or1 ?_
        repeat' walk_at "wp"
        refine od_ixL_ (rows_at (k := i + 1) hb) ?_
        refine od_ord (alike_row _ _) (fun z => nomatch z) (deep_row _) (noDict_row _) (noDict_row _) ?_
        rw [FwW.lt_rows]
        show PyData.bool _ = PyData.bool (ltAt ms ((i : Int)).toNat)
        rw [Int.toNat_natCast]
        unfold ltAt
        rw [ha, hb]
      · refine a_nil (cb_all_ ((List.range (ms.length - 1)).map (ltAt ms)) ?_ ?_)
        · unfold rng
          rw [List.map_map, List.map_map, List.length_map]
          have e : ((ms.length : Int) - 1).toNat = ms.length - 1 := by omega
          rw [e]
          refine List.map_congr_left fun i _ => ?_
          show PyData.bool (ltAt ms ((0 + (i : Int))).toNat) = PyData.bool (ltAt ms i)
          rw [show (0 + (i : Int)).toNat = i by omega]
        · rw [all_map_id]
          exact q
⟩
theorem has_is_rising (D : Dn K mg "is_rising" s_is_rising) (tx : Tx mg) : Has P w K mg base "is_rising" ["values"] 1 (SpF K pre_is_rising) := has_of D (fun _ _ _ _ _ _ us hl => match us, hl with | [_], _ => rfl) (ok_is_rising tx)

theorem ok_first_place (tx : Tx mg) : ∀ f fd, FnP K "first_place" s_first_place f fd → FnOk P w K mg base CX0 1 f fd ["row"] (SpF K pre_first_place) := fun f fd F =>
  F.ok sc_first_place (fun vs H Q E s => lenF (fun ds Φ h => by
    obtain ⟨_, rfl, _⟩ := h; rfl) s) fun cdv A outer s H vs Q E hr h => ⟨_, PSs.nox (pss_cons (ps_for PassesOwn.never rfl (FwE.pi_enumT (by rfl) tx.enumerate (pa_cons (pv 0) pa_nil)) (pg_tup (by rfl) (pgs_cons (pg_name (i := 1) sc_first_place.nd rfl (.inl rfl)) (pgs_cons (pg_name (i := 2) sc_first_place.nd rfl (.inl rfl)) pgs_nil))) (pss_one (ps_if (pt_cmpR op_ne (pv 2) pe_int (nomark _)) (pss_one (ps_ret (pv 1))) pss_nil)))
    (pss_one (ps_ret pe_non))),
  bodyF h fun ds Φ hp => by
    obtain ⟨ns, rfl, hl, q⟩ := hp
    refine s_seq (s_for (js := [1] ++ ([2] ++ [])) (i_enumT_ (a_cons (e_var rfl (a_nil ⟨_, rfl, fun i e => (∀ j, j < i → ns[j]? = some 0) ∧ ∃ a b, e = [.dat (tupI ns), a, b], ⟨fun j hj => absurd hj (Nat.not_lt_zero _), _, _, rfl⟩, fun i x e hx => ?_, ?_⟩)))))
    · rintro ⟨zs, a, b, rfl⟩
      have hlt : i < ns.length := by
        have := (List.getElem?_eq_some_iff.mp hx).1
        rw [enumD_len, List.length_map] at this
        exact this
      have e1 := enumD_get (xs := ns.map .int) (i := i) (x := .int ns[i]) (by rw [List.getElem?_map, List.getElem?_eq_getElem hlt]; rfl)
      rw [e1] at hx
      cases hx
      refine g_tup_ [_, _] rfl rfl (g_cons (g_name (g_cons (g_name (g_nil ?_)))))
      repeat' walk_at "wp"
      refine iteNP (fun h => ?_) (fun h => ?_)
      · repeat' walk_at "wp"
        have e : ns.findIdx? (fun n => decide (n ≠ 0)) = some i := by
          rw [List.findIdx?_eq_some_iff_getElem]
          refine ⟨hlt, by simpa using h, fun j hj => ?_⟩
          have := zs j hj
          have hj' : j < ns.length := by omega
          rw [List.getElem?_eq_getElem hj'] at this
          rw [Option.some.inj this]
          decide
        have q2 := q
        unfold firstD at q2
        rw [e] at q2
        exact q2
      · repeat' walk_at "wp"
        refine ⟨fun j hj => ?_, _, _, rfl⟩
        by_cases hj2 : j < i
        · exact zs j hj2
        · have : j = i := by omega
          subst this
          rw [List.getElem?_eq_getElem hlt, h]
    · rintro e ⟨zs, a, b, rfl⟩
      repeat' walk_at "wp"
      rw [enumD_len, List.length_map] at zs
      have e : ns.findIdx? (fun n => decide (n ≠ 0)) = none := by
        rw [List.findIdx?_eq_none_iff]
        intro x hx
        obtain ⟨j, hj, rfl⟩ := List.getElem_of_mem hx
        have := zs j hj
        rw [List.getElem?_eq_getElem hj] at this
        rw [Option.some.inj this]
        decide
      have q2 := q
      unfold firstD at q2
      rw [e] at q2
      exact q2
⟩
theorem has_first_place (D : Dn K mg "first_place" s_first_place) (tx : Tx mg) : Has P w K mg base "first_place" ["row"] 1 (SpF K pre_first_place) := has_of D (fun _ _ _ _ _ _ us hl => match us, hl with | [_], _ => rfl) (ok_first_place tx)

theorem ok_put_on (tx : Tx mg) : ∀ f fd, FnP K "put_on" s_put_on f fd → FnOk P w K mg base CX0 1 f fd ["row", "many", "other"] (SpF K pre_put_on) := fun f fd F =>
  F.ok sc_put_on (fun vs H Q E s => lenF (fun ds Φ h => by
    obtain ⟨_, _, _, rfl, _⟩ := h; rfl) s) fun cdv A outer s H vs Q E hr h => ⟨_, PSs.nox (pss_one (ps_ret (pe_callTy call_tuple_of (by rfl) tx.tuple (by decide +kernel) (pa_cons (pe_lc (own := [("number", 3), ("more", 4)]) (g := gTup K 2 (gCons (gName 3) (gCons (gName 4) gNil))) (by rfl) sc_put_on.nd (RZ.pi_zipA (by rfl) tx.zip (pa_cons (pv 0) (pa_cons (pv 2) pa_nil))) (blkOk_by (N := N_put_on) (sc := defScope s_put_on) (by decide +kernel)) (fun _ _ _ _ _ => (pg_tup (by rfl) (pgs_cons (pg_name (i := 3) sc_put_on.nd rfl (by first | exact Or.inl rfl | exact Or.inr rfl)) (pgs_cons (pg_name (i := 4) sc_put_on.nd rfl (by first | exact Or.inl rfl | exact Or.inr rfl)) pgs_nil)))) (fun _ _ _ _ _ => pts_nil) (fun _ _ _ _ _ => (pe_op op_add (pv 3) (pe_op op_mul (pv 1) (pv 4))))) pa_nil)))),
  bodyF h fun ds Φ hp => by
    obtain ⟨a, b, k, rfl, al, k0, k1, q⟩ := hp
    repeat' walk_at "wp"
    refine e_mapA (js := [3] ++ ([4] ++ [])) (α := Int × Int) (fun q => .tuple [.int q.1, .int q.2]) (fun q => .int (q.1 + k * q.2)) (i_zipT_ (a_cons (e_var rfl (a_cons (e_var rfl (a_nil ⟨_, _, rfl, a.zip b, zipD_zip _ _, ?_, fun x hx => g_tup_ [_, _] rfl rfl (g_cons (g_name (g_cons (g_name (g_nil ?_))))), ?_⟩))))))
    · rw [List.length_zip]; omega
    · repeat' walk_at "wp"
      · exact .inl ⟨by omega, by omega⟩
      · rfl
    · refine a_nil (cb_tuple_ (.inr rfl) ?_)
      have e : (a.zip b).map (fun q => PyData.int (q.1 + k * q.2)) = (addI k a b).map .int := by
        unfold addI
        rw [← zw_zip, List.map_map]
        rfl
      rw [e]
      exact q
⟩
theorem has_put_on (D : Dn K mg "put_on" s_put_on) (tx : Tx mg) : Has P w K mg base "put_on" ["row", "many", "other"] 1 (SpF K pre_put_on) := has_of D (fun _ _ _ _ _ _ us hl => match us, hl with | [_, _, _], _ => rfl) (ok_put_on tx)

theorem ok_inner (tx : Tx mg) : ∀ f fd, FnP K "inner" s_inner f fd → FnOk P w K mg base CX0 1 f fd ["row", "other"] (SpF K pre_inner) := fun f fd F =>
  F.ok sc_inner (fun vs H Q E s => lenF (fun ds Φ h => by
    obtain ⟨_, _, rfl, _⟩ := h; rfl) s) fun cdv A outer s H vs Q E hr h => ⟨_, PSs.nox (pss_one (ps_ret (pe_callB (id := "sum") (cr_sum rfl) (by rfl) tx.sum (by decide +kernel) (pa_cons (pe_lc (own := [("number", 2), ("by", 3)]) (g := gTup K 2 (gCons (gName 2) (gCons (gName 3) gNil))) (by rfl) sc_inner.nd (RZ.pi_zipA (by rfl) tx.zip (pa_cons (pv 0) (pa_cons (pv 1) pa_nil))) (blkOk_by (N := N_inner) (sc := defScope s_inner) (by decide +kernel)) (fun _ _ _ _ _ => (pg_tup (by rfl) (pgs_cons (pg_name (i := 2) sc_inner.nd rfl (by first | exact Or.inl rfl | exact Or.inr rfl)) (pgs_cons (pg_name (i := 3) sc_inner.nd rfl (by first | exact Or.inl rfl | exact Or.inr rfl)) pgs_nil)))) (fun _ _ _ _ _ => pts_nil) (fun _ _ _ _ _ => (pe_op op_mul (pv 2) (pv 3)))) pa_nil)))),
  bodyF h fun ds Φ hp => by
    obtain ⟨row, other, rfl, hb, hl, q⟩ := hp
    repeat' walk_at "wp"
    refine e_mapZ (fun a b => .int (toI a * toI b)) rfl rfl (by rw [List.length_map]; omega) (fun a b ha hb' => ?_) ?_
    · obtain ⟨x, hx, rfl⟩ := List.mem_map.mp ha
      obtain ⟨y, _, rfl⟩ := List.mem_map.mp hb'
      repeat' walk_at "wp"
      · have := hb x hx
        exact .inl ⟨by omega, by omega⟩
      · rfl
    · exact a_nil (cb_sum_ (List.zipWith (fun a b => a * b) row other) (zip_ints (fun a b => a * b) row other) q)
⟩
theorem has_inner (D : Dn K mg "inner" s_inner) (tx : Tx mg) : Has P w K mg base "inner" ["row", "other"] 1 (SpF K pre_inner) := has_of D (fun _ _ _ _ _ _ us hl => match us, hl with | [_, _], _ => rfl) (ok_inner tx)

theorem ok_is_frame (tx : Tx mg) (h_are_counts : Has P w K mg base "are_counts" ["value", "many", "most"] 4 (SpF K pre_are_counts)) : ∀ f fd, FnP K "is_frame" s_is_frame f fd → FnOk P w K mg base CX0 5 f fd ["value"] (SpF K pre_is_frame) := fun f fd F =>
  F.ok sc_is_frame (fun vs H Q E s => lenF (fun ds Φ h => by
    obtain ⟨_, _, rfl, _⟩ := h; rfl) s) fun cdv A outer s H vs Q E hr h => ⟨_, PSs.nox (pss_cons (ps_if (PW.pt (pw_or (pt_not (pt_val (pe_callB (id := "isinstance") call_isi (by rfl) tx.isinstance (by decide +kernel) (pa_cons (pv 0) (pa_cons (pe_bltn (v := .ty "tuple") (by rfl) tx.tuple (by decide +kernel) rfl) pa_nil))))) (pw_or1 (pt_cmpR op_ne (pe_callB (id := "len") call_len_seq (by rfl) tx.len (by decide +kernel) (pa_cons (pv 0) pa_nil)) pe_int (nomark _))))) (pss_one (ps_ret pe_bl)) pss_nil)
    (pss_cons (ps_asg (pv 0) (pg_tup (by rfl) (pgs_cons (pg_name (i := 1) sc_is_frame.nd rfl (.inl rfl)) (pgs_cons (pg_name (i := 2) sc_is_frame.nd rfl (.inr rfl)) pgs_nil))))
    (pss_cons (ps_if (PW.pt (pw_or (pt_not (pt_val (pe_callB (id := "isinstance") call_isi (by rfl) tx.isinstance (by decide +kernel) (pa_cons (pv 1) (pa_cons (pe_bltn (v := .ty "str") (by rfl) tx.str (by decide +kernel) rfl) pa_nil))))) (pw_or1 (pt_cmpR op_ne (pv 1) pe_str (nomark _))))) (pss_one (ps_ret pe_bl)) pss_nil)
    (pss_cons (ps_if (PW.pt (pw_or (pt_not (pt_val (pe_callB (id := "isinstance") call_isi (by rfl) tx.isinstance (by decide +kernel) (pa_cons (pv 2) (pa_cons (pe_bltn (v := .ty "tuple") (by rfl) tx.tuple (by decide +kernel) rfl) pa_nil))))) (pw_or1 (pt_not (pt_chain op_le op_le pe_int (pe_callB (id := "len") call_len_seq (by rfl) tx.len (by decide +kernel) (pa_cons (pv 2) pa_nil)) (pe_glob (v := .int 16) (by rfl) tx.MOST_FRAME_ROWS.choose_spec ⟨_, rfl⟩)))))) (pss_one (ps_ret pe_bl)) pss_nil)
    (pss_cons (ps_if (PW.pt (pw_or (pt_not (pt_val (pe_callB (id := "isinstance") call_isi (by rfl) tx.isinstance (by decide +kernel) (pa_cons (pe_ix ix_tup (pv 2) pe_int (fun _ _ => rfl)) (pa_cons (pe_bltn (v := .ty "tuple") (by rfl) tx.tuple (by decide +kernel) rfl) pa_nil))))) (pw_or1 (pt_not (pt_chain op_le op_le pe_int (pe_callB (id := "len") call_len_seq (by rfl) tx.len (by decide +kernel) (pa_cons (pe_ix ix_tup (pv 2) pe_int (fun _ _ => rfl)) pa_nil)) (pe_glob (v := .int 16) (by rfl) tx.MOST_CELLS.choose_spec ⟨_, rfl⟩)))))) (pss_one (ps_ret pe_bl)) pss_nil)
    (pss_cons (ps_set (i := 3) sc_is_frame.nd rfl (.inr rfl) (pe_callB (id := "len") call_len_seq (by rfl) tx.len (by decide +kernel) (pa_cons (pe_ix ix_tup (pv 2) pe_int (fun _ _ => rfl)) pa_nil)))
    (pss_cons (ps_if (pt_not (pt_val (pe_callB (id := "all") (cr_all rfl) (by rfl) tx.all (by decide +kernel) (pa_cons (pe_lc (own := [("row", 5)]) (g := gName 5) (by rfl) sc_is_frame.nd (pi_tup (pv 2)) (blkOk_by (N := N_is_frame) (sc := defScope s_is_frame) (by decide +kernel)) (fun _ _ _ _ _ => (pg_name (i := 5) sc_is_frame.nd rfl (by first | exact Or.inl rfl | exact Or.inr rfl))) (fun _ _ _ _ _ => pts_nil) (fun _ _ _ _ _ => (pe_callH h_are_counts (hr.mono (by decide)) (by rfl) (pa_cons (pv 5) (pa_cons (pv 3) (pa_cons (pe_glob (v := .int 9) (by rfl) tx.MOST_IN_FRAME.choose_spec ⟨_, rfl⟩) pa_nil)))))) pa_nil)))) (pss_one (ps_ret pe_bl)) pss_nil)
    (pss_one (ps_ret (pe_callB (id := "all") (cr_all rfl) (by rfl) tx.all (by decide +kernel) (pa_cons (pe_lc (own := [("cell", 4)]) (g := gName 4) (by rfl) sc_is_frame.nd (pi_range1 (by rfl) tx.range (pa_cons (pv 3) pa_nil)) (blkOk_by (N := N_is_frame) (sc := defScope s_is_frame) (by decide +kernel)) (fun _ _ _ _ _ => (pg_name (i := 4) sc_is_frame.nd rfl (by first | exact Or.inl rfl | exact Or.inr rfl))) (fun _ _ _ _ _ => pts_nil) (fun _ _ _ _ _ => (pe_callB (id := "any") (r := rAny K) (cr_any rfl) (by rfl) tx.any (by decide +kernel) (pa_cons (pe_lc (own := [("row", 5)]) (g := gName 5) (by rfl) sc_is_frame.nd (show PI _ _ _ (iTup K _) from (pi_tup (pv 2))) (blkOk_in (N := N_is_frame) (defScope s_is_frame) rfl rfl (by decide +kernel)) (fun _ _ _ _ _ => (pg_name (i := 5) sc_is_frame.nd rfl (by first | exact Or.inl rfl | exact Or.inr rfl))) (fun _ _ _ _ _ => pts_nil) (fun _ _ _ _ _ => (pe_cmpR op_gt (pe_ix (r := rIxT K) ix_tup (pv 5) (pv 4) (fun _ _ => rfl)) pe_int (nomark _)))) pa_nil)))) pa_nil))))))))))),
  bodyF h fun ds Φ hp => by
    obtain ⟨rows, n, rfl, r, q⟩ := hp
    have r1 := r.one
    have r2 := r.most
    have r3 := r.cells
    have r4 := r.cmost
    repeat' walk_at "wp"
    refine s_asgG (js := [1] ++ ([2] ++ [])) (e_var rfl (g_tup_ [_, _] rfl rfl (g_cons (g_name (g_cons (g_name (g_nil ?_)))))))
    repeat' walk_at "wp"
    refine iteND rfl ?_
    repeat' walk_at "wp"
    obtain ⟨a, ha⟩ : ∃ a, rows[0]? = some a := ⟨rows[0]'(by omega), List.getElem?_eq_getElem (by omega)⟩
    have ra := rows_at (k := 0) ha
    have la := r.len a (List.mem_of_getElem? ha)
    refine od_ixT_ (d := tupI a) ra ?_
    repeat' walk_at "wp"
    refine od_ixT_ (d := tupI a) ra ?_
    repeat' walk_at "wp"
    refine od_ixT_ (d := tupI a) ra ?_
    repeat' walk_at "wp"
    rw [List.length_map, la]
    refine e_map (js := [5]) (fun k hk => by rw [List.mem_singleton.mp hk]; decide) (i_tup_ (e_var rfl ⟨_, rfl, by rw [List.length_map]; omega, fun _ => .bool true, fun i x hx => g_name ?_, ?_⟩))
    · obtain ⟨m, hm, rfl⟩ := List.mem_map.mp (List.mem_of_getElem? hx)
      repeat' walk_at "wp"
      refine ⟨⟨by rw [List.length_map, r.len m hm]; omega, plain_ints m⟩, congrArg PyData.bool (cnts_of.mpr ⟨m, rfl, by rw [r.len m hm], r.size m hm⟩)⟩
    refine a_nil (cb_all_ (rows.map fun _ => true) (by rw [List.map_map, List.map_map]; rfl) ?_)
    have e1 : (rows.map fun _ => true).all id = true := by rw [all_map_id]; exact List.all_eq_true.mpr fun _ _ => rfl
    rw [e1]
    repeat' walk_at "wp"
    refine e_map (js := [4]) (fun k hk => by rw [List.mem_singleton.mp hk]; decide) (i_rng1 (a_cons (e_var rfl (a_nil ⟨_, rfl, by omega, by omega, by rw [rng_len]; omega, fun _ => .bool true, fun i x hx => g_name ?_, ?_⟩))))
    · have hi : i < n := by
        have := (List.getElem?_eq_some_iff.mp hx).1
        rw [rng_len] at this
        omega
      have hx2 : x = .int (i : Nat) := by
        rw [rng_get (by omega)] at hx
        have := Option.some.inj hx
        rw [← this]
        simp
      subst hx2
      let val : List Int → Int := fun m => match m[i]? with | some c => c | none => 0
      refine e_cb (a_cons (e_map (js := [5]) (fun k hk => by rw [List.mem_singleton.mp hk]; decide) (i_tup_ (e_var rfl ⟨_, rfl, by rw [List.length_map]; omega, fun y => match y with | .tuple xs => .bool (decide (0 < val (xs.map toI))) | d => d, fun j y hy => g_name ?_, ?_⟩))))
      · obtain ⟨m, hm, rfl⟩ := List.mem_map.mp (List.mem_of_getElem? hy)
        have lm := r.len m hm
        have hc : m[i]? = some (m[i]'(by omega)) := List.getElem?_eq_getElem (by omega)
        repeat' walk_at "wp"
        refine od_ixT_ (ints_at hc) ?_
        repeat' walk_at "wp"
        show PyData.bool _ = PyData.bool (decide (0 < val ((m.map PyData.int).map toI)))
        rw [toI_ints]
        have hv : val m = m[i]'(by omega) := by show (match m[i]? with | some c => c | none => 0) = _; rw [hc]
        rw [hv]
      · refine a_nil (cb_any_ (rows.map fun m => decide (0 < val m)) ?_ ?_)
        · rw [List.map_map, List.map_map]
          refine List.map_congr_left fun m _ => ?_
          show PyData.bool (decide (0 < val ((m.map PyData.int).map toI))) = PyData.bool (decide (0 < val m))
          rw [toI_ints]
        · obtain ⟨m, hm, c, hc, hp⟩ := r.hit i hi
          have : (rows.map fun m => decide (0 < val m)).any id = true := by
            rw [List.any_map]
            refine List.any_eq_true.mpr ⟨m, hm, ?_⟩
            have hv : val m = c := by show (match m[i]? with | some c => c | none => 0) = _; rw [hc]
            show decide (0 < val m) = true
            rw [hv]
            exact decide_eq_true hp
          rw [this]
    · refine a_nil (cb_all_ ((List.range n).map fun _ => true) ?_ ?_)
      · unfold rng
        rw [List.map_map, List.map_map, Int.toNat_natCast]
        rfl
      · have : ((List.range n).map fun _ => true).all id = true := by rw [all_map_id]; exact List.all_eq_true.mpr fun _ _ => rfl
        rw [this]
        exact q
⟩
theorem has_is_frame (D : Dn K mg "is_frame" s_is_frame) (tx : Tx mg) (h_are_counts : Has P w K mg base "are_counts" ["value", "many", "most"] 4 (SpF K pre_are_counts)) : Has P w K mg base "is_frame" ["value"] 5 (SpF K pre_is_frame) := has_of D (fun _ _ _ _ _ _ us hl => match us, hl with | [_], _ => rfl) (ok_is_frame tx h_are_counts)

theorem ok_check_frame (tx : Tx mg) (h_is_frame : Has P w K mg base "is_frame" ["value"] 5 (SpF K pre_is_frame)) : ∀ f fd, FnP K "check_frame" s_check_frame f fd → FnOk P w K mg base CX0 6 f fd ["value"] (SpF K pre_check_frame) := fun f fd F =>
  F.ok sc_check_frame (fun vs H Q E s => lenF (fun ds Φ h => by
    obtain ⟨_, _, rfl, _⟩ := h; rfl) s) fun cdv A outer s H vs Q E hr h => ⟨_, PSs.nox (pss_one (ps_if (pt_not (pt_val (pe_callH h_is_frame (hr.mono (by decide)) (by rfl) (pa_cons (pv 0) pa_nil)))) (pss_one ps_never) pss_nil)),
  bodyF h fun ds Φ hp => by
    obtain ⟨rows, n, rfl, r, q⟩ := hp
    repeat' walk_at "wp"
    refine ⟨rows, n, rfl, r, ?_⟩
    repeat' walk_at "wp"
    exact q
⟩
theorem has_check_frame (D : Dn K mg "check_frame" s_check_frame) (tx : Tx mg) (h_is_frame : Has P w K mg base "is_frame" ["value"] 5 (SpF K pre_is_frame)) : Has P w K mg base "check_frame" ["value"] 6 (SpF K pre_check_frame) := has_of D (fun _ _ _ _ _ _ us hl => match us, hl with | [_], _ => rfl) (ok_check_frame tx h_is_frame)

theorem ok_cells_of (tx : Tx mg) : ∀ f fd, FnP K "cells_of" s_cells_of f fd → FnOk P w K mg base CX0 1 f fd ["frame"] (SpF K pre_cells_of) := fun f fd F =>
  F.ok sc_cells_of (fun vs H Q E s => lenF (fun ds Φ h => by
    obtain ⟨_, _, rfl, _⟩ := h; rfl) s) fun cdv A outer s H vs Q E hr h => ⟨_, PSs.nox (pss_one (ps_ret (pe_callB (id := "len") call_len_seq (by rfl) tx.len (by decide +kernel) (pa_cons (pe_ix ix_tup (pe_ix ix_tup (pv 0) pe_int (fun _ _ => rfl)) pe_int (fun _ _ => rfl)) pa_nil)))),
  bodyF h fun ds Φ hp => by
    obtain ⟨rows, n, rfl, r, q⟩ := hp
    have r1 := r.one
    repeat' walk_at "wp"
    refine od_ixT_ (d := rowsT rows) rfl ?_
    repeat' walk_at "wp"
    obtain ⟨a, rest, rfl⟩ : ∃ a rest, rows = a :: rest := by
      cases rows with
      | nil => simp at r1
      | cons a rest => exact ⟨a, rest, rfl⟩
    refine od_ixT_ (d := tupI a) (rows_at (k := 0) rfl) ?_
    have la := r.len a (by simp)
    repeat' walk_at "wp"
    rw [List.length_map, la]
    exact q
⟩
theorem has_cells_of (D : Dn K mg "cells_of" s_cells_of) (tx : Tx mg) : Has P w K mg base "cells_of" ["frame"] 1 (SpF K pre_cells_of) := has_of D (fun _ _ _ _ _ _ us hl => match us, hl with | [_], _ => rfl) (ok_cells_of tx)

theorem ok_sums_by (tx : Tx mg) (h_inner : Has P w K mg base "inner" ["row", "other"] 1 (SpF K pre_inner)) : ∀ f fd, FnP K "sums_by" s_sums_by f fd → FnOk P w K mg base CX0 2 f fd ["frame", "numbers"] (SpF K pre_sums_by) := fun f fd F =>
  F.ok sc_sums_by (fun vs H Q E s => lenF (fun ds Φ h => by
    obtain ⟨_, _, _, rfl, _⟩ := h; rfl) s) fun cdv A outer s H vs Q E hr h => ⟨_, PSs.nox (pss_one (ps_ret (pe_callTy call_tuple_of (by rfl) tx.tuple (by decide +kernel) (pa_cons (pe_lc (own := [("row", 2)]) (g := gName 2) (by rfl) sc_sums_by.nd (pi_tup (pe_ix ix_tup (pv 0) pe_int (fun _ _ => rfl))) (blkOk_by (N := N_sums_by) (sc := defScope s_sums_by) (by decide +kernel)) (fun _ _ _ _ _ => (pg_name (i := 2) sc_sums_by.nd rfl (by first | exact Or.inl rfl | exact Or.inr rfl))) (fun _ _ _ _ _ => pts_nil) (fun _ _ _ _ _ => (pe_callH h_inner (hr.mono (by decide)) (by rfl) (pa_cons (pv 2) (pa_cons (pv 1) pa_nil))))) pa_nil)))),
  bodyF h fun ds Φ hp => by
    obtain ⟨rows, n, ns, rfl, r, q⟩ := hp
    have r2 := r.most
    have r3 := r.cmost
    repeat' walk_at "wp"
    refine e_map (js := [2]) (fun k hk => by rw [List.mem_singleton.mp hk]; decide) (i_tup_ (e_op (e_var rfl (e_int (od_ixT_ (d := rowsT rows) rfl ⟨_, rfl, by rw [List.length_map]; omega, fun y => match y with | .tuple xs => .int (innerI (xs.map toI) ns) | d => d, fun i x hx => g_name ?_, ?_⟩)))))
    · obtain ⟨m, hm, rfl⟩ := List.mem_map.mp (List.mem_of_getElem? hx)
      have sz := r.size m hm
      have lm := r.len m hm
      repeat' walk_at "wp"
      refine ⟨fun a ha => by have := sz a ha; omega, by omega, ?_⟩
      show PyData.int _ = PyData.int (innerI ((m.map PyData.int).map toI) ns)
      rw [toI_ints]
    · repeat' walk_at "wp"
      have e : PyData.tuple ((rows.map fun m => tupI m).map fun y => match y with | .tuple xs => .int (innerI (xs.map toI) ns) | d => d) = tupI (sumsI rows ns) := by
        unfold sumsI
        rw [tupI, List.map_map, List.map_map]
        congr 1
        refine List.map_congr_left fun m _ => ?_
        show PyData.int (innerI ((m.map PyData.int).map toI) ns) = _
        rw [toI_ints]
        rfl
      rw [e]
      exact q
⟩
theorem has_sums_by (D : Dn K mg "sums_by" s_sums_by) (tx : Tx mg) (h_inner : Has P w K mg base "inner" ["row", "other"] 1 (SpF K pre_inner)) : Has P w K mg base "sums_by" ["frame", "numbers"] 2 (SpF K pre_sums_by) := has_of D (fun _ _ _ _ _ _ us hl => match us, hl with | [_, _], _ => rfl) (ok_sums_by tx h_inner)

theorem ok_is_change_by (tx : Tx mg) (h_are_integers : Has P w K mg base "are_integers" ["value", "many"] 2 (SpF K pre_are_integers)) (h_cells_of : Has P w K mg base "cells_of" ["frame"] 1 (SpF K pre_cells_of)) (h_first_place : Has P w K mg base "first_place" ["row"] 1 (SpF K pre_first_place)) (h_sums_by : Has P w K mg base "sums_by" ["frame", "numbers"] 2 (SpF K pre_sums_by)) : ∀ f fd, FnP K "is_change_by" s_is_change_by f fd → FnOk P w K mg base CX0 3 f fd ["frame", "value"] (SpF K pre_is_change_by) := fun f fd F =>
  F.ok sc_is_change_by (fun vs H Q E s => lenF (fun ds Φ h => by
    obtain ⟨_, _, _, rfl, _⟩ := h; rfl) s) fun cdv A outer s H vs Q E hr h => ⟨_, PSs.nox (pss_one (ps_ret (pe_and (pe_callH h_are_integers (hr.mono (by decide)) (by rfl) (pa_cons (pv 1) (pa_cons (pe_callH h_cells_of (hr.mono (by decide)) (by rfl) (pa_cons (pv 0) pa_nil)) pa_nil))) (pe_one (pe_cmpR op_isN (pe_callH h_first_place (hr.mono (by decide)) (by rfl) (pa_cons (pe_callH h_sums_by (hr.mono (by decide)) (by rfl) (pa_cons (pv 0) (pa_cons (pv 1) pa_nil))) pa_nil)) pe_non (nomark _)))))),
  bodyF h fun ds Φ hp => by
    obtain ⟨rows, n, x, rfl, r, hx, q⟩ := hp
    have r2 := r.most
    repeat' walk_at "wp"
    refine ⟨rows, n, rfl, r, ?_⟩
    repeat' walk_at "wp"
    refine iteB (fun e => ?_) (fun e => ?_)
    · obtain ⟨ns, rfl, hl⟩ := ints_area e
      have q2 : Φ (.bool (areInts (tupI ns) n && zeroS rows ((ns.map PyData.int).map toI))) := q
      rw [e, Bool.true_and, toI_ints] at q2
      repeat' walk_at "wp"
      refine ⟨rows, n, ns, rfl, r, ?_⟩
      repeat' walk_at "wp"
      refine ⟨by unfold sumsI; rw [List.length_map]; omega, ?_⟩
      repeat' walk_at "wp"
      rw [first_none]
      exact q2
    · have q2 : Φ (.bool (areInts x n && _)) := q
      rw [e, Bool.false_and] at q2
      exact q2
⟩
theorem has_is_change_by (D : Dn K mg "is_change_by" s_is_change_by) (tx : Tx mg) (h_are_integers : Has P w K mg base "are_integers" ["value", "many"] 2 (SpF K pre_are_integers)) (h_cells_of : Has P w K mg base "cells_of" ["frame"] 1 (SpF K pre_cells_of)) (h_first_place : Has P w K mg base "first_place" ["row"] 1 (SpF K pre_first_place)) (h_sums_by : Has P w K mg base "sums_by" ["frame", "numbers"] 2 (SpF K pre_sums_by)) : Has P w K mg base "is_change_by" ["frame", "value"] 3 (SpF K pre_is_change_by) := has_of D (fun _ _ _ _ _ _ us hl => match us, hl with | [_, _], _ => rfl) (ok_is_change_by tx h_are_integers h_cells_of h_first_place h_sums_by)

theorem ok_is_table_of (tx : Tx mg) (h_are_counts : Has P w K mg base "are_counts" ["value", "many", "most"] 4 (SpF K pre_are_counts)) (h_cells_of : Has P w K mg base "cells_of" ["frame"] 1 (SpF K pre_cells_of)) (h_sums_by : Has P w K mg base "sums_by" ["frame", "numbers"] 2 (SpF K pre_sums_by)) : ∀ f fd, FnP K "is_table_of" s_is_table_of f fd → FnOk P w K mg base CX0 5 f fd ["frame", "value"] (SpF K pre_is_table_of) := fun f fd F =>
  F.ok sc_is_table_of (fun vs H Q E s => lenF (fun ds Φ h => by
    obtain ⟨_, _, _, rfl, _⟩ := h; rfl) s) fun cdv A outer s H vs Q E hr h => ⟨_, PSs.nox (pss_cons (ps_if (pt_not (pt_val (pe_callH h_are_counts (hr.mono (by decide)) (by rfl) (pa_cons (pv 1) (pa_cons (pe_callH h_cells_of (hr.mono (by decide)) (by rfl) (pa_cons (pv 0) pa_nil)) (pa_cons (pe_glob (v := .int 20000) (by rfl) tx.MOST_SUM.choose_spec ⟨_, rfl⟩) pa_nil)))))) (pss_one (ps_ret pe_bl)) pss_nil)
    (pss_one (ps_ret (pe_cmpR op_le (pe_callB (id := "max") (FwT.cr_maxT (hu64 hr) rfl) (by rfl) tx.max (by decide +kernel) (pa_cons (pe_callH h_sums_by (hr.mono (by decide)) (by rfl) (pa_cons (pv 0) (pa_cons (pv 1) pa_nil))) pa_nil)) (pe_glob (v := .int 20000) (by rfl) tx.MOST_SUM.choose_spec ⟨_, rfl⟩) (nomark _))))),
  bodyF h fun ds Φ hp => by
    obtain ⟨rows, n, x, rfl, F, hx, q⟩ := hp
    have n16 := F.cmost
    repeat' walk_at "wp"
    refine ⟨rows, n, rfl, F, ?_⟩
    repeat' walk_at "wp"
    by_cases hc : areCnts x n 20000 = true
    · rw [hc]
      repeat' walk_at "wp"
      obtain ⟨t, rfl, tl, tb⟩ := cnts_of.mp hc
      refine ⟨rows, n, t, rfl, F, ?_⟩
      obtain ⟨r, rs, er⟩ : ∃ r rs, rows = r :: rs := by
        cases rows with
        | nil => exact absurd F.one (by decide)
        | cons r rs => exact ⟨r, rs, rfl⟩
      have e1 : sumsI rows t = innerI r t :: rs.map fun r => innerI r t := by rw [er]; rfl
      rw [e1]
      refine a_nil (cb_maxT (innerI r t) (rs.map fun r => innerI r t) rfl ?_)
      repeat' walk_at "wp"
      have e2 : isTab rows n (tupI t) = decide ((rs.map fun r => innerI r t).foldl max (innerI r t) ≤ 20000) := by
        unfold isTab
        rw [hc, Bool.true_and]
        show (sumsI rows ((t.map PyData.int).map toI)).all (fun c => decide (c ≤ 20000)) = _
        rw [toI_ints, e1]
        exact max_all
      rw [e2] at q
      exact q
    · have hc2 : areCnts x n 20000 = false := by simpa using hc
      rw [hc2]
      repeat' walk_at "wp"
      have e2 : isTab rows n x = false := by unfold isTab; rw [hc2, Bool.false_and]
      rw [e2] at q
      exact q
⟩
theorem has_is_table_of (D : Dn K mg "is_table_of" s_is_table_of) (tx : Tx mg) (h_are_counts : Has P w K mg base "are_counts" ["value", "many", "most"] 4 (SpF K pre_are_counts)) (h_cells_of : Has P w K mg base "cells_of" ["frame"] 1 (SpF K pre_cells_of)) (h_sums_by : Has P w K mg base "sums_by" ["frame", "numbers"] 2 (SpF K pre_sums_by)) : Has P w K mg base "is_table_of" ["frame", "value"] 5 (SpF K pre_is_table_of) := has_of D (fun _ _ _ _ _ _ us hl => match us, hl with | [_, _], _ => rfl) (ok_is_table_of tx h_are_counts h_cells_of h_sums_by)

theorem ok_is_small_change (tx : Tx mg) (h_is_change_by : Has P w K mg base "is_change_by" ["frame", "value"] 3 (SpF K pre_is_change_by)) : ∀ f fd, FnP K "is_small_change" s_is_small_change f fd → FnOk P w K mg base CX0 4 f fd ["frame", "value"] (SpF K pre_is_small_change) := fun f fd F =>
  F.ok sc_is_small_change (fun vs H Q E s => lenF (fun ds Φ h => by
    obtain ⟨_, _, _, rfl, _⟩ := h; rfl) s) fun cdv A outer s H vs Q E hr h => ⟨_, PSs.nox (pss_one (ps_ret (pe_and (pe_callH h_is_change_by (hr.mono (by decide)) (by rfl) (pa_cons (pv 0) (pa_cons (pv 1) pa_nil))) (pe_one (pe_callB (id := "all") (cr_all rfl) (by rfl) tx.all (by decide +kernel) (pa_cons (pe_lc (own := [("number", 2)]) (g := gName 2) (by rfl) sc_is_small_change.nd (pi_tup (pv 1)) (blkOk_by (N := N_is_small_change) (sc := defScope s_is_small_change) (by decide +kernel)) (fun _ _ _ _ _ => (pg_name (i := 2) sc_is_small_change.nd rfl (by first | exact Or.inl rfl | exact Or.inr rfl))) (fun _ _ _ _ _ => pts_nil) (fun _ _ _ _ _ => (pe_cmpR op_le (pe_callB (id := "abs") call_abs (by rfl) tx.abs (by decide +kernel) (pa_cons (pv 2) pa_nil)) (pe_glob (v := .int 99) (by rfl) tx.MOST_IN_MOVE.choose_spec ⟨_, rfl⟩) (nomark _)))) pa_nil)))))),
  bodyF h fun ds Φ hp => by
    obtain ⟨rows, n, x, rfl, r, hx, q⟩ := hp
    have r2 := r.most
    have r4 := r.cmost
    repeat' walk_at "wp"
    refine ⟨rows, n, x, rfl, r, hx, ?_⟩
    repeat' walk_at "wp"
    refine iteB (fun e => ?_) (fun e => ?_)
    · obtain ⟨ns, rfl, hl⟩ := ints_area (Bool.and_eq_true_iff.mp e).1
      have q2 : Φ (.bool (isChg rows n (tupI ns) && ((ns.map PyData.int).map toI).all fun c => decide ((if c < 0 then -c else c) ≤ 99))) := q
      rw [e, Bool.true_and, toI_ints] at q2
      repeat' walk_at "wp"
      refine e_mapT (fun y => .bool (decide ((if toI y < 0 then -toI y else toI y) ≤ 99))) rfl (by rw [List.length_map]; omega) (fun y hy => ?_) ?_
      · obtain ⟨c, _, rfl⟩ := List.mem_map.mp hy
        repeat' walk_at "wp"
        rfl
      · refine a_nil (cb_all_ (ns.map fun c => decide ((if c < 0 then -c else c) ≤ 99)) (by rw [List.map_map, List.map_map]; rfl) ?_)
        rw [all_map_id]
        exact q2
    · have q2 : Φ (.bool (isChg rows n x && _)) := q
      rw [e, Bool.false_and] at q2
      exact q2
⟩
theorem has_is_small_change (D : Dn K mg "is_small_change" s_is_small_change) (tx : Tx mg) (h_is_change_by : Has P w K mg base "is_change_by" ["frame", "value"] 3 (SpF K pre_is_change_by)) : Has P w K mg base "is_small_change" ["frame", "value"] 4 (SpF K pre_is_small_change) := has_of D (fun _ _ _ _ _ _ us hl => match us, hl with | [_, _], _ => rfl) (ok_is_small_change tx h_is_change_by)

theorem ok_is_move_of (tx : Tx mg) (h_first_place : Has P w K mg base "first_place" ["row"] 1 (SpF K pre_first_place)) (h_is_small_change : Has P w K mg base "is_small_change" ["frame", "value"] 4 (SpF K pre_is_small_change)) : ∀ f fd, FnP K "is_move_of" s_is_move_of f fd → FnOk P w K mg base CX0 5 f fd ["frame", "value"] (SpF K pre_is_move_of) := fun f fd F =>
  F.ok sc_is_move_of (fun vs H Q E s => lenF (fun ds Φ h => by
    obtain ⟨_, _, _, rfl, _⟩ := h; rfl) s) fun cdv A outer s H vs Q E hr h => ⟨_, PSs.nox (pss_cons (ps_if (pt_not (pt_val (pe_callH h_is_small_change (hr.mono (by decide)) (by rfl) (pa_cons (pv 0) (pa_cons (pv 1) pa_nil))))) (pss_one (ps_ret pe_bl)) pss_nil)
    (pss_cons (ps_set (i := 2) sc_is_move_of.nd rfl (.inl rfl) (pe_callH h_first_place (hr.mono (by decide)) (by rfl) (pa_cons (pv 1) pa_nil)))
    (pss_one (ps_ret (pe_and (pe_cmpR op_notN (pv 2) pe_non (nomark _)) (pe_one (pe_cmpR op_gt (pe_ix ix_tup (pv 1) (pv 2) (fun _ _ => rfl)) pe_int (nomark _)))))))),
  bodyF h fun ds Φ hp => by
    obtain ⟨rows, n, x, rfl, r, hx, q⟩ := hp
    have r4 := r.cmost
    repeat' walk_at "wp"
    refine ⟨rows, n, x, rfl, r, hx, ?_⟩
    repeat' walk_at "wp"
    refine iteB (fun e => ?_) (fun e => ?_)
    · have e1 : isSmall rows n x = false := by simpa using e
      have q2 : Φ (.bool (isSmall rows n x && _)) := q
      rw [e1, Bool.false_and] at q2
      repeat' walk_at "wp"
      exact q2
    · have e1 : isSmall rows n x = true := by simpa using e
      obtain ⟨ns, rfl, hl⟩ := ints_area (Bool.and_eq_true_iff.mp (Bool.and_eq_true_iff.mp e1).1).1
      have q2 : Φ (.bool (isSmall rows n (tupI ns) && goesUp ((ns.map PyData.int).map toI))) := q
      rw [e1, Bool.true_and, toI_ints] at q2
      unfold goesUp at q2
      repeat' walk_at "wp"
      rcases first_find (ns := ns) with ⟨i, c, f1, f2, f3⟩ | ⟨f1, f2⟩
      · rw [f1]
        rw [f3] at q2
        show if true = true then _ else _
        repeat' walk_at "wp"
        refine od_ixT_ (ints_at f2) ?_
        repeat' walk_at "wp"
        exact q2
      · rw [f1]
        rw [f2] at q2
        exact q2
⟩
theorem has_is_move_of (D : Dn K mg "is_move_of" s_is_move_of) (tx : Tx mg) (h_first_place : Has P w K mg base "first_place" ["row"] 1 (SpF K pre_first_place)) (h_is_small_change : Has P w K mg base "is_small_change" ["frame", "value"] 4 (SpF K pre_is_small_change)) : Has P w K mg base "is_move_of" ["frame", "value"] 5 (SpF K pre_is_move_of) := has_of D (fun _ _ _ _ _ _ us hl => match us, hl with | [_, _], _ => rfl) (ok_is_move_of tx h_first_place h_is_small_change)

theorem ok_is_book (tx : Tx mg) (h_check_frame : Has P w K mg base "check_frame" ["value"] 6 (SpF K pre_check_frame)) (h_is_rising : Has P w K mg base "is_rising" ["values"] 1 (SpF K pre_is_rising)) (h_is_move_of : Has P w K mg base "is_move_of" ["frame", "value"] 5 (SpF K pre_is_move_of)) : ∀ f fd, FnP K "is_book" s_is_book f fd → FnOk P w K mg base CX0 7 f fd ["frame", "value"] (SpF K pre_is_book) := fun f fd F =>
  F.ok sc_is_book (fun vs H Q E s => lenF (fun ds Φ h => by
    obtain ⟨_, _, _, rfl, _⟩ := h; rfl) s) fun cdv A outer s H vs Q E hr h => ⟨_, PSs.nox (pss_cons (ps_expr (pe_callH h_check_frame (hr.mono (by decide)) (by rfl) (pa_cons (pv 0) pa_nil)))
    (pss_cons (ps_if (PW.pt (pw_or (pt_not (pt_val (pe_callB (id := "isinstance") call_isi (by rfl) tx.isinstance (by decide +kernel) (pa_cons (pv 1) (pa_cons (pe_bltn (v := .ty "tuple") (by rfl) tx.tuple (by decide +kernel) rfl) pa_nil))))) (pw_or1 (pt_cmpR op_gt (pe_callB (id := "len") call_len_seq (by rfl) tx.len (by decide +kernel) (pa_cons (pv 1) pa_nil)) (pe_glob (v := .int 60) (by rfl) tx.MOST_MOVES.choose_spec ⟨_, rfl⟩) (nomark _))))) (pss_one (ps_ret pe_bl)) pss_nil)
    (pss_one (ps_ret (pe_and (pe_callB (id := "all") (cr_all rfl) (by rfl) tx.all (by decide +kernel) (pa_cons (pe_lc (own := [("move", 2)]) (g := gName 2) (by rfl) sc_is_book.nd (pi_tup (pv 1)) (blkOk_by (N := N_is_book) (sc := defScope s_is_book) (by decide +kernel)) (fun _ _ _ _ _ => (pg_name (i := 2) sc_is_book.nd rfl (by first | exact Or.inl rfl | exact Or.inr rfl))) (fun _ _ _ _ _ => pts_nil) (fun _ _ _ _ _ => (pe_callH h_is_move_of (hr.mono (by decide)) (by rfl) (pa_cons (pv 0) (pa_cons (pv 2) pa_nil))))) pa_nil)) (pe_one (pe_callH h_is_rising (hr.mono (by decide)) (by rfl) (pa_cons (pv 1) pa_nil)))))))),
  bodyF h fun ds Φ hp => by
    obtain ⟨rows, n, x, rfl, r, hx, q⟩ := hp
    refine s_seq (s_cut (fun e => e = [.dat (frameD rows), .dat x, .no]) (s_drop ?_) ?_)
    · repeat' walk_at "wp"
      refine ⟨rows, n, rfl, r, rfl⟩
    rintro e rfl
    cases x with
    | tuple xs =>
      have hz : xs.length ≤ 1000 := hx.1
      have q2 : Φ (.bool (decide (xs.length ≤ 60) && (xs.all (isMove rows n) && riseB (xs.map rowOf)))) := q
      repeat' walk_at "wp"
      refine iteP (fun e => ?_) (fun e => ?_)
      · have e2 : ¬ xs.length ≤ 60 := by omega
        rw [decide_eq_false e2, Bool.false_and] at q2
        repeat' walk_at "wp"
        exact q2
      · have e2 : xs.length ≤ 60 := by omega
        rw [decide_eq_true e2, Bool.true_and] at q2
        repeat' walk_at "wp"
        refine e_mapT (fun y => .bool (isMove rows n y)) rfl (by omega) (fun y hy => ?_) ?_
        · repeat' walk_at "wp"
          exact ⟨rows, n, y, rfl, r, hx.2 y hy, rfl⟩
        · refine a_nil (cb_all_ _ (map_bools xs) ?_)
          rw [all_map_id]
          refine ⟨_, rfl, ?_⟩
          refine iteB (fun e => ?_) (fun e => ?_)
          · rw [e, Bool.true_and] at q2
            have er := rows_of e
            generalize xs.map rowOf = ms at er q2
            subst er
            repeat' walk_at "wp"
            exact ⟨ms, _, rfl, .inl rfl, by rw [List.length_map] at hz; exact hz, q2⟩
          · rw [e, Bool.false_and] at q2
            exact q2
    | dict kvs =>
      cases kvs with
      | cons a r => exact hx.elim
      | nil =>
        repeat' walk_at "wp"
        exact q
    | _ => (repeat' walk_at "wp") <;> exact q
⟩
theorem has_is_book (D : Dn K mg "is_book" s_is_book) (tx : Tx mg) (h_check_frame : Has P w K mg base "check_frame" ["value"] 6 (SpF K pre_check_frame)) (h_is_rising : Has P w K mg base "is_rising" ["values"] 1 (SpF K pre_is_rising)) (h_is_move_of : Has P w K mg base "is_move_of" ["frame", "value"] 5 (SpF K pre_is_move_of)) : Has P w K mg base "is_book" ["frame", "value"] 7 (SpF K pre_is_book) := has_of D (fun _ _ _ _ _ _ us hl => match us, hl with | [_, _], _ => rfl) (ok_is_book tx h_check_frame h_is_rising h_is_move_of)

theorem ok_check_book (tx : Tx mg) (h_is_book : Has P w K mg base "is_book" ["frame", "value"] 7 (SpF K pre_is_book)) : ∀ f fd, FnP K "check_book" s_check_book f fd → FnOk P w K mg base CX0 8 f fd ["frame", "value"] (SpF K pre_check_book) := fun f fd F =>
  F.ok sc_check_book (fun vs H Q E s => lenF (fun ds Φ h => by
    obtain ⟨_, _, _, rfl, _⟩ := h; rfl) s) fun cdv A outer s H vs Q E hr h => ⟨_, PSs.nox (pss_one (ps_if (pt_not (pt_val (pe_callH h_is_book (hr.mono (by decide)) (by rfl) (pa_cons (pv 0) (pa_cons (pv 1) pa_nil))))) (pss_one ps_never) pss_nil)),
  bodyF h fun ds Φ hp => by
    obtain ⟨rows, n, book, rfl, G, q⟩ := hp
    have few := G.B.few
    repeat' walk_at "wp"
    refine ⟨rows, n, rowsT book, rfl, G.F.fr, ⟨by rw [List.length_map]; omega, fun y hy => ?_⟩, ?_⟩
    · obtain ⟨m, hm, rfl⟩ := List.mem_map.mp hy
      have := mv_len (G.B.mv m hm)
      have := G.F.four
      exact ⟨by rw [List.length_map]; omega, plain_ints m⟩
    · rw [book_true (by omega) G.B.mv G.B.asc]
      repeat' walk_at "wp"
      exact q
⟩
theorem has_check_book (D : Dn K mg "check_book" s_check_book) (tx : Tx mg) (h_is_book : Has P w K mg base "is_book" ["frame", "value"] 7 (SpF K pre_is_book)) : Has P w K mg base "check_book" ["frame", "value"] 8 (SpF K pre_check_book) := has_of D (fun _ _ _ _ _ _ us hl => match us, hl with | [_, _], _ => rfl) (ok_check_book tx h_is_book)

theorem ok_Steps___init__ {C_Steps : Addr} (tx : Tx mg) (cf : Cf K C_Steps) : ∀ f fd, FnM K "__init__" "Steps.__init__" s_Steps___init__ f fd → FnOk P w K mg base CX0 1 f fd ["self", "book"] (SpI K (pre_Steps___init__ C_Steps)) := fun f fd F =>
  F.ok sc_Steps___init__ (fun vs H Q E s => lenI (fun C ds Φ h => by
    obtain ⟨_, _, _, _, rfl, _⟩ := h; rfl) s) fun cdv A outer s H vs Q E hr h => ⟨_, PSs.nox (pss_cons (ps_fld (pv 0) (pe_lst pa_nil) (by rfl))
    (pss_cons (ps_fld (pv 0) FwD.pe_newX (by rfl))
    (pss_one (ps_for PassesOwn.never rfl (FwE.pi_enumT (by rfl) tx.enumerate (pa_cons (pv 1) pa_nil)) (pg_tup (by rfl) (pgs_cons (pg_name (i := 2) sc_Steps___init__.nd rfl (.inl rfl)) (pgs_cons (pg_name (i := 3) sc_Steps___init__.nd rfl (.inl rfl)) pgs_nil))) (pss_one (ps_for PassesOwn.never rfl (pi_tup (pe_tup (pa_cons pe_int (pa_cons (pe_un un_neg pe_int) pa_nil)))) (pg_name (i := 4) sc_Steps___init__.nd rfl (.inr rfl)) (pss_cons (ps_set (i := 5) sc_Steps___init__.nd rfl (.inl rfl) (pe_callTy call_tuple_of (by rfl) tx.tuple (by decide +kernel) (pa_cons (pe_lc (own := [("number", 8)]) (g := gName 8) (by rfl) sc_Steps___init__.nd (pi_tup (pv 3)) (blkOk_by (N := N_Steps___init__) (sc := defScope s_Steps___init__) (by decide +kernel)) (fun _ _ _ _ _ => (pg_name (i := 8) sc_Steps___init__.nd rfl (by first | exact Or.inl rfl | exact Or.inr rfl))) (fun _ _ _ _ _ => pts_nil) (fun _ _ _ _ _ => (pe_op op_mul (pv 4) (pv 8)))) pa_nil)))
    (pss_cons (ps_setLc (i := 6)  (own := [("cell", 7), ("number", 8)]) (g := gTup K 2 (gCons (gName 7) (gCons (gName 8) gNil))) (by rfl) sc_Steps___init__.nd rfl rfl (sw_true rfl rfl rfl (by decide +kernel)) (FwE.pi_enumT (by rfl) tx.enumerate (pa_cons (pv 5) pa_nil)) (blkOk_by (N := N_Steps___init__) (sc := defScope s_Steps___init__) (by decide +kernel)) (fun _ _ _ _ _ => (pg_tup (by rfl) (pgs_cons (pg_name (i := 7) sc_Steps___init__.nd rfl (by first | exact Or.inl rfl | exact Or.inr rfl)) (pgs_cons (pg_name (i := 8) sc_Steps___init__.nd rfl (by first | exact Or.inl rfl | exact Or.inr rfl)) pgs_nil)))) (fun _ _ _ _ _ => (pts_one (pt_cmpR op_lt (pv 8) pe_int (nomark _)))) (fun _ _ _ _ _ => (pe_tup (pa_cons (pv 7) (pa_cons (pe_un un_neg (pv 8)) pa_nil)))))
    (pss_cons (ps_expr (pe_bm PySem.F.plainAttrs_list PySem.F.slot_list_append PySem.F.type_list_append mt_append (pe_fld (pv 0) (by rfl)) (pa_cons (pe_tup (pa_cons (pv 5) (pa_cons (pv 6) pa_nil))) pa_nil)))
    (pss_one (ps_asg (pe_tup (pa_cons (pv 2) (pa_cons (pv 4) pa_nil))) (pg_sub (pe_fld (pv 0) (by rfl)) (pv 5) (FwD.set_putX (hu16 hr)))))))))))))),
  bodyB h fun me C ds Φ hp => by
    obtain ⟨rfl, rows, n, book, rfl, G, q⟩ := hp
    have few := G.B.few
    have n4 := G.F.four
    refine s_seq (s_bfldL (i := 0) rfl (oneB0 rfl) cf.cls cf.no_ways (by decide) (by decide) fun a => ?_)
    refine s_seq (s_bfldD (i := 0) rfl (oneB0 rfl) cf.cls cf.no_known (by show _ ∉ [("ways" : Str)]; decide) (by show 1 < 900; decide) fun b => ?_)
    refine s_for (js := [2] ++ ([3] ++ [])) (i_enumT_ (a_cons (e_var rfl (a_nil ⟨_, rfl, fun i e => ∃ s2 s3 s4 s5 s6, e = [.big (bigM K me C [("ways", .own a ((wayLn i).map (wayD book))), ("known", .dic b (knownK book (wayLn i)))]), .dat (rowsT book), s2, s3, s4, s5, s6, .no, .no], ⟨_, _, _, _, _, rfl⟩, fun i x e hx => ?_, ?_⟩))))
    · rintro ⟨s2, s3, s4, s5, s6, rfl⟩
      have hlt : i < book.length := by
        have := (List.getElem?_eq_some_iff.mp hx).1
        rw [enumD_len, List.length_map] at this
        exact this
      have e1 := enumD_get (xs := book.map fun m => tupI m) (i := i) (x := tupI book[i]) (by rw [List.getElem?_map, List.getElem?_eq_getElem hlt]; rfl)
      rw [e1] at hx
      cases hx
      have er : rowAt book i = book[i] := by unfold rowAt; rw [List.getElem?_eq_getElem hlt]; rfl
      rw [← er]
      have B := G.B.at_ hlt
      refine g_tup_ [_, _] rfl rfl (g_cons (g_name (g_cons (g_name (g_nil ?_)))))
      refine s_for (js := [4]) (i_tup_ ?_)
      repeat' walk_at "wp"
      refine ⟨fun j e => ∃ s4 s5 s6, e = [.big (bigM K me C [("ways", .own a ((wayLn i ++ ([(i, 1), (i, -1)] : List (Nat × Int)).take j).map (wayD book))), ("known", .dic b (knownK book (wayLn i ++ ([(i, 1), (i, -1)] : List (Nat × Int)).take j)))]), .dat (rowsT book), .dat (.int (i : Nat)), .dat (tupI (rowAt book i)), s4, s5, s6, .no, .no], ⟨s4, s5, s6, by rw [List.take_zero, List.append_nil]; rfl⟩, fun j x e hx => ?_, ?_⟩
      · rintro ⟨s4, s5, s6, rfl⟩
        obtain ⟨s, rfl, hs, tk⟩ : ∃ s : Int, x = .int s ∧ (s = 1 ∨ s = -1) ∧ ([(i, 1), (i, -1)] : List (Nat × Int)).take (j + 1) = ([(i, 1), (i, -1)] : List (Nat × Int)).take j ++ [(i, s)] := by
          cases j with
          | zero => cases hx; exact ⟨1, rfl, .inl rfl, rfl⟩
          | succ j =>
            cases j with
            | zero => cases hx; exact ⟨-1, rfl, .inr rfl, rfl⟩
            | succ j => simp at hx
        have cl : (chg book (i, s)).length = n := by unfold chg; rw [List.length_map]; exact B.2
        have wl : (wayLn i ++ ([(i, 1), (i, -1)] : List (Nat × Int)).take j).length ≤ 8 := by
          rw [List.length_append, len_wayLn, List.length_take]
          simp only [List.length_cons, List.length_nil]
          omega
        have tk2 : wayLn i ++ ([(i, 1), (i, -1)] : List (Nat × Int)).take (j + 1) = (wayLn i ++ ([(i, 1), (i, -1)] : List (Nat × Int)).take j) ++ [(i, s)] := by rw [tk, ← List.append_assoc]
        have kl := (ko_all book (wayLn i ++ ([(i, 1), (i, -1)] : List (Nat × Int)).take j)).len
        refine g_name ?_
        refine s_seq (s_asg (e_cb (a_cons (e_mapA (js := [8]) (α := Int) (fun y => .int y) (fun y => .int (s * y)) (i_tup_ (e_var rfl ⟨_, rfl, rowAt book i, rfl, by rw [B.2]; omega, fun y hy => g_name ?_, ?_⟩))))))
        · repeat' walk_at "wp"
          · exact .inl ⟨by omega, by omega⟩
          · rfl
        refine a_nil (cb_tuple_ (.inr rfl) ?_)
        have ec : (rowAt book i).map (fun y => PyData.int (s * y)) = (chg book (i, s)).map .int := by
          unfold chg
          rw [List.map_map]
          rfl
        rw [ec]
        refine s_seq (s_asg (e_flt (js := [7] ++ ([8] ++ [])) (α := Nat × Int) (fun q => .tuple [.int (q.1 : Nat), .int q.2]) (fun q => decide (q.2 < 0)) nD (i_enumT_ (a_cons (e_var rfl (a_nil ⟨_, rfl, (List.range (chg book (i, s)).length).map (fun k => (k, ((chg book (i, s))[k]?).getD 0)), enum_rows _, ?_, fun x hx => g_tup_ [_, _] rfl rfl (g_cons (g_name (g_cons (g_name (g_nil ?_))))), ?_⟩))))))
        · rw [List.length_map, List.length_range]; omega
        · repeat' walk_at "wp"
          refine ⟨rfl, fun _ => ?_⟩
          repeat' walk_at "wp"
          rfl
        refine s_seq (s_bapp (i := 0) (l1 := []) rfl (oneB0 rfl) cf.cls cf.no_ways (by decide) ?_)
        repeat' walk_at "wp"
        refine s_bput (i := 0) (l1 := [("ways", _)]) (l2 := []) rfl (oneB0 rfl) cf.cls cf.no_known (by show _ ∉ [("ways" : Str)]; decide) ?_
        repeat' walk_at "wp"
        refine ⟨key_ok _, by omega, .dat (.int s), .dat (tupI (chg book (i, s))), .dat (needsD (chg book (i, s))), ?_⟩
        rw [tk2, knownK_snoc, List.map_append (l₂ := [(i, s)])]
        rfl
      · rintro e ⟨s4, s5, s6, rfl⟩
        refine ⟨.dat (.int (i : Nat)), .dat (tupI (rowAt book i)), s4, s5, s6, ?_⟩
        rw [wayLn_succ]
        rfl
    · rintro e ⟨s2, s3, s4, s5, s6, rfl⟩
      rw [enumD_len, List.length_map]
      exact ⟨_, rfl, q⟩
⟩

theorem ok_Steps_tables_from {C_Steps : Addr} (tx : Tx mg) (cf : Cf K C_Steps) (h_put_on : Has P w K mg base "put_on" ["row", "many", "other"] 1 (SpF K pre_put_on)) : ∀ f fd, FnM K "tables_from" "Steps.tables_from" s_Steps_tables_from f fd → FnOk P w K mg base CX0 2 f fd ["self", "table"] (SpF K (pre_Steps_tables_from C_Steps)) := fun f fd F =>
  F.ok sc_Steps_tables_from (fun vs H Q E s => lenF (fun ds Φ h => by
    obtain ⟨_, _, _, _, rfl, _⟩ := h; rfl) s) fun cdv A outer s H vs Q E hr h => ⟨_, PSs.nox (pss_cons (ps_set (i := 2) sc_Steps_tables_from.nd rfl (.inl rfl) (pe_lst pa_nil))
    (pss_cons (ps_for PassesOwn.never rfl (pi_list (pe_fld (pv 0) (by rfl))) (pg_tup (by rfl) (pgs_cons (pg_name (i := 3) sc_Steps_tables_from.nd rfl (.inl rfl)) (pgs_cons (pg_name (i := 4) sc_Steps_tables_from.nd rfl (.inl rfl)) pgs_nil))) (pss_one (ps_if (pt_val (pe_callB (id := "all") (cr_all rfl) (by rfl) tx.all (by decide +kernel) (pa_cons (pe_lc (own := [("cell", 5), ("need", 6)]) (g := gTup K 2 (gCons (gName 5) (gCons (gName 6) gNil))) (by rfl) sc_Steps_tables_from.nd (pi_list (pv 4)) (blkOk_by (N := N_Steps_tables_from) (sc := defScope s_Steps_tables_from) (by decide +kernel)) (fun _ _ _ _ _ => (pg_tup (by rfl) (pgs_cons (pg_name (i := 5) sc_Steps_tables_from.nd rfl (by first | exact Or.inl rfl | exact Or.inr rfl)) (pgs_cons (pg_name (i := 6) sc_Steps_tables_from.nd rfl (by first | exact Or.inl rfl | exact Or.inr rfl)) pgs_nil)))) (fun _ _ _ _ _ => pts_nil) (fun _ _ _ _ _ => (pe_cmpR op_ge (pe_ix (r := rIxT K) ix_tup (pv 1) (pv 5) (fun _ _ => rfl)) (pv 6) (nomark _)))) pa_nil))) (pss_one (ps_expr (pe_bm PySem.F.plainAttrs_list PySem.F.slot_list_append PySem.F.type_list_append mt_append (pv 2) (pa_cons (pe_callH h_put_on (hr.mono (by decide)) (by rfl) (pa_cons (pv 1) (pa_cons pe_int (pa_cons (pv 3) pa_nil)))) pa_nil)))) pss_nil)))
    (pss_one (ps_ret (pv 2))))),
  bodyF h fun ds Φ hp => by
    obtain ⟨rows, n, book, t, rfl, G, T, q⟩ := hp
    have few := G.B.few
    have n4 := G.F.four
    have tl := T.len
    refine s_seq (s_own (i := 2) (a_nil ⟨by decide, ?_⟩))
    refine s_seq (s_for (js := [3] ++ ([4] ++ [])) (i_list_ (e_ways cf (e_var rfl ⟨book, rfl, _, rfl, fun i e => ∃ a b, e = [.dat (stD C_Steps book), .dat (tupI t), .own ((nextW book t ((wayLn book.length).take i)).map fun m => tupI m), a, b, .no, .no], ⟨_, _, rfl⟩, fun i x e hx => ?_, ?_⟩))))
    · rintro ⟨a, b, rfl⟩
      rw [List.getElem?_map] at hx
      obtain ⟨w, hw, rfl⟩ := Option.map_eq_some_iff.mp hx
      have wm := mem_wayLn.mp (List.mem_of_getElem? hw)
      have B := G.B.at_ wm.1
      have cl : (chg book w).length = n := by unfold chg; rw [List.length_map]; exact B.2
      have nl := needsN_len (chg book w)
      have tk : nextW book t ((wayLn book.length).take (i + 1)) = nextW book t ((wayLn book.length).take i) ++ (if okN (late book t w) = true then [late book t w] else []) := by
        unfold nextW
        rw [List.take_add_one, hw, List.map_append, List.filter_append]
        congr 1
        show List.filter _ [late book t w] = _
        rw [List.filter_cons, List.filter_nil]
      have qz : (nextW book t ((wayLn book.length).take i)).length ≤ 6 := by
        unfold nextW
        refine Nat.le_trans (List.length_filter_le _ _) ?_
        rw [List.length_map, List.length_take, len_wayLn]
        omega
      refine g_tup_ [_, _] rfl rfl (g_cons (g_name (g_cons (g_name (g_nil ?_)))))
      refine s_if (t_test (e_cb (a_cons (e_mapA (js := [5] ++ ([6] ++ [])) (α := Nat × Int) nD (fun q => .bool (decide (-q.2 ≤ (t[q.1]?).getD 0))) (i_list_ (e_var rfl ⟨_, rfl, needsN (chg book w), rfl, by omega, fun z hz => g_tup_ [_, _] rfl rfl (g_cons (g_name (g_cons (g_name (g_nil ?_))))), ?_⟩))))))
      · have zm := mem_needsN.mp hz
        repeat' walk_at "wp"
        refine od_ixT_ (at_int (by omega)) ?_
        repeat' walk_at "wp"
        exact congrArg PyData.bool (by rfl)
      · refine a_nil (cb_all_ ((needsN (chg book w)).map fun q => decide (-q.2 ≤ (t[q.1]?).getD 0)) (by rw [List.map_map]; rfl) ?_)
        rw [List.all_map]
        show _
        have e := fit_needs (c := chg book w) (t := t) (by omega) T.pos
        rw [late_chg] at e
        have e' : (needsN (chg book w)).all (id ∘ fun q => decide (-q.2 ≤ (t[q.1]?).getD 0)) = okN (late book t w) := e
        rw [e']
        refine ⟨_, rfl, ?_⟩
        by_cases ok : okN (late book t w) = true
        · rw [ok]
          refine iteT ?_
          repeat' walk_at "wp"
          refine ⟨.dat (tupI (chg book w)), .dat (needsD (chg book w)), ?_⟩
          rw [tk, if_pos ok, List.map_append, ← late_chg]
          rfl
        · rw [show okN (late book t w) = false by simpa using ok]
          refine iteF ?_
          refine s_next ⟨.dat (tupI (chg book w)), .dat (needsD (chg book w)), ?_⟩
          rw [tk, if_neg ok, List.append_nil]
          rfl
    · rintro e ⟨a, b, rfl⟩
      rw [List.length_map, List.take_length]
      exact s_pub (i := 2) rfl (s_ret (e_var rfl q))
⟩

theorem ok_Steps_way_between {C_Steps : Addr} (tx : Tx mg) (cf : Cf K C_Steps) (h_put_on : Has P w K mg base "put_on" ["row", "many", "other"] 1 (SpF K pre_put_on)) : ∀ f fd, FnM K "way_between" "Steps.way_between" s_Steps_way_between f fd → FnOk P w K mg base CX0 2 f fd ["self", "table", "other"] (SpF K (pre_Steps_way_between C_Steps)) := fun f fd F =>
  F.ok sc_Steps_way_between (fun vs H Q E s => lenF (fun ds Φ h => by
    obtain ⟨_, _, _, _, _, rfl, _⟩ := h; rfl) s) fun cdv A outer s H vs Q E hr h => ⟨_, PSs.nox (pss_one (ps_ret (FwD.pe_getX (hu16 hr) (pe_fld (pv 0) (by rfl)) (pa_cons (pe_callH h_put_on (hr.mono (by decide)) (by rfl) (pa_cons (pv 2) (pa_cons (pe_un un_neg pe_int) (pa_cons (pv 1) pa_nil)))) pa_nil)))),
  bodyF h fun ds Φ hp => by
    obtain ⟨rows, n, book, a, b, rfl, G, al, bl, q⟩ := hp
    have n4 := G.F.four
    refine s_ret (e_mgetK1 (e_known cf (e_var rfl ⟨book, rfl, _, rfl, kn_ok book, ?_⟩)))
    repeat' walk_at "wp"
    exact ⟨key_ok _, q⟩
⟩

theorem ok_ways_along {C_Steps : Addr} (tx : Tx mg) (cf : Cf K C_Steps) (h_Steps___init__ : HasI P w K mg base C_Steps "Steps" ["self", "book"] 1 (SpI K (pre_Steps___init__ C_Steps))) (h_Steps_way_between : HasM P w K mg base C_Steps "way_between" ["self", "table", "other"] 2 (SpF K (pre_Steps_way_between C_Steps))) : ∀ f fd, FnP K "ways_along" s_ways_along f fd → FnOk P w K mg base CX0 3 f fd ["book", "tables"] (SpF K (pre_ways_along C_Steps)) := fun f fd F =>
  F.ok sc_ways_along (fun vs H Q E s => lenF (fun ds Φ h => by
    obtain ⟨_, _, _, _, rfl, _⟩ := h; rfl) s) fun cdv A outer s H vs Q E hr h => ⟨_, PSs.nox (pss_cons (ps_set (i := 2) sc_ways_along.nd rfl (.inr rfl) (pe_makeH h_Steps___init__ (hr.mono (by decide)) (by rfl) (pa_cons (pv 0) pa_nil)))
    (pss_one (ps_ret (pe_lc (own := [("at", 3)]) (g := gName 3) (by rfl) sc_ways_along.nd (pi_range1 (by rfl) tx.range (pa_cons (pe_op op_sub (pe_callB (id := "len") call_len_seq (by rfl) tx.len (by decide +kernel) (pa_cons (pv 1) pa_nil)) pe_int) pa_nil)) (blkOk_by (N := N_ways_along) (sc := defScope s_ways_along) (by decide +kernel)) (fun _ _ _ _ _ => (pg_name (i := 3) sc_ways_along.nd rfl (by first | exact Or.inl rfl | exact Or.inr rfl))) (fun _ _ _ _ _ => pts_nil) (fun _ _ _ _ _ => (pe_methH h_Steps_way_between (pv 2) (hr.mono (by decide)) (pa_cons (pe_ix (r := rIxT K) ix_tup (pv 1) (pv 3) (fun _ _ => rfl)) (pa_cons (pe_ix (r := rIxT K) ix_tup (pv 1) (pe_op op_add (pv 3) pe_int) (fun _ _ => rfl)) pa_nil)))))))),
  bodyF h fun ds Φ hp => by
    obtain ⟨rows, n, book, R, rfl, G, few, W, q⟩ := hp
    refine s_seq (s_asg (e_make (a_cons (e_var rfl (a_nil ⟨rfl, rows, n, book, rfl, G, fun _ => ?_⟩)))))
    refine s_ret (e_mapA (js := [3]) (α := Nat) (fun i => .int (i : Nat)) (fun i => wayB book (addI (-1) ((R[i + 1]?).getD []) ((R[i]?).getD []))) (i_rng1 ?_))
    repeat' walk_at "wp"
    refine ⟨List.range (R.length - 1), ?_, by rw [List.length_range]; omega, fun i hi => g_name ?_, q⟩
    · rw [List.length_map, show ((R.length : Int) - 1).toNat = R.length - 1 by omega]
      exact rng_nat _
    · have hi := List.mem_range.mp hi
      have e1 : R[i]? = some R[i] := List.getElem?_eq_getElem (by omega)
      have e2 : R[i + 1]? = some R[i + 1] := List.getElem?_eq_getElem (by omega)
      refine e_meth (e_var rfl ⟨stX, stE book, rfl, rfl, by decide, ?_⟩)
      repeat' walk_at "wp"
      refine od_ixT_ (d := tupI R[i]) (row_at e1) ?_
      repeat' walk_at "wp"
      refine od_ixT_ (d := tupI R[i + 1]) (row_at e2) ?_
      repeat' walk_at "wp"
      refine ⟨rows, n, book, _, _, rfl, G, (W _ (List.mem_of_getElem? e1)).len, (W _ (List.mem_of_getElem? e2)).len, ?_⟩
      show _ = wayB book (addI (-1) ((R[i + 1]?).getD []) ((R[i]?).getD []))
      rw [e1, e2]
      rfl
⟩
theorem has_ways_along (D : Dn K mg "ways_along" s_ways_along) {C_Steps : Addr} (tx : Tx mg) (cf : Cf K C_Steps) (h_Steps___init__ : HasI P w K mg base C_Steps "Steps" ["self", "book"] 1 (SpI K (pre_Steps___init__ C_Steps))) (h_Steps_way_between : HasM P w K mg base C_Steps "way_between" ["self", "table", "other"] 2 (SpF K (pre_Steps_way_between C_Steps))) : Has P w K mg base "ways_along" ["book", "tables"] 3 (SpF K (pre_ways_along C_Steps)) := has_of D (fun _ _ _ _ _ _ us hl => match us, hl with | [_, _], _ => rfl) (ok_ways_along tx cf h_Steps___init__ h_Steps_way_between)

theorem ok_is_way {C_Steps : Addr} (tx : Tx mg) (cf : Cf K C_Steps) (h_ways_along : Has P w K mg base "ways_along" ["book", "tables"] 3 (SpF K (pre_ways_along C_Steps))) : ∀ f fd, FnP K "is_way" s_is_way f fd → FnOk P w K mg base CX0 4 f fd ["book", "tables"] (SpF K (pre_is_way C_Steps)) := fun f fd F =>
  F.ok sc_is_way (fun vs H Q E s => lenF (fun ds Φ h => by
    obtain ⟨_, _, _, _, rfl, _⟩ := h; rfl) s) fun cdv A outer s H vs Q E hr h => ⟨_, PSs.nox (pss_one (ps_ret (pe_cmpR (FwWd.op_notInD (hu65 hr)) pe_non (pe_callH h_ways_along (hr.mono (by decide)) (by rfl) (pa_cons (pv 0) (pa_cons (pv 1) pa_nil))) (by rfl)))),
  bodyF h fun ds Φ hp => by
    obtain ⟨rows, n, book, R, rfl, G, few, W, q⟩ := hp
    refine s_ret (e_op (e_non (e_call (a_cons (e_var rfl (a_cons (e_var rfl (a_nil ⟨rows, n, book, R, rfl, G, few, W, ?_⟩))))))))
    obtain ⟨os, e, h⟩ := ways_opt G W
    rw [e]
    refine FwWd.od_inL (by decide) (shaped_opt os) ?_
    rw [if_pos rfl, opt_in, h, Bool.not_not]
    exact q
⟩
theorem has_is_way (D : Dn K mg "is_way" s_is_way) {C_Steps : Addr} (tx : Tx mg) (cf : Cf K C_Steps) (h_ways_along : Has P w K mg base "ways_along" ["book", "tables"] 3 (SpF K (pre_ways_along C_Steps))) : Has P w K mg base "is_way" ["book", "tables"] 4 (SpF K (pre_is_way C_Steps)) := has_of D (fun _ _ _ _ _ _ us hl => match us, hl with | [_, _], _ => rfl) (ok_is_way tx cf h_ways_along)

theorem ok_is_road {C_Steps : Addr} (tx : Tx mg) (cf : Cf K C_Steps) (h_check_book : Has P w K mg base "check_book" ["frame", "value"] 8 (SpF K pre_check_book)) (h_is_way : Has P w K mg base "is_way" ["book", "tables"] 4 (SpF K (pre_is_way C_Steps))) (h_is_table_of : Has P w K mg base "is_table_of" ["frame", "value"] 5 (SpF K pre_is_table_of)) : ∀ f fd, FnP K "is_road" s_is_road f fd → FnOk P w K mg base CX0 9 f fd ["frame", "book", "value"] (SpF K (pre_is_road C_Steps)) := fun f fd F =>
  F.ok sc_is_road (fun vs H Q E s => lenF (fun ds Φ h => by
    obtain ⟨_, _, _, _, rfl, _⟩ := h; rfl) s) fun cdv A outer s H vs Q E hr h => ⟨_, PSs.nox (pss_cons (ps_expr (pe_callH h_check_book (hr.mono (by decide)) (by rfl) (pa_cons (pv 0) (pa_cons (pv 1) pa_nil))))
    (pss_cons (ps_if (PW.pt (pw_or (pt_not (pt_val (pe_callB (id := "isinstance") call_isi (by rfl) tx.isinstance (by decide +kernel) (pa_cons (pv 2) (pa_cons (pe_bltn (v := .ty "tuple") (by rfl) tx.tuple (by decide +kernel) rfl) pa_nil))))) (pw_or1 (pt_cmpR op_eq (pe_callB (id := "len") call_len_seq (by rfl) tx.len (by decide +kernel) (pa_cons (pv 2) pa_nil)) pe_int (nomark _))))) (pss_one (ps_ret pe_bl)) pss_nil)
    (pss_cons (ps_if (pt_not (pt_val (pe_callB (id := "all") (cr_all rfl) (by rfl) tx.all (by decide +kernel) (pa_cons (pe_lc (own := [("table", 3)]) (g := gName 3) (by rfl) sc_is_road.nd (pi_tup (pv 2)) (blkOk_by (N := N_is_road) (sc := defScope s_is_road) (by decide +kernel)) (fun _ _ _ _ _ => (pg_name (i := 3) sc_is_road.nd rfl (by first | exact Or.inl rfl | exact Or.inr rfl))) (fun _ _ _ _ _ => pts_nil) (fun _ _ _ _ _ => (pe_callH h_is_table_of (hr.mono (by decide)) (by rfl) (pa_cons (pv 0) (pa_cons (pv 3) pa_nil))))) pa_nil)))) (pss_one (ps_ret pe_bl)) pss_nil)
    (pss_one (ps_ret (pe_callH h_is_way (hr.mono (by decide)) (by rfl) (pa_cons (pv 1) (pa_cons (pv 2) pa_nil)))))))),
  bodyF h fun ds Φ hp => by
    obtain ⟨rows, n, book, x, rfl, G, hx, q⟩ := hp
    refine s_seq (s_drop (e_call (a_cons (e_var rfl (a_cons (e_var rfl (a_nil ⟨rows, n, book, rfl, G, ?_⟩)))))))
    cases x with
    | tuple xs =>
      have hz := hx.1
      have q2 : Φ (.bool (decide (xs ≠ []) && (xs.all (isTab rows n) && roadB book (xs.map rowOf)))) := q
      by_cases ne : xs = []
      · subst ne
        repeat' walk_at "wp"
        exact q2
      · have pos := List.length_pos_iff.mpr ne
        rw [decide_eq_true ne, Bool.true_and] at q2
        repeat' walk_at "wp"
        refine e_mapT (fun y => .bool (isTab rows n y)) rfl (by omega) (fun y hy => ?_) ?_
        · repeat' walk_at "wp"
          exact ⟨rows, n, y, rfl, G.F.fr, hx.2 y hy, rfl⟩
        · refine a_nil (cb_all_ (xs.map (isTab rows n)) (by rw [List.map_map]; rfl) ?_)
          rw [all_map_id]
          refine ⟨_, rfl, ?_⟩
          by_cases e : xs.all (isTab rows n) = true
          · rw [e, Bool.true_and] at q2
            rw [e, if_neg (show ¬ (!true) = true from Bool.false_ne_true)]
            obtain ⟨er, tk⟩ := tabs_of e
            generalize xs.map rowOf = ms at er tk q2
            subst er
            rw [List.length_map] at hz
            repeat' walk_at "wp"
            exact ⟨rows, n, book, ms, rfl, G, hz, fun x hx => (tk x hx).tp, q2⟩
          · have e' : xs.all (isTab rows n) = false := by simpa using e
            rw [e', Bool.false_and] at q2
            rw [e', if_pos (show (!false) = true from rfl)]
            repeat' walk_at "wp"
            exact q2
    | dict kvs =>
      cases kvs with
      | cons a r => exact hx.elim
      | nil => (repeat' walk_at "wp") <;> exact q
    | _ => (repeat' walk_at "wp") <;> exact q
⟩
theorem has_is_road (D : Dn K mg "is_road" s_is_road) {C_Steps : Addr} (tx : Tx mg) (cf : Cf K C_Steps) (h_check_book : Has P w K mg base "check_book" ["frame", "value"] 8 (SpF K pre_check_book)) (h_is_way : Has P w K mg base "is_way" ["book", "tables"] 4 (SpF K (pre_is_way C_Steps))) (h_is_table_of : Has P w K mg base "is_table_of" ["frame", "value"] 5 (SpF K pre_is_table_of)) : Has P w K mg base "is_road" ["frame", "book", "value"] 9 (SpF K (pre_is_road C_Steps)) := has_of D (fun _ _ _ _ _ _ us hl => match us, hl with | [_, _, _], _ => rfl) (ok_is_road tx cf h_check_book h_is_way h_is_table_of)

theorem ok_is_one_closed_part {C_Steps : Addr} (tx : Tx mg) (cf : Cf K C_Steps) (h_Steps_tables_from : HasM P w K mg base C_Steps "tables_from" ["self", "table"] 2 (SpF K (pre_Steps_tables_from C_Steps))) : ∀ f fd, FnP K "is_one_closed_part" s_is_one_closed_part f fd → FnOk P w K mg base CX0 3 f fd ["steps", "tables"] (SpF K (pre_is_one_closed_part C_Steps)) := fun f fd F =>
  F.ok sc_is_one_closed_part (fun vs H Q E s => lenF (fun ds Φ h => by
    obtain ⟨_, _, _, _, _, _, rfl, _⟩ := h; rfl) s) fun cdv A outer s H vs Q E hr h => ⟨_, PSs.nox (pss_cons (FwD.ps_setDc (i := 2)  (own := [("table", 8)]) (g := gName 8) (hu64 hr) (by rfl) sc_is_one_closed_part.nd rfl rfl (FwD.sw_dict rfl rfl rfl (by decide +kernel)) (FwU.pi_any (pv 1)) (blkOk_by (N := N_is_one_closed_part) (sc := defScope s_is_one_closed_part) (by decide +kernel)) (fun _ _ _ _ _ => (pg_name (i := 8) sc_is_one_closed_part.nd rfl (.inl rfl))) (fun _ _ _ _ _ => pts_nil) (fun _ _ _ _ _ => (pv 8)) (fun _ _ _ _ _ => pe_bl))
    (pss_cons (ps_set (i := 3) sc_is_one_closed_part.nd rfl (.inl rfl) (FwD.pe_oneX (hu16 hr) (FwK.pe_or (pe_ix ix_list (pv 1) pe_int (fun _ _ => rfl)) (pe_ix ix_tup (pv 1) pe_int (fun _ _ => rfl))) pe_bl))
    (pss_cons (ps_set (i := 4) sc_is_one_closed_part.nd rfl (.inl rfl) (pe_lst (pa_cons (FwK.pe_or (pe_ix ix_list (pv 1) pe_int (fun _ _ => rfl)) (pe_ix ix_tup (pv 1) pe_int (fun _ _ => rfl))) pa_nil)))
    (pss_cons (ps_set (i := 5) sc_is_one_closed_part.nd rfl (.inl rfl) pe_int)
    (pss_cons (ps_while PassesOwn.never (pt_cmpR op_lt (pv 5) (pe_callB (id := "len") call_len_seq (by rfl) tx.len (by decide +kernel) (pa_cons (pv 4) pa_nil)) (nomark _)) (pss_cons (ps_set (i := 6) sc_is_one_closed_part.nd rfl (.inl rfl) (pe_ix ix_list (pv 4) (pv 5) (fun _ _ => rfl)))
    (pss_cons (ps_aug (i := 5) sc_is_one_closed_part.nd rfl (.inl rfl) pe_int ip_add)
    (pss_one (ps_for PassesOwn.never rfl (pi_list (pe_methH h_Steps_tables_from (pv 0) (hr.mono (by decide)) (pa_cons (pv 6) pa_nil))) (pg_name (i := 7) sc_is_one_closed_part.nd rfl (.inl rfl)) (pss_cons (ps_if (pt_cmpR (FwD.op_ninX (hu16 hr)) (pv 7) (pv 2) (by rfl)) (pss_one (ps_ret pe_bl)) pss_nil)
    (pss_one (ps_if (pt_cmpR (FwD.op_ninX (hu16 hr)) (pv 7) (pv 3) (by rfl)) (pss_cons (ps_asg pe_bl (pg_sub (pv 3) (pv 7) (FwD.set_putX (hu16 hr))))
    (pss_one (ps_expr (pe_bm PySem.F.plainAttrs_list PySem.F.slot_list_append PySem.F.type_list_append mt_append (pv 4) (pa_cons (pv 7) pa_nil))))) pss_nil))))))))
    (pss_one (ps_ret (pe_cmpR op_eq (pe_callB (id := "len") call_len_seq (by rfl) tx.len (by decide +kernel) (pa_cons (pv 4) pa_nil)) (pe_callB (id := "len") call_len_seq (by rfl) tx.len (by decide +kernel) (pa_cons (pv 1) pa_nil)) (nomark _))))))))),
  bodyF h fun ds Φ hp => by
    obtain ⟨rows, n, book, t, vs, x, rfl, hx, G, hT, nd, lv, q⟩ := hp
    have few := G.B.few
    have n4 := G.F.four
    let tr : List Int → PyData := fun _ => .bool true
    have kvV : KV (dkv tr (t :: vs)) := dkv_kv tr (fun z => nomatch z)
    refine s_seq (s_movDic (i := 2) (d_dc (js := [8]) (fun k hk => by rw [List.mem_singleton.mp hk]; decide) (i_any (e_var rfl ⟨_, hx, by rw [List.length_map, List.length_cons]; omega, fun i acc => acc = dkv tr ((t :: vs).take i), rfl, fun i y acc hy inv _ => ?_, fun acc al inv => ?_⟩))))
    · rw [List.getElem?_map] at hy
      obtain ⟨m, hm, rfl⟩ := Option.map_eq_some_iff.mp hy
      refine g_name (t_yes ?_)
      rw [if_pos rfl]
      refine e_var rfl ⟨key_ok m, e_bl ?_⟩
      have tk : (t :: vs).take (i + 1) = (t :: vs).take i ++ [m] := by rw [List.take_add_one, hm]; rfl
      have nm : m ∉ (t :: vs).take i := fun z => by
        have h2 : ((t :: vs).take (i + 1)).Nodup := nd.sublist (List.take_sublist _ _)
        rw [tk] at h2
        exact (List.nodup_append.mp h2).2.2 m z m List.mem_cons_self rfl
      rw [inv]
      show FwD.putD (dkv tr ((t :: vs).take i)) (tupI m) (tr m) = dkv tr ((t :: vs).take (i + 1))
      rw [tk, dkv_put tr nm]
    rw [List.length_map, List.take_length] at inv
    subst inv
    refine s_pubM (i := 2) rfl (one_of rfl) (kv_ne kvV) ?_
    refine s_seq (s_cut (fun e => e = [.dat (stD C_Steps book), .dat x, .dat (.dict (dkv tr (t :: vs))), .mov (dicM K (dkv tr [t])), .no, .no, .no, .no, .no]) ?_ ?_)
    · have e0 : FwD.putD [] (tupI t) (.bool true) = dkv tr [t] := dkv_put (ks := []) tr (fun z => nomatch z)
      rcases hx with rfl | rfl
      · exact s_movDic (i := 3) (d_one (e_or1 (e_op (e_var rfl (e_int (od_ixL_ (row_at (k := 0) (ms := t :: vs) rfl) ⟨key_ok t, e_bl (by rw [e0]; rfl)⟩))))))
      · exact s_movDic (i := 3) (d_one (e_or2 (e_op (e_var rfl (e_int (od_ixT_ (row_at (k := 0) (ms := t :: vs) rfl) ⟨key_ok t, e_bl (by rw [e0]; rfl)⟩))))))
    rintro e rfl
    refine s_seq (s_cut (fun e => e = [.dat (stD C_Steps book), .dat x, .dat (.dict (dkv tr (t :: vs))), .mov (dicM K (dkv tr [t])), .own ([t].map fun m => tupI m), .no, .no, .no, .no]) ?_ ?_)
    · rcases hx with rfl | rfl
      · exact s_own (i := 4) (a_cons (e_or1 (e_op (e_var rfl (e_int (od_ixL_ (row_at (k := 0) (ms := t :: vs) rfl) (a_nil ⟨(show 1 ≤ 100000 by decide), rfl⟩)))))))
      · exact s_own (i := 4) (a_cons (e_or2 (e_op (e_var rfl (e_int (od_ixT_ (row_at (k := 0) (ms := t :: vs) rfl) (a_nil ⟨(show 1 ≤ 100000 by decide), rfl⟩)))))))
    rintro e rfl
    refine s_seq (s_asg (e_int ?_))
    refine s_seq (s_while (fun n' e => ∃ (Q : List (List Int)) (at_ : Nat) (s6 s7 : Slot), e = [.dat (stD C_Steps book), .dat x, .dat (.dict (dkv tr (t :: vs))), .mov (dicM K (dkv tr Q)), .own (Q.map fun m => tupI m), .dat (.int (at_ : Nat)), s6, s7, .no] ∧ (isMov s6 = false ∧ isMov s7 = false) ∧ Q.Nodup ∧ t ∈ Q ∧ (∀ y ∈ Q, y ∈ t :: vs) ∧ (∀ y ∈ Q, ∃ k, Wk book t k y) ∧ DoneTo book Q at_ ∧ at_ ≤ Q.length ∧ n' = 1001 - at_) 1001 ⟨[t], 0, _, _, rfl, ⟨rfl, rfl⟩, List.pairwise_singleton _ _, List.mem_singleton.mpr rfl, fun y hy => by rw [List.mem_singleton.mp hy]; exact List.mem_cons_self, fun y hy => ⟨0, by rw [List.mem_singleton.mp hy]; exact .nil⟩, fun i x h => absurd h (Nat.not_lt_zero _), Nat.zero_le _, rfl⟩ ?_)
    rintro n' e ⟨Q, at_, s6, s7, rfl, ⟨m6, m7⟩, qn, qt, qi, qw, done_, aq, rfl⟩
    have q5 := nodup_len qn qi
    rw [List.length_cons] at q5
    refine t_test (e_op (e_var rfl (e_lenO (i := 4) rfl ?_)))
    rw [List.length_map]
    repeat' walk_at "wp"
    by_cases hlt : at_ < Q.length
    · refine iteD (by omega) ?_
      have hk : Q[at_]? = some Q[at_] := List.getElem?_eq_getElem hlt
      generalize Q[at_] = h at hk
      have hm := List.mem_of_getElem? hk
      obtain ⟨kk, hw⟩ := qw h hm
      have Th := hT h (qi h hm)
      refine s_seq (s_asg (e_ixO2 (i := 4) (j := 5) rfl rfl ⟨tupI h, row_at hk, flat_tupI _, ?_⟩))
      refine s_seq (s_aug (i := 5) (a := (at_ : Int)) rfl (e_int ⟨1, rfl, ?_⟩))
      refine s_for (js := [7]) (i_list_ (e_meth (e_var rfl ⟨stX, stE book, rfl, rfl, by decide, a_cons (e_var rfl (a_nil ⟨rows, n, book, h, rfl, G, Th, _, rfl, fun i e => ∃ (X : List (List Int)) (s7 : Slot), e = [.dat (stD C_Steps book), .dat x, .dat (.dict (dkv tr (t :: vs))), .mov (dicM K (dkv tr (Q ++ X))), .own ((Q ++ X).map fun m => tupI m), .dat (.int ((at_ + 1 : Nat) : Int)), .dat (tupI h), s7, .no] ∧ isMov s7 = false ∧ (Q ++ X).Nodup ∧ (∀ y ∈ Q ++ X, y ∈ t :: vs) ∧ (∀ y ∈ Q ++ X, ∃ k, Wk book t k y) ∧ ∀ j, j < i → ∀ y, (nexts book h)[j]? = some y → y ∈ Q ++ X, ⟨[], s7, by rw [List.append_nil]; rfl, m7, by rw [List.append_nil]; exact qn, by rw [List.append_nil]; exact qi, by rw [List.append_nil]; exact qw, fun j hj => absurd hj (Nat.not_lt_zero _)⟩, fun i x e hx => ?_, ?_⟩))⟩)))
      · rintro ⟨X, t7, rfl, n7, xn, xi, xw, fnd⟩
        rw [List.getElem?_map] at hx
        obtain ⟨y, hy, rfl⟩ := Option.map_eq_some_iff.mp hx
        have yn := List.mem_of_getElem? hy
        have x5 := nodup_len xn xi
        rw [List.length_cons] at x5
        have keep : ∀ (Y : List (List Int)), (∀ z ∈ Q ++ X, z ∈ Y) → y ∈ Y → ∀ j, j < i + 1 → ∀ z, (nexts book h)[j]? = some z → z ∈ Y := fun Y h1 h2 j hj z hz => by
          by_cases hj2 : j < i
          · exact h1 _ (fnd j hj2 z hz)
          · have : j = i := by omega
            subst this
            rw [hy] at hz
            cases hz
            exact h2
        refine g_name (s_seq (s_if (t_test (e_op (e_var rfl (e_var rfl (od_inX kvV (key_ok y) ⟨_, rfl, ?_⟩)))))))
        rw [if_pos rfl, dkv_has]
        by_cases hin : y ∈ t :: vs
        · rw [decide_eq_true hin]
          refine iteNT (s_next ?_)
          refine s_if (t_test (e_inM (i := 3) rfl (e_var rfl ⟨key_ok _, _, rfl, ?_⟩)))
          rw [if_pos rfl, dkv_has]
          by_cases hq : y ∈ Q ++ X
          · rw [decide_eq_true hq]
            refine iteNT ?_
            exact s_next ⟨X, .dat (tupI y), rfl, rfl, xn, xi, xw, keep _ (fun z hz => hz) hq⟩
          · rw [decide_eq_false hq]
            refine iteNF ?_
            refine s_seq (s_dput (i := 3) rfl (one_of rfl) (e_bl (e_var rfl ⟨key_ok _, by rw [dkv_len]; omega, ?_⟩)))
            have ep : FwD.putD (dkv tr (Q ++ X)) (tupI y) (.bool true) = dkv tr (Q ++ X ++ [y]) := dkv_put tr hq
            rw [ep]
            refine s_app (i := 4) rfl (e_var rfl ⟨by rw [List.length_map]; omega, ?_⟩)
            refine ⟨X ++ [y], .dat (tupI y), ?_, rfl, ?_, ?_, ?_, keep _ (fun z hz => by rw [← List.append_assoc]; exact List.mem_append_left _ hz) (by simp)⟩
            · rw [← List.append_assoc, List.map_append (l₁ := Q ++ X)]
              rfl
            · rw [← List.append_assoc]
              exact List.nodup_append.mpr ⟨xn, by simp, fun a ha b hb => by rw [List.mem_singleton.mp hb]; exact fun z => hq (z ▸ ha)⟩
            · rw [← List.append_assoc]
              intro z hz
              rcases List.mem_append.mp hz with w | w
              · exact xi z w
              · rw [List.mem_singleton.mp w]; exact hin
            · rw [← List.append_assoc]
              intro z hz
              rcases List.mem_append.mp hz with w | w
              · exact xw z w
              · rw [List.mem_singleton.mp w]; exact ⟨kk + 1, .step hw yn⟩
        · rw [decide_eq_false hin]
          refine iteNF ?_
          exact s_ret (e_bl (q false ⟨fun z => (nomatch z), fun z => absurd ((z y).mpr ⟨kk + 1, .step hw yn⟩) hin⟩))
      · rintro e ⟨X, t7, rfl, n7, xn, xi, xw, fnd⟩
        rw [List.length_map] at fnd
        refine ⟨1001 - (at_ + 1), by omega, Q ++ X, at_ + 1, .dat (tupI h), t7, rfl, ⟨rfl, n7⟩, xn, List.mem_append_left _ qt, xi, xw, fun i z hi ez w hw2 => ?_, by rw [List.length_append]; omega, rfl⟩
        rw [List.getElem?_append_left (by omega)] at ez
        by_cases hi2 : i < at_
        · exact List.mem_append_left _ (done_ i z hi2 ez w hw2)
        · have : i = at_ := by omega
          subst this
          rw [hk] at ez
          cases ez
          obtain ⟨j, hj, e'⟩ := mem_of_idx hw2
          exact fnd j hj w e'
    · refine iteDF (by omega) ?_
      have ea : at_ = Q.length := by omega
      subst ea
      have clo : ∀ k y, Wk book t k y → y ∈ Q := fun k y hy => by
        induction hy with
        | nil => exact qt
        | step _ hn ih =>
          obtain ⟨i, hi, e'⟩ := mem_of_idx ih
          exact done_ i _ hi e' _ hn
      have ans := q (decide (Q.length = vs.length + 1)) (by
        rw [decide_eq_true_iff]
        constructor
        · intro hl y
          refine ⟨fun hy => ?_, fun ⟨k, hk⟩ => qi y (clo k y hk)⟩
          by_cases z : y ∈ Q
          · exact qw y z
          · exfalso
            have := nodup_len (l := y :: Q) (m := t :: vs) (List.nodup_cons.mpr ⟨z, qn⟩) fun w hw => by
              rcases List.mem_cons.mp hw with e | e
              · rw [e]; exact hy
              · exact qi w e
            rw [List.length_cons, List.length_cons] at this
            omega
        · intro hall
          have := nodup_len nd fun y hy => by
            obtain ⟨k, hk⟩ := (hall y).mp hy
            exact clo k y hk
          rw [List.length_cons] at this
          omega)
      have e : decide (((Q.length : Nat) : Int) = ((vs.length + 1 : Nat) : Int)) = decide (Q.length = vs.length + 1) := decide_eq_decide.mpr ⟨fun h => by omega, fun h => by omega⟩
      refine s_ret (e_op (e_lenO (i := 4) rfl ?_))
      rcases hx with rfl | rfl
      · refine e_cb (a_cons (e_var rfl (a_nil (cb_len_ (.inr rfl) (od_eqI ?_)))))
        rw [List.length_map, List.length_map, List.length_cons, e]
        exact ans
      · refine e_cb (a_cons (e_var rfl (a_nil (cb_len_ (.inl rfl) (od_eqI ?_)))))
        rw [List.length_map, List.length_map, List.length_cons, e]
        exact ans
⟩
theorem has_is_one_closed_part (D : Dn K mg "is_one_closed_part" s_is_one_closed_part) {C_Steps : Addr} (tx : Tx mg) (cf : Cf K C_Steps) (h_Steps_tables_from : HasM P w K mg base C_Steps "tables_from" ["self", "table"] 2 (SpF K (pre_Steps_tables_from C_Steps))) : Has P w K mg base "is_one_closed_part" ["steps", "tables"] 3 (SpF K (pre_is_one_closed_part C_Steps)) := has_of D (fun _ _ _ _ _ _ us hl => match us, hl with | [_, _], _ => rfl) (ok_is_one_closed_part tx cf h_Steps_tables_from)

theorem ok_is_closed_lot {C_Steps : Addr} (tx : Tx mg) (cf : Cf K C_Steps) (h_check_book : Has P w K mg base "check_book" ["frame", "value"] 8 (SpF K pre_check_book)) (h_is_rising : Has P w K mg base "is_rising" ["values"] 1 (SpF K pre_is_rising)) (h_is_one_closed_part : Has P w K mg base "is_one_closed_part" ["steps", "tables"] 3 (SpF K (pre_is_one_closed_part C_Steps))) (h_is_listed : Has P w K mg base "is_listed" ["value"] 1 (SpF K pre_is_listed)) (h_Steps___init__ : HasI P w K mg base C_Steps "Steps" ["self", "book"] 1 (SpI K (pre_Steps___init__ C_Steps))) (h_is_table_of : Has P w K mg base "is_table_of" ["frame", "value"] 5 (SpF K pre_is_table_of)) : ∀ f fd, FnP K "is_closed_lot" s_is_closed_lot f fd → FnOk P w K mg base CX0 9 f fd ["frame", "book", "value"] (SpF K (pre_is_closed_lot C_Steps)) := fun f fd F =>
  F.ok sc_is_closed_lot (fun vs H Q E s => lenF (fun ds Φ h => by
    obtain ⟨_, _, _, _, rfl, _⟩ := h; rfl) s) fun cdv A outer s H vs Q E hr h => ⟨_, PSs.nox (pss_cons (ps_expr (pe_callH h_check_book (hr.mono (by decide)) (by rfl) (pa_cons (pv 0) (pa_cons (pv 1) pa_nil))))
    (pss_cons (ps_if (PW.pt (pw_or (pt_not (pt_val (pe_callH h_is_listed (hr.mono (by decide)) (by rfl) (pa_cons (pv 2) pa_nil)))) (pw_or1 (pt_cmpR op_eq (pe_callB (id := "len") call_len_seq (by rfl) tx.len (by decide +kernel) (pa_cons (pv 2) pa_nil)) pe_int (nomark _))))) (pss_one (ps_ret pe_bl)) pss_nil)
    (pss_cons (ps_if (pt_not (pt_val (pe_callB (id := "all") (cr_all rfl) (by rfl) tx.all (by decide +kernel) (pa_cons (pe_lc (own := [("table", 3)]) (g := gName 3) (by rfl) sc_is_closed_lot.nd (FwU.pi_any (pv 2)) (blkOk_by (N := N_is_closed_lot) (sc := defScope s_is_closed_lot) (by decide +kernel)) (fun _ _ _ _ _ => (pg_name (i := 3) sc_is_closed_lot.nd rfl (by first | exact Or.inl rfl | exact Or.inr rfl))) (fun _ _ _ _ _ => pts_nil) (fun _ _ _ _ _ => (pe_callH h_is_table_of (hr.mono (by decide)) (by rfl) (pa_cons (pv 0) (pa_cons (pv 3) pa_nil))))) pa_nil)))) (pss_one (ps_ret pe_bl)) pss_nil)
    (pss_one (ps_ret (pe_and (pe_callH h_is_rising (hr.mono (by decide)) (by rfl) (pa_cons (pv 2) pa_nil)) (pe_one (pe_callH h_is_one_closed_part (hr.mono (by decide)) (by rfl) (pa_cons (pe_makeH h_Steps___init__ (hr.mono (by decide)) (by rfl) (pa_cons (pv 1) pa_nil)) (pa_cons (pv 2) pa_nil)))))))))),
  bodyF h fun ds Φ hp => by
    obtain ⟨rows, n, book, x, rfl, G, hx, lx, q⟩ := hp
    refine s_seq (s_drop (e_call (a_cons (e_var rfl (a_cons (e_var rfl (a_nil ⟨rows, n, book, rfl, G, ?_⟩)))))))
    cases x with
    | list xs =>
      have sx : Seq (.list xs) xs := .inl rfl
      have lz := lx xs sx
      by_cases ne : xs = []
      · subst ne
        repeat' walk_at "wp"
        refine ⟨rfl, ?_⟩
        repeat' walk_at "wp"
        rw [if_neg (show ¬ (!isLst (.list [])) = true from Bool.false_ne_true)]
        repeat' walk_at "wp"
        exact q false ⟨fun z => (nomatch z), fun z => absurd rfl (cl_seq sx z).1⟩
      · have pos := List.length_pos_iff.mpr ne
        repeat' walk_at "wp"
        refine ⟨rfl, ?_⟩
        repeat' walk_at "wp"
        rw [if_neg (show ¬ (!isLst (.list xs)) = true from Bool.false_ne_true)]
        repeat' walk_at "wp"
        refine e_map (js := [3]) (fun k hk => by rw [List.mem_singleton.mp hk]; decide) (i_any (e_var rfl ⟨_, sx, by omega, fun y => .bool (isTab rows n y), fun i y hy => g_name ?_, ?_⟩))
        · repeat' walk_at "wp"
          exact ⟨rows, n, y, rfl, G.F.fr, hx.2 y (List.mem_of_getElem? hy), rfl⟩
        · refine a_nil (cb_all_ (xs.map (isTab rows n)) (by rw [List.map_map]; rfl) ?_)
          rw [all_map_id]
          refine ⟨_, rfl, ?_⟩
          by_cases e : xs.all (isTab rows n) = true
          · rw [e, if_neg (show ¬ (!true) = true from Bool.false_ne_true)]
            obtain ⟨er, tk⟩ := tabs_of e
            generalize xs.map rowOf = ms at er tk
            subst er
            rw [List.length_map] at lz
            obtain ⟨t, vs, rfl⟩ : ∃ t vs, ms = t :: vs := by
              cases ms with
              | nil => exact absurd rfl ne
              | cons t vs => exact ⟨t, vs, rfl⟩
            have cl := cl_tabs (book := book) sx tk
            refine s_next (s_ret (e_andV (e_call (a_cons (e_var rfl (a_nil ⟨t :: vs, _, rfl, .inr rfl, by omega, _, rfl, ?_⟩))))))
            by_cases r : riseB (t :: vs) = true
            · rw [if_pos r]
              have asc := rise_asc.mp r
              have nd : (t :: vs).Nodup := asc_nd asc
              refine e_call (a_cons (e_make (a_cons (e_var rfl (a_nil ⟨rfl, rows, n, book, rfl, G, fun _ => ?_⟩)))))
              refine a_cons (e_var rfl (a_nil ⟨rows, n, book, t, vs, _, rfl, sx, G, fun y hy => (tk y hy).tp, nd, by rw [List.length_cons] at lz; omega, fun b hb => ?_⟩))
              exact q b (hb.trans ⟨fun h => cl.mpr ⟨asc, h⟩, fun h => (cl.mp h).2⟩)
            · rw [if_neg r]
              exact q false ⟨fun z => (nomatch z), fun z => absurd (rise_asc.mpr (cl.mp z).1) r⟩
          · have e' : xs.all (isTab rows n) = false := by simpa using e
            rw [e', if_pos (show (!false) = true from rfl)]
            repeat' walk_at "wp"
            exact q false ⟨fun z => (nomatch z), fun z => absurd (cl_seq sx z).2 e⟩
    | tuple xs =>
      have sx : Seq (.tuple xs) xs := .inr rfl
      have lz := lx xs sx
      by_cases ne : xs = []
      · subst ne
        repeat' walk_at "wp"
        refine ⟨rfl, ?_⟩
        repeat' walk_at "wp"
        rw [if_neg (show ¬ (!isLst (.tuple [])) = true from Bool.false_ne_true)]
        repeat' walk_at "wp"
        exact q false ⟨fun z => (nomatch z), fun z => absurd rfl (cl_seq sx z).1⟩
      · have pos := List.length_pos_iff.mpr ne
        repeat' walk_at "wp"
        refine ⟨rfl, ?_⟩
        repeat' walk_at "wp"
        rw [if_neg (show ¬ (!isLst (.tuple xs)) = true from Bool.false_ne_true)]
        repeat' walk_at "wp"
        refine e_map (js := [3]) (fun k hk => by rw [List.mem_singleton.mp hk]; decide) (i_any (e_var rfl ⟨_, sx, by omega, fun y => .bool (isTab rows n y), fun i y hy => g_name ?_, ?_⟩))
        · repeat' walk_at "wp"
          exact ⟨rows, n, y, rfl, G.F.fr, hx.2 y (List.mem_of_getElem? hy), rfl⟩
        · refine a_nil (cb_all_ (xs.map (isTab rows n)) (by rw [List.map_map]; rfl) ?_)
          rw [all_map_id]
          refine ⟨_, rfl, ?_⟩
          by_cases e : xs.all (isTab rows n) = true
          · rw [e, if_neg (show ¬ (!true) = true from Bool.false_ne_true)]
            obtain ⟨er, tk⟩ := tabs_of e
            generalize xs.map rowOf = ms at er tk
            subst er
            rw [List.length_map] at lz
            obtain ⟨t, vs, rfl⟩ : ∃ t vs, ms = t :: vs := by
              cases ms with
              | nil => exact absurd rfl ne
              | cons t vs => exact ⟨t, vs, rfl⟩
            have cl := cl_tabs (book := book) sx tk
            refine s_next (s_ret (e_andV (e_call (a_cons (e_var rfl (a_nil ⟨t :: vs, _, rfl, .inl rfl, by omega, _, rfl, ?_⟩))))))
            by_cases r : riseB (t :: vs) = true
            · rw [if_pos r]
              have asc := rise_asc.mp r
              have nd : (t :: vs).Nodup := asc_nd asc
              refine e_call (a_cons (e_make (a_cons (e_var rfl (a_nil ⟨rfl, rows, n, book, rfl, G, fun _ => ?_⟩)))))
              refine a_cons (e_var rfl (a_nil ⟨rows, n, book, t, vs, _, rfl, sx, G, fun y hy => (tk y hy).tp, nd, by rw [List.length_cons] at lz; omega, fun b hb => ?_⟩))
              exact q b (hb.trans ⟨fun h => cl.mpr ⟨asc, h⟩, fun h => (cl.mp h).2⟩)
            · rw [if_neg r]
              exact q false ⟨fun z => (nomatch z), fun z => absurd (rise_asc.mpr (cl.mp z).1) r⟩
          · have e' : xs.all (isTab rows n) = false := by simpa using e
            rw [e', if_pos (show (!false) = true from rfl)]
            repeat' walk_at "wp"
            exact q false ⟨fun z => (nomatch z), fun z => absurd (cl_seq sx z).2 e⟩
    | dict kvs =>
      cases kvs with
      | cons a r => exact hx.elim
      | nil =>
        repeat' walk_at "wp"
        refine ⟨rfl, ?_⟩
        repeat' walk_at "wp"
        rw [if_pos (show (!isLst (.dict [])) = true from rfl)]
        repeat' walk_at "wp"
        exact q false ⟨fun z => (nomatch z), fun z => absurd z (cl_no fun _ h => by rcases h with h | h <;> cases h)⟩
    | _ =>
      repeat' walk_at "wp"
      refine ⟨rfl, ?_⟩
      repeat' walk_at "wp"
      refine (if_pos rfl).symm ▸ ?_
      repeat' walk_at "wp"
      exact q false ⟨fun z => (nomatch z), fun z => absurd z (cl_no fun _ h => by rcases h with h | h <;> cases h)⟩
⟩
theorem has_is_closed_lot (D : Dn K mg "is_closed_lot" s_is_closed_lot) {C_Steps : Addr} (tx : Tx mg) (cf : Cf K C_Steps) (h_check_book : Has P w K mg base "check_book" ["frame", "value"] 8 (SpF K pre_check_book)) (h_is_rising : Has P w K mg base "is_rising" ["values"] 1 (SpF K pre_is_rising)) (h_is_one_closed_part : Has P w K mg base "is_one_closed_part" ["steps", "tables"] 3 (SpF K (pre_is_one_closed_part C_Steps))) (h_is_listed : Has P w K mg base "is_listed" ["value"] 1 (SpF K pre_is_listed)) (h_Steps___init__ : HasI P w K mg base C_Steps "Steps" ["self", "book"] 1 (SpI K (pre_Steps___init__ C_Steps))) (h_is_table_of : Has P w K mg base "is_table_of" ["frame", "value"] 5 (SpF K pre_is_table_of)) : Has P w K mg base "is_closed_lot" ["frame", "book", "value"] 9 (SpF K (pre_is_closed_lot C_Steps)) := has_of D (fun _ _ _ _ _ _ us hl => match us, hl with | [_, _, _], _ => rfl) (ok_is_closed_lot tx cf h_check_book h_is_rising h_is_one_closed_part h_is_listed h_Steps___init__ h_is_table_of)

theorem ok__law_pot (tx : Tx mg) : ∀ f fd, FnP K "_law_pot" s__law_pot f fd → FnOk P w K mg base CX0 1 f fd ["script", "k"] (SpN K pre__law_pot) := fun f fd F =>
  F.ok sc__law_pot (fun vs H Q E s => lenN (fun ds Φ h => by
    obtain ⟨_, rfl, _⟩ := h; rfl) s) fun cdv A outer s H vs Q E hr h => ⟨_, PSs.nox (pss_cons (ps_set (i := 2) sc__law_pot.nd rfl (.inl rfl) (pe_ifExp (pt_cmpR op_lt (pv 1) (pe_callB (id := "len") call_len_seq (by rfl) tx.len (by decide +kernel) (pa_cons (pv 0) pa_nil)) (nomark _)) (pe_callB (id := "abs") call_abs (by rfl) tx.abs (by decide +kernel) (pa_cons (pe_ix ix_list (pv 0) (pv 1) (fun _ _ => rfl)) pa_nil)) (pe_op op_add (pe_op op_mul pe_int (pv 1)) pe_int)))
    (pss_cons (ps_set (i := 3) sc__law_pot.nd rfl (.inl rfl) (pe_op op_add (pe_op op_modN (pe_callTy call_int1 (by rfl) tx.int (by decide +kernel) (pa_cons (pe_op op_add (pe_op op_add (pe_op op_mul (pe_op op_modN (pe_callTy call_int1 (by rfl) tx.int (by decide +kernel) (pa_cons (pv 2) pa_nil)) pe_int) pe_int) (pe_op op_mul pe_int (pv 1))) pe_int) pa_nil)) pe_int) pe_int))
    (pss_one (ps_ret (pe_lst (pa_cons (pe_callB (id := "max") (call_max2 rfl) (by rfl) tx.max (by decide +kernel) (pa_cons pe_int (pa_cons (pe_op op_sub (pv 2) (pe_op op_pow pe_int pe_int)) pa_nil))) (pa_cons (pv 3) pa_nil))))))),
  bodyN h fun ds Φ hp => by
    obtain ⟨ns, rfl, nl, q⟩ := hp
    refine s_seq (s_asg (WpE.mono (Φ := fun d => ∃ c : Int, d = .int c) ?_ ?_))
    · repeat' walk_at "wp"
      refine iteP (fun h => ?_) (fun h => ?_)
      · repeat' walk_at "wp"
        refine od_ixL_ (ix_ints (by decide) (by rw [List.length_map] at h; omega)) ?_
        repeat' walk_at "wp"
        exact ⟨_, rfl⟩
      · repeat' walk_at "wp"
        · exact .inl ⟨by decide, by decide⟩
        · exact ⟨_, rfl⟩
    rintro d ⟨c, rfl⟩
    have f1 := Int.fmod_nonneg_of_pos c (show (0 : Int) < 2147483549 by decide)
    have f2 := Int.fmod_lt_of_pos c (show (0 : Int) < 2147483549 by decide)
    refine s_seq (s_asg (WpE.mono (Φ := fun d => ∃ c : Int, d = .int c ∧ 0 ≤ c ∧ c < 4294967296) ?_ ?_))
    · repeat' walk_at "wp"
      all_goals try first | decide | exact .inl ⟨by omega, by omega⟩ | exact .inl ⟨by decide, by decide⟩ | exact ⟨by decide, by decide, by decide⟩
      have g1 := Int.fmod_nonneg_of_pos (c.fmod 2147483549 * 40014 + 9533 * 0 + 107) (show (0 : Int) < 2147483563 by decide)
      have g2 := Int.fmod_lt_of_pos (c.fmod 2147483549 * 40014 + 9533 * 0 + 107) (show (0 : Int) < 2147483563 by decide)
      exact ⟨by omega, by omega⟩
    rintro d ⟨lo, rfl, l0, l1⟩
    refine s_retF (f_lst ?_)
    repeat' walk_at "wp"
    all_goals try first | decide | exact .inl ⟨by omega, by omega⟩ | exact .inl ⟨by decide, by decide⟩ | exact ⟨by decide, by decide, by decide⟩
    refine q _ _ ⟨?_, l0, l1⟩
    split <;> omega
⟩
theorem has__law_pot (D : Dn K mg "_law_pot" s__law_pot) (tx : Tx mg) : Has P w K mg base "_law_pot" ["script", "k"] 1 (SpN K pre__law_pot) := has_of D (fun _ _ _ _ _ _ us hl => match us, hl with | [_, _], _ => rfl) (ok__law_pot tx)

theorem ok__law_draw (tx : Tx mg) : ∀ f fd, FnP K "_law_draw" s__law_draw f fd → FnOk P w K mg base CX0 1 f fd ["pot", "size"] (SpG K pre__law_draw) := fun f fd F =>
  F.ok sc__law_draw (fun vs H Q E s => lenG (fun ds Φ h => by
    obtain ⟨_, rfl, _⟩ := h; rfl) s) fun cdv A outer s H vs Q E hr h => ⟨_, PSs.nox (pss_cons (ps_if (pt_cmpR op_gt (pe_ix ix_list (pv 0) pe_int (fun _ _ => rfl)) pe_int (nomark _)) (pss_cons (ps_asg (pe_callB (id := "divmod") call_divmod (by rfl) tx.divmod (by decide +kernel) (pa_cons (pe_ix ix_list (pv 0) pe_int (fun _ _ => rfl)) (pa_cons (pv 1) pa_nil))) (pg_tup (by rfl) (pgs_cons (pg_sub (pv 0) pe_int set_list) (pgs_cons (pg_name (i := 2) sc__law_draw.nd rfl (.inl rfl)) pgs_nil))))
    (pss_one (ps_ret (pv 2)))) pss_nil)
    (pss_cons (ps_asg (pe_op op_modN (pe_callTy call_int1 (by rfl) tx.int (by decide +kernel) (pa_cons (pe_op op_add (pe_op op_mul (pe_ix ix_list (pv 0) pe_int (fun _ _ => rfl)) pe_int) pe_int) pa_nil)) pe_int) (pg_sub (pv 0) pe_int set_list))
    (pss_one (ps_ret (pe_op op_modN (pe_callTy call_int1 (by rfl) tx.int (by decide +kernel) (pa_cons (pe_op op_fdivN (pe_op op_modN (pe_callTy call_int1 (by rfl) tx.int (by decide +kernel) (pa_cons (pe_op op_mul (pe_ix ix_list (pv 0) pe_int (fun _ _ => rfl)) (pe_ix ix_list (pv 0) pe_int (fun _ _ => rfl))) pa_nil)) pe_int) pe_int) pa_nil)) (pv 1)))))),
  bodyG h fun q ds Φ hp => by
    obtain ⟨n, rfl, n0, n1, q⟩ := hp
    refine s_seq (s_if ?_)
    repeat' walk_at "wp"
    intro a a0
    repeat' walk_at "wp"
    refine iteP (fun h => ?_) (fun h => ?_)
    · refine s_seq (s_potDig rfl (by decide) ?_)
      repeat' walk_at "wp"
      intro b b0
      repeat' walk_at "wp"
      refine cb_divmod ⟨by omega, by omega⟩ ?_
      refine ⟨_, _, rfl, Int.ediv_nonneg b0 (by omega), ?_⟩
      repeat' walk_at "wp"
      exact q _ (Int.emod_nonneg _ (by omega)) (Int.emod_lt_of_pos _ (by omega))
    · repeat' walk_at "wp"
      refine s_pot1 rfl ?_
      repeat' walk_at "wp"
      intro b b0 b1
      repeat' walk_at "wp"
      · exact .inl ⟨by omega, by omega⟩
      · decide
      refine ⟨?_, Int.lt_trans (Int.fmod_lt_of_pos _ (show (0 : Int) < 2147483563 by decide)) (by decide), ?_⟩
      · exact Int.fmod_nonneg_of_pos _ (by decide)
      repeat' walk_at "wp"
      intro c c0 c1
      repeat' walk_at "wp"
      intro d d0 d1
      repeat' walk_at "wp"
      · exact .inl ⟨by omega, by omega⟩
      · decide
      · exact ⟨by decide, by decide⟩
      · omega
      exact q _ (Int.fmod_nonneg_of_pos _ (by omega)) (Int.fmod_lt_of_pos _ (by omega))
⟩
theorem has__law_draw (D : Dn K mg "_law_draw" s__law_draw) (tx : Tx mg) : Has P w K mg base "_law_draw" ["pot", "size"] 1 (SpG K pre__law_draw) := has_of D (fun _ _ _ _ _ _ us hl => match us, hl with | [_, _], _ => rfl) (ok__law_draw tx)

theorem ok__law_pick (tx : Tx mg) (h__law_draw : Has P w K mg base "_law_draw" ["pot", "size"] 1 (SpG K pre__law_draw)) : ∀ f fd, FnP K "_law_pick" s__law_pick f fd → FnOk P w K mg base CX0 2 f fd ["pot", "some"] (SpG K pre__law_pick) := fun f fd F =>
  F.ok sc__law_pick (fun vs H Q E s => lenG (fun ds Φ h => by
    obtain ⟨_, rfl, _⟩ := h; rfl) s) fun cdv A outer s H vs Q E hr h => ⟨_, PSs.nox (pss_one (ps_ret (pe_ix ix_list (pv 1) (pe_callH h__law_draw (hr.mono (by decide)) (by rfl) (pa_cons (pv 0) (pa_cons (pe_callB (id := "len") call_len_seq (by rfl) tx.len (by decide +kernel) (pa_cons (pv 1) pa_nil)) pa_nil))) (fun _ _ => rfl)))),
  bodyG h fun q ds Φ hp => by
    obtain ⟨xs, rfl, h0, h1, q⟩ := hp
    repeat' walk_at "wp"
    intro c c0 c1
    obtain ⟨k, rfl⟩ := Int.eq_ofNat_of_zero_le c0
    have hk : k < xs.length := by omega
    refine od_ixL_ (d := xs[k]) ?_ (q _ (List.getElem_mem hk))
    unfold atI
    rw [ixN_nat (by omega) (by omega)]
    show xs[((k : Int)).toNat]? = _
    rw [Int.toNat_natCast, List.getElem?_eq_getElem hk]
⟩
theorem has__law_pick (D : Dn K mg "_law_pick" s__law_pick) (tx : Tx mg) (h__law_draw : Has P w K mg base "_law_draw" ["pot", "size"] 1 (SpG K pre__law_draw)) : Has P w K mg base "_law_pick" ["pot", "some"] 2 (SpG K pre__law_pick) := has_of D (fun _ _ _ _ _ _ us hl => match us, hl with | [_, _], _ => rfl) (ok__law_pick tx h__law_draw)

theorem ok__law_sums (tx : Tx mg) : ∀ f fd, FnP K "_law_sums" s__law_sums f fd → FnOk P w K mg base CX0 1 f fd ["rows", "row"] (SpF K pre__law_sums) := fun f fd F =>
  F.ok sc__law_sums (fun vs H Q E s => lenF (fun ds Φ h => by
    obtain ⟨_, _, _, rfl, _⟩ := h; rfl) s) fun cdv A outer s H vs Q E hr h => ⟨_, PSs.nox (pss_one (ps_ret (pe_callTy call_tuple_of (by rfl) tx.tuple (by decide +kernel) (pa_cons (pe_lc (own := [("one", 2)]) (g := gName 2) (by rfl) sc__law_sums.nd (pi_tup (pv 0)) (blkOk_by (N := N__law_sums) (sc := defScope s__law_sums) (by decide +kernel)) (fun _ _ _ _ _ => (pg_name (i := 2) sc__law_sums.nd rfl (by first | exact Or.inl rfl | exact Or.inr rfl))) (fun _ _ _ _ _ => pts_nil) (fun _ _ _ _ _ => (pe_callB (id := "sum") (r := rSum K) (cr_sum rfl) (by rfl) tx.sum (by decide +kernel) (pa_cons (pe_lc (own := [("near", 3), ("far", 4)]) (g := gTup K 2 (gCons (gName 3) (gCons (gName 4) gNil))) (by rfl) sc__law_sums.nd (show PI _ _ _ (RZ.iZipA K _) from (RZ.pi_zipA (by rfl) tx.zip (pa_cons (pv 2) (pa_cons (pv 1) pa_nil)))) (blkOk_in (N := N__law_sums) (defScope s__law_sums) rfl rfl (by decide +kernel)) (fun _ _ _ _ _ => (pg_tup (by rfl) (pgs_cons (pg_name (i := 3) sc__law_sums.nd rfl (by first | exact Or.inl rfl | exact Or.inr rfl)) (pgs_cons (pg_name (i := 4) sc__law_sums.nd rfl (by first | exact Or.inl rfl | exact Or.inr rfl)) pgs_nil)))) (fun _ _ _ _ _ => pts_nil) (fun _ _ _ _ _ => (pe_op op_mul (pv 3) (pv 4)))) pa_nil)))) pa_nil)))),
  bodyF h fun ds Φ hp => by
    obtain ⟨rows, n, ns, rfl, r, q⟩ := hp
    have r2 := r.most
    have r4 := r.cmost
    repeat' walk_at "wp"
    refine e_map (js := [2]) (fun k hk => by rw [List.mem_singleton.mp hk]; decide) (i_tup_ (e_var rfl ⟨_, rfl, by rw [List.length_map]; omega, fun y => match y with | .tuple xs => .int (innerI (xs.map toI) ns) | d => d, fun i x hx => g_name ?_, ?_⟩))
    · obtain ⟨m, hm, rfl⟩ := List.mem_map.mp (List.mem_of_getElem? hx)
      have sz := r.size m hm
      have lm := r.len m hm
      repeat' walk_at "wp"
      refine e_mapZ (fun a b => .int (toI a * toI b)) rfl rfl (by rw [List.length_map]; omega) (fun a b ha hb' => ?_) ?_
      · obtain ⟨x, hx, rfl⟩ := List.mem_map.mp ha
        obtain ⟨y, _, rfl⟩ := List.mem_map.mp hb'
        repeat' walk_at "wp"
        · have := sz x hx
          exact .inl ⟨by omega, by omega⟩
        · rfl
      · refine a_nil (cb_sum_ (List.zipWith (fun a b => a * b) m ns) (zip_ints (fun a b => a * b) m ns) ?_)
        show PyData.int _ = PyData.int (innerI ((m.map PyData.int).map toI) ns)
        rw [toI_ints]
        rfl
    · repeat' walk_at "wp"
      have e : PyData.tuple ((rows.map fun m => tupI m).map fun y => match y with | .tuple xs => .int (innerI (xs.map toI) ns) | d => d) = tupI (sumsI rows ns) := by
        unfold sumsI
        rw [tupI, List.map_map, List.map_map]
        congr 1
        refine List.map_congr_left fun m _ => ?_
        show PyData.int (innerI ((m.map PyData.int).map toI) ns) = _
        rw [toI_ints]
        rfl
      rw [e]
      exact q
⟩
theorem has__law_sums (D : Dn K mg "_law_sums" s__law_sums) (tx : Tx mg) : Has P w K mg base "_law_sums" ["rows", "row"] 1 (SpF K pre__law_sums) := has_of D (fun _ _ _ _ _ _ us hl => match us, hl with | [_, _], _ => rfl) (ok__law_sums tx)

theorem ok__law_frame (tx : Tx mg) (h__law_draw : Has P w K mg base "_law_draw" ["pot", "size"] 1 (SpG K pre__law_draw)) : ∀ f fd, FnP K "_law_frame" s__law_frame f fd → FnOk P w K mg base CX0 2 f fd ["pot", "most"] (SpG K pre__law_frame) := fun f fd F =>
  F.ok sc__law_frame (fun vs H Q E s => lenG (fun ds Φ h => by
    obtain ⟨rfl, _⟩ := h; rfl) s) fun cdv A outer s H vs Q E hr h => ⟨_, PSs.nox (pss_cons (ps_set (i := 2) sc__law_frame.nd rfl (.inl rfl) (pe_op op_add pe_int (pe_callH h__law_draw (hr.mono (by decide)) (by rfl) (pa_cons (pv 0) (pa_cons (pe_op op_sub (pv 1) pe_int) pa_nil)))))
    (pss_cons (ps_set (i := 3) sc__law_frame.nd rfl (.inl rfl) (pe_lst (pa_cons (pe_callTy call_tuple_of (by rfl) tx.tuple (by decide +kernel) (pa_cons (pe_lc (own := [("cell", 5)]) (g := gName 5) (by rfl) sc__law_frame.nd (pi_range1 (by rfl) tx.range (pa_cons (pv 2) pa_nil)) (blkOk_by (N := N__law_frame) (sc := defScope s__law_frame) (by decide +kernel)) (fun _ _ _ _ _ => (pg_name (i := 5) sc__law_frame.nd rfl (by first | exact Or.inl rfl | exact Or.inr rfl))) (fun _ _ _ _ _ => pts_nil) (fun _ _ _ _ _ => (pe_op op_add pe_int (pe_op op_fdivN (pe_callH h__law_draw (hr.mono (by decide)) (by rfl) (pa_cons (pv 0) (pa_cons pe_int pa_nil))) pe_int)))) pa_nil)) pa_nil)))
    (pss_cons (ps_for PassesOwn.never rfl (pi_range1 (by rfl) tx.range (pa_cons (pe_callH h__law_draw (hr.mono (by decide)) (by rfl) (pa_cons (pv 0) (pa_cons (pe_op op_sub (pv 2) pe_int) pa_nil))) pa_nil)) (pg_name (i := 4) sc__law_frame.nd rfl (.inl rfl)) (pss_one (ps_expr (pe_bm PySem.F.plainAttrs_list PySem.F.slot_list_append PySem.F.type_list_append mt_append (pv 3) (pa_cons (pe_callTy call_tuple_of (by rfl) tx.tuple (by decide +kernel) (pa_cons (pe_lc (own := [("cell", 5)]) (g := gName 5) (by rfl) sc__law_frame.nd (pi_range1 (by rfl) tx.range (pa_cons (pv 2) pa_nil)) (blkOk_by (N := N__law_frame) (sc := defScope s__law_frame) (by decide +kernel)) (fun _ _ _ _ _ => (pg_name (i := 5) sc__law_frame.nd rfl (by first | exact Or.inl rfl | exact Or.inr rfl))) (fun _ _ _ _ _ => pts_nil) (fun _ _ _ _ _ => (pe_callH h__law_draw (hr.mono (by decide)) (by rfl) (pa_cons (pv 0) (pa_cons pe_int pa_nil))))) pa_nil)) pa_nil)))))
    (pss_one (ps_ret (pe_tup (pa_cons pe_str (pa_cons (pe_callTy call_tuple_of (by rfl) tx.tuple (by decide +kernel) (pa_cons (pv 3) pa_nil)) pa_nil)))))))),
  bodyG h fun q ds Φ hp => by
    obtain ⟨rfl, q⟩ := hp
    refine s_seq (s_cut (fun e => ∃ n : Nat, 2 ≤ n ∧ n ≤ 4 ∧ e = [.pot, .dat (.int 4), .dat (.int n), .no, .no, .no]) (s_asg ?_) ?_)
    · repeat' walk_at "wp"
      intro k k0 k1
      obtain ⟨k, rfl⟩ := Int.eq_ofNat_of_zero_le k0
      repeat' walk_at "wp"
      refine ⟨2 + k, by omega, by omega, ?_⟩
      rw [show (2 + (k : Int)) = ((2 + k : Nat) : Int) by omega]
      rfl
    rintro e ⟨n, n2, n4, rfl⟩
    refine s_seq (s_ownF (f_lst (a_cons (WpE.mono (Φ := fun d => ∃ ns : List Int, d = tupI ns ∧ ns.length = n ∧ ∀ c ∈ ns, 1 ≤ c ∧ c ≤ 2) (e_cb (a_cons (e_rngInts (fun c => 1 ≤ c ∧ c ≤ 2) rfl (by omega) (fun x => ?_) fun ns hl hn => ?_))) ?_))))
    · repeat' walk_at "wp"
      intro c c0 c1
      repeat' walk_at "wp"
      · exact ⟨by decide, by decide⟩
      · have := Int.fdiv_eq_ediv_of_nonneg c (show (0 : Int) ≤ 3 by decide)
        exact ⟨by omega, by omega⟩
    · repeat' walk_at "wp"
      exact hn
    rintro d ⟨r0, rfl, l0, b0⟩
    refine a_nil ⟨(show 1 ≤ 100000 by decide), ?_⟩
    refine s_seq (s_for (js := [4]) (i_rng1 (a_cons (e_callP rfl ?_))))
    repeat' walk_at "wp"
    intro t t0 t1
    refine a_nil ⟨t, rfl, by omega, by omega, fun i e => ∃ (rs : List (List Int)) (s4 : Slot), e = [.pot, .dat (.int 4), .dat (.int n), .own ((r0 :: rs).map fun m => tupI m), s4, .no] ∧ rs.length = i ∧ ∀ m ∈ rs, m.length = n ∧ ∀ c ∈ m, 0 ≤ c ∧ c ≤ 2, ⟨[], _, rfl, rfl, fun _ h => nomatch h⟩, fun i x e hx => ?_, ?_⟩
    · rintro ⟨rs, s4, rfl, ml, hm⟩
      have hi : i < t.toNat := by
        have := (List.getElem?_eq_some_iff.mp hx).1
        rwa [rng_len] at this
      refine g_name (s_app2 rfl (WpE.mono (Φ := fun d => ∃ ns : List Int, d = tupI ns ∧ ns.length = n ∧ ∀ c ∈ ns, 0 ≤ c ∧ c ≤ 2) (e_cb (a_cons (e_rngInts (fun c => 0 ≤ c ∧ c ≤ 2) rfl (by omega) (fun x => ?_) fun ns hl hn => ?_))) ?_))
      · repeat' walk_at "wp"
        intro c c0 c1
        exact ⟨_, rfl, by omega, by omega⟩
      · repeat' walk_at "wp"
        exact hn
      rintro d ⟨ns, rfl, hl, hn⟩
      refine ⟨by rw [List.length_map, List.length_cons]; omega, rs ++ [ns], .dat x, ?_, by rw [List.length_append, ml]; rfl, fun m hm' => ?_⟩
      · have e1 : (r0 :: (rs ++ [ns])).map (fun m => tupI m) = (r0 :: rs).map (fun m => tupI m) ++ [tupI ns] := by
          rw [← List.cons_append, List.map_append]
          rfl
        rw [e1]
        rfl
      · rcases List.mem_append.mp hm' with z | z
        · exact hm m z
        · rw [List.mem_singleton.mp z]
          exact ⟨hl, hn⟩
    · rintro e ⟨rs, s4, rfl, ml, hm⟩
      rw [rng_len] at ml
      refine s_pub (i := 3) rfl ?_
      repeat' walk_at "wp"
      refine q (r0 :: rs) n ⟨⟨by simp, by rw [List.length_cons]; omega, by omega, by omega, fun r hr' => ?_, fun r hr' c hc => ?_, fun i hi => ?_⟩, n2, n4, r0, rs, rfl, b0⟩
      · rcases List.mem_cons.mp hr' with z | z
        · rw [z]; exact l0
        · exact (hm r z).1
      · rcases List.mem_cons.mp hr' with z | z
        · rw [z] at hc
          have := b0 c hc
          omega
        · have := (hm r z).2 c hc
          omega
      · have hi2 : i < r0.length := by omega
        refine ⟨r0, by simp, r0[i], List.getElem?_eq_getElem hi2, ?_⟩
        have := b0 r0[i] (List.getElem_mem hi2)
        omega
⟩
theorem has__law_frame (D : Dn K mg "_law_frame" s__law_frame) (tx : Tx mg) (h__law_draw : Has P w K mg base "_law_draw" ["pot", "size"] 1 (SpG K pre__law_draw)) : Has P w K mg base "_law_frame" ["pot", "most"] 2 (SpG K pre__law_frame) := has_of D (fun _ _ _ _ _ _ us hl => match us, hl with | [_, _], _ => rfl) (ok__law_frame tx h__law_draw)

theorem ok__law_rows (tx : Tx mg) : ∀ f fd, FnP K "_law_rows" s__law_rows f fd → FnOk P w K mg base CX0 1 f fd ["many", "size"] (SpF K pre__law_rows) := fun f fd F =>
  F.ok sc__law_rows (fun vs H Q E s => lenF (fun ds Φ h => by
    obtain ⟨_, _, rfl, _⟩ := h; rfl) s) fun cdv A outer s H vs Q E hr h => ⟨_, PSs.nox (pss_cons (ps_set (i := 2) sc__law_rows.nd rfl (.inl rfl) (pe_lst (pa_cons (pe_tup pa_nil) pa_nil)))
    (pss_cons (ps_for PassesOwn.never rfl (pi_range1 (by rfl) tx.range (pa_cons (pv 0) pa_nil)) (pg_name (i := 3) sc__law_rows.nd rfl (.inl rfl)) (pss_cons (ps_set (i := 4) sc__law_rows.nd rfl (.inl rfl) (pe_lst pa_nil))
    (pss_cons (ps_for PassesOwn.never rfl (pi_list (pv 2)) (pg_name (i := 5) sc__law_rows.nd rfl (.inr rfl)) (pss_one (ps_expr (pe_bm PySem.F.plainAttrs_list PySem.F.slot_list_extend PySem.F.type_list_extend mt_extend (pv 4) (pa_cons (pe_lc (own := [("at", 6)]) (g := gName 6) (by rfl) sc__law_rows.nd (pi_range2 (by rfl) tx.range (pa_cons (pe_op op_sub pe_int (pv 1)) (pa_cons (pe_op op_add (pv 1) pe_int) pa_nil))) (blkOk_by (N := N__law_rows) (sc := defScope s__law_rows) (by decide +kernel)) (fun _ _ _ _ _ => (pg_name (i := 6) sc__law_rows.nd rfl (by first | exact Or.inl rfl | exact Or.inr rfl))) (fun _ _ _ _ _ => pts_nil) (fun _ _ _ _ _ => (pe_op (r := rCatA K) op_catA (pv 5) (pe_tup (pa_cons (pv 6) pa_nil))))) pa_nil)))))
    (pss_one (ps_set (i := 2) sc__law_rows.nd rfl (.inl rfl) (pv 4))))))
    (pss_one (ps_ret (pv 2))))),
  bodyF h fun ds Φ hp => by
    obtain ⟨n, s, rfl, n4, s2, q⟩ := hp
    refine s_seq (s_asg (e_lst (a_cons (e_tup (a_nil ⟨by decide, a_nil ⟨(show 1 ≤ 100000 by decide), ?_⟩⟩)))))
    refine s_seq (s_for (js := [3]) (i_rng1 (a_cons (e_var rfl (a_nil ⟨n, rfl, by omega, by omega, fun i e => ∃ (s3 s4 s5 : Slot), e = [.dat (.int n), .dat (.int s), .dat (rowsL (rowsN s i)), s3, s4, s5, .no], ⟨_, _, _, rfl⟩, fun i x e hx => ?_, ?_⟩)))))
    · rintro ⟨s3, s4, s5, rfl⟩
      have hi : i < n := by
        have := (List.getElem?_eq_some_iff.mp hx).1
        rw [rng_len] at this
        omega
      have ml := rowsN_few (s := s) (n := i) (by omega) s2
      refine g_name (s_seq (s_ownF (f_lst (a_nil ⟨by decide, ?_⟩))))
      refine s_seq (s_for (js := [5]) (i_list_ (e_var rfl ⟨_, rfl, fun j e => ∃ (s5 : Slot), e = [.dat (.int n), .dat (.int s), .dat (rowsL (rowsN s i)), .dat x, .own ((((rowsN s i).take j).flatMap (grow s)).map fun m => tupI m), s5, .no], ⟨_, rfl⟩, fun j y e hy => ?_, ?_⟩)))
      · rintro ⟨s5', rfl⟩
        rw [List.getElem?_map] at hy
        obtain ⟨m, hm, rfl⟩ := Option.map_eq_some_iff.mp hy
        have hj : j < (rowsN s i).length := (List.getElem?_eq_some_iff.mp hm).1
        have lm := (rowsN_mem (List.mem_of_getElem? hm)).1
        have tk : ((rowsN s i).take (j + 1)).flatMap (grow s) = ((rowsN s i).take j).flatMap (grow s) ++ grow s m := by
          rw [List.take_add_one, hm, List.flatMap_append]
          simp
        have ll : (((rowsN s i).take j).flatMap (grow s)).length ≤ 625 * 5 := by
          rw [flat_len (grow_len s), List.length_take]
          exact Nat.mul_le_mul (by omega) (by omega)
        refine g_name (s_ext rfl (f_map (js := [6]) (fun k hk => by rw [List.mem_singleton.mp hk]; decide) (i_rng2 (a_cons (e_op (e_int (e_var rfl (od_sub ?_))))))))
        refine a_cons (e_op (e_var rfl (e_int (od_add (a_nil ⟨0 - (s : Int), (s : Int) + 1, rfl, ⟨by omega, by omega, by omega, by omega⟩, by rw [rng_len]; omega, fun y => tupI (m ++ [toI y]), fun k z hz => ?_, ?_⟩)))))
        · have hk : k < ((s : Int) + 1 - (0 - (s : Int))).toNat := by
            have := (List.getElem?_eq_some_iff.mp hz).1
            rwa [rng_len] at this
          rw [rng_get hk] at hz
          cases hz
          refine g_name (e_op (e_var rfl (e_tup (a_cons (e_var rfl (a_nil ⟨(show 1 ≤ 100000 by decide), od_catT_ (by rw [List.length_map]; show m.length + 1 ≤ 100000; omega) ?_⟩))))))
          show PyData.tuple _ = tupI (m ++ [_])
          rw [tupI, List.map_append]
          rfl
        · have e1 : (rng (0 - (s : Int)) ((s : Int) + 1 - (0 - (s : Int))).toNat).map (fun y => tupI (m ++ [toI y])) = (grow s m).map fun m => tupI m := by
            unfold rng grow
            rw [List.map_map, List.map_map, show ((s : Int) + 1 - (0 - (s : Int))).toNat = 2 * s + 1 by omega]
            refine List.map_congr_left fun k _ => ?_
            show tupI (m ++ [0 - (s : Int) + (k : Nat)]) = tupI (m ++ [(k : Int) - (s : Int)])
            rw [show 0 - (s : Int) + (k : Nat) = (k : Int) - (s : Int) by omega]
          rw [e1]
          have gl := grow_len s m
          refine ⟨by rw [List.length_map, List.length_map, gl]; omega, .dat (tupI m), ?_⟩
          rw [tk, List.map_append (l₂ := grow s m)]
          rfl
      · rintro e ⟨s5', rfl⟩
        rw [List.length_map, List.take_length, ← rowsN_succ]
        exact s_pub (i := 4) rfl (s_asg (e_var rfl ⟨.dat x, .dat (rowsL (rowsN s (i + 1))), s5', rfl⟩))
    · rintro e ⟨s3, s4, s5, rfl⟩
      rw [rng_len, Int.toNat_natCast]
      exact s_ret (e_var rfl q)
⟩
theorem has__law_rows (D : Dn K mg "_law_rows" s__law_rows) (tx : Tx mg) : Has P w K mg base "_law_rows" ["many", "size"] 1 (SpF K pre__law_rows) := has_of D (fun _ _ _ _ _ _ us hl => match us, hl with | [_, _], _ => rfl) (ok__law_rows tx)

theorem ok__law_moves (tx : Tx mg) (h__law_rows : Has P w K mg base "_law_rows" ["many", "size"] 1 (SpF K pre__law_rows)) (h__law_sums : Has P w K mg base "_law_sums" ["rows", "row"] 1 (SpF K pre__law_sums)) : ∀ f fd, FnP K "_law_moves" s__law_moves f fd → FnOk P w K mg base CX0 2 f fd ["frame"] (SpN K pre__law_moves) := fun f fd F =>
  F.ok sc__law_moves (fun vs H Q E s => lenN (fun ds Φ h => by
    obtain ⟨_, _, rfl, _⟩ := h; rfl) s) fun cdv A outer s H vs Q E hr h => ⟨_, PSs.nox (pss_cons (ps_par (i := 1) (j := 2) (by rfl) sc__law_moves.nd rfl rfl (by decide) rfl rfl (pa_cons (pe_callB (id := "len") call_len_seq (by rfl) tx.len (by decide +kernel) (pa_cons (pe_ix ix_tup (pe_ix ix_tup (pv 0) pe_int (fun _ _ => rfl)) pe_int (fun _ _ => rfl)) pa_nil)) (pa_cons (pe_lst pa_nil) pa_nil)) (by rfl))
    (pss_cons (ps_set (i := 3) sc__law_moves.nd rfl (.inl rfl) (pe_op FwE.op_times (pe_tup (pa_cons pe_int pa_nil)) (pe_callB (id := "len") call_len_seq (by rfl) tx.len (by decide +kernel) (pa_cons (pe_ix ix_tup (pv 0) pe_int (fun _ _ => rfl)) pa_nil))))
    (pss_cons (ps_for PassesOwn.never rfl (pi_list (pe_callH h__law_rows (hr.mono (by decide)) (by rfl) (pa_cons (pv 1) (pa_cons (pe_ifExp (pt_cmpR op_gt (pv 1) pe_int (nomark _)) pe_int pe_int) pa_nil)))) (pg_name (i := 4) sc__law_moves.nd rfl (.inl rfl)) (pss_cons (ps_setLc (i := 5)  (own := [("number", 6)]) (g := gName 6) (by rfl) sc__law_moves.nd rfl rfl (sw_true rfl rfl rfl (by decide +kernel)) (pi_tup (pv 4)) (blkOk_by (N := N__law_moves) (sc := defScope s__law_moves) (by decide +kernel)) (fun _ _ _ _ _ => (pg_name (i := 6) sc__law_moves.nd rfl (by first | exact Or.inl rfl | exact Or.inr rfl))) (fun _ _ _ _ _ => (pts_one (pt_cmpR op_ne (pv 6) pe_int (nomark _)))) (fun _ _ _ _ _ => (pv 6)))
    (pss_one (ps_if (PW.pt (pw_and (pt_cmpR (op_neD (hu64 hr)) (pv 5) (pe_lst pa_nil) (nomark _)) (pw_and (pt_cmpR op_gt (pe_ix ix_list (pv 5) pe_int (fun _ _ => rfl)) pe_int (nomark _)) (pw_and1 (pt_cmpR (op_eqD (hu64 hr)) (pe_callH h__law_sums (hr.mono (by decide)) (by rfl) (pa_cons (pe_ix ix_tup (pv 0) pe_int (fun _ _ => rfl)) (pa_cons (pv 4) pa_nil))) (pv 3) (nomark _)))))) (pss_one (ps_expr (pe_bm PySem.F.plainAttrs_list PySem.F.slot_list_append PySem.F.type_list_append mt_append (pv 2) (pa_cons (pv 4) pa_nil)))) pss_nil))))
    (pss_one (ps_ret (pv 2)))))),
  bodyN h fun ds Φ hp => by
    obtain ⟨rows, n, rfl, F, q⟩ := hp
    have r := F.fr
    have n4 := F.four
    have r1 := r.one
    have r2 := r.most
    have r3 := r.cells
    obtain ⟨a, ha⟩ : ∃ a, rows[0]? = some a := ⟨rows[0]'(by omega), List.getElem?_eq_getElem (by omega)⟩
    have ra := rows_at (k := 0) ha
    have la := r.len a (List.mem_of_getElem? ha)
    refine s_seq (s_cut (fun e => e = [.dat (frameD rows), .dat (.int n), .own [], .no, .no, .no, .no]) (s_parF ?_) ?_)
    · repeat' walk_at "wp"
      refine od_ixT_ (d := rowsT rows) rfl ?_
      repeat' walk_at "wp"
      refine od_ixT_ (d := tupI a) ra ?_
      repeat' walk_at "wp"
      rw [List.length_map, la]
      exact f_lst (a_nil ⟨by decide, rfl⟩)
    rintro e rfl
    refine s_seq (s_cut (fun e => e = [.dat (frameD rows), .dat (.int n), .own [], .dat (tupI (List.replicate rows.length 0)), .no, .no, .no]) (s_asg ?_) ?_)
    · repeat' walk_at "wp"
      refine od_ixT_ (d := rowsT rows) rfl ?_
      repeat' walk_at "wp"
      refine od_times_ (by simp) (by rw [List.length_map]; omega) (by rw [List.length_map]; omega) (by show 1 ≤ 1000; decide) ?_
      rw [List.length_map, Int.toNat_natCast, List.flatten_replicate_singleton]
      show _ = _
      rw [tupI, List.map_replicate]
      rfl
    rintro e rfl
    refine s_seq (s_for (js := [4]) (i_list_ (WpE.mono (Φ := fun d => ∃ ms : List (List Int), d = rowsL ms ∧ ms.length ≤ 625 ∧ ms.Nodup ∧ ∀ m ∈ ms, m.length = n ∧ ∀ c ∈ m, -2 ≤ c ∧ c ≤ 2) (e_call ?_) ?_)))
    · repeat' walk_at "wp"
      have key : ∀ s : Nat, s ≤ 2 → (rowsN s n).length ≤ 625 ∧ (rowsN s n).Nodup ∧ ∀ m ∈ rowsN s n, m.length = n ∧ ∀ c ∈ m, -2 ≤ c ∧ c ≤ 2 := fun s hs => ⟨rowsN_few n4 hs, rowsN_nodup s n, fun m hm => ⟨(rowsN_mem hm).1, fun c hc => by have := (rowsN_mem hm).2 c hc; omega⟩⟩
      refine iteP (fun _ => ?_) (fun _ => ?_)
      · repeat' walk_at "wp"
        exact key 1 (by decide)
      · repeat' walk_at "wp"
        exact key 2 (by decide)
    rintro d ⟨ms, rfl, ml, mnd, hm⟩
    refine ⟨_, rfl, fun i e => ∃ (fs : List (List Int)) (s4 s5 : Slot), e = [.dat (frameD rows), .dat (.int n), .own (fs.map fun m => tupI m), .dat (tupI (List.replicate rows.length 0)), s4, s5, .no] ∧ fs.Sublist (ms.take i) ∧ ∀ m ∈ fs, SmMove rows n m, ⟨[], _, _, rfl, List.nil_sublist _, fun _ h => nomatch h⟩, fun i x e hx => ?_, ?_⟩
    · rintro ⟨fs, s4, s5, rfl, fl, hf⟩
      rw [List.getElem?_map] at hx
      obtain ⟨m, hmi, rfl⟩ := Option.map_eq_some_iff.mp hx
      have hmm := List.mem_of_getElem? hmi
      have tk : ms.take (i + 1) = ms.take i ++ [m] := by rw [List.take_add_one, hmi]; rfl
      have fl2 := fl.length_le
      rw [List.length_take] at fl2
      have hi : i < ms.length := by
        exact (List.getElem?_eq_some_iff.mp hmi).1
      obtain ⟨lm, bm⟩ := hm m hmm
      refine g_name (s_seq (s_asg (e_new (f_lc (js := [6]) (fun k hk => by rw [List.mem_singleton.mp hk]; decide) (i_tup_ (e_var rfl ⟨_, rfl, by rw [List.length_map]; omega, fun i acc => acc = ((m.take i).filter fun c => decide (c ≠ 0)).map .int, rfl, fun i x acc hx inv _ => ?_, fun acc _ inv => ?_⟩))))))
      · rw [List.getElem?_map] at hx
        cases hn : m[i]? with
        | none => rw [hn] at hx; cases hx
        | some c =>
          rw [hn] at hx
          cases hx
          refine g_name ?_
          repeat' walk_at "wp"
          refine iteNP (fun z => ?_) (fun z => ?_)
          · repeat' walk_at "wp"
            dsimp only at inv ⊢
            rw [inv, List.take_add_one, hn, List.filter_append, List.map_append]
            have : decide (c ≠ 0) = true := decide_eq_true z
            show _ = _ ++ ([c].filter fun c => decide (c ≠ 0)).map PyData.int
            rw [List.filter_cons, if_pos this]
            rfl
          · dsimp only at inv ⊢
            rw [inv, List.take_add_one, hn, List.filter_append, List.map_append]
            show _ = _ ++ ([c].filter fun c => decide (c ≠ 0)).map PyData.int
            rw [List.filter_cons, if_neg (by simpa using z)]
            show _ = _ ++ []
            rw [List.append_nil]
      · dsimp only at inv
        rw [List.length_map, List.take_length] at inv
        subst inv
        have skip : ∀ d : PyData, ∃ (fs' : List (List Int)) (s4 s5 : Slot), [Slot.dat (frameD rows), .dat (.int n), .own (fs.map fun m => tupI m), .dat (tupI (List.replicate rows.length 0)), .dat (tupI m), .dat d, .no] = [Slot.dat (frameD rows), .dat (.int n), .own (fs'.map fun m => tupI m), .dat (tupI (List.replicate rows.length 0)), s4, s5, .no] ∧ fs'.Sublist (ms.take (i + 1)) ∧ ∀ m ∈ fs', SmMove rows n m := fun d => ⟨fs, _, _, rfl, by rw [tk]; exact fl.trans (List.sublist_append_left _ _), hf⟩
        refine s_if (t_and (t_test (e_op (e_var rfl (e_lst (a_nil ⟨by decide, od_neD_ (shapedLi _) (by decide) ?_⟩))))))
        cases hf2 : m.filter fun c => decide (c ≠ 0) with
        | nil => exact ⟨_, rfl, iteNT (s_next (skip _))⟩
        | cons c cs =>
          refine ⟨_, rfl, iteNF (t_and (t_test (e_op (e_op (e_var rfl (e_int (od_ixL_ (ints_at (k := 0) rfl) (e_int (od_gt ⟨_, rfl, ?_⟩)))))))))⟩
          refine iteP (fun z => ?_) fun z => s_next (skip _)
          refine t_test (e_op (e_call (a_cons (e_op (e_var rfl (e_int (od_ixT_ (d := rowsT rows) rfl ?_)))))))
          refine a_cons (e_var rfl (a_nil ⟨rows, n, m, rfl, r, e_var rfl (od_eqD_ (shaped_row _) (shaped_row _) ?_)⟩))
          rw [eqv_row]
          refine ⟨_, rfl, iteP (fun e => ?_) fun e => s_next (skip _)⟩
          have hz : ∀ r ∈ rows, innerI r m = 0 := fun r hr => by
            have h2 : innerI r m ∈ sumsI rows m := List.mem_map.mpr ⟨r, hr, rfl⟩
            rw [e] at h2
            exact (List.mem_replicate.mp h2).2
          have sm : SmMove rows n m := by
            refine ⟨move_of_small (small_of lm hz fun c hc => by have := bm c hc; omega) ?_, bm⟩
            unfold goesUp
            rw [find_filter, hf2]
            exact decide_eq_true z
          refine s_app2 rfl (e_var rfl ⟨by rw [List.length_map]; omega, fs ++ [m], .dat (tupI m), .dat (.list ((c :: cs).map .int)), ?_, by rw [tk]; exact fl.append (List.Sublist.refl _), fun m' hm' => ?_⟩)
          · rw [List.map_append]
            rfl
          · rcases List.mem_append.mp hm' with w | w
            · exact hf m' w
            · rw [List.mem_singleton.mp w]
              exact sm
    · rintro e ⟨fs, s4, s5, rfl, fl, hf⟩
      have fl2 := fl.length_le
      rw [List.length_take] at fl2
      exact s_retO (i := 2) rfl (q fs (by omega) (fl.nodup (mnd.sublist (List.take_sublist _ _))) hf)
⟩
theorem has__law_moves (D : Dn K mg "_law_moves" s__law_moves) (tx : Tx mg) (h__law_rows : Has P w K mg base "_law_rows" ["many", "size"] 1 (SpF K pre__law_rows)) (h__law_sums : Has P w K mg base "_law_sums" ["rows", "row"] 1 (SpF K pre__law_sums)) : Has P w K mg base "_law_moves" ["frame"] 2 (SpN K pre__law_moves) := has_of D (fun _ _ _ _ _ _ us hl => match us, hl with | [_], _ => rfl) (ok__law_moves tx h__law_rows h__law_sums)

theorem ok__law_book (tx : Tx mg) (h__law_draw : Has P w K mg base "_law_draw" ["pot", "size"] 1 (SpG K pre__law_draw)) : ∀ f fd, FnP K "_law_book" s__law_book f fd → FnOk P w K mg base CX0 2 f fd ["pot", "moves"] (SpG K pre__law_book) := fun f fd F =>
  F.ok sc__law_book (fun vs H Q E s => lenG (fun ds Φ h => by
    obtain ⟨_, _, _, rfl, _⟩ := h; rfl) s) fun cdv A outer s H vs Q E hr h => ⟨_, PSs.nox (pss_cons (ps_par (i := 2) (j := 3) (by rfl) sc__law_book.nd rfl rfl (by decide) rfl rfl (pa_cons (pe_lst pa_nil) (pa_cons (pe_callTy call_list_of (by rfl) tx.list (by decide +kernel) (pa_cons (pv 1) pa_nil)) pa_nil)) (by rfl))
    (pss_cons (ps_for PassesOwn.never rfl (pi_range1 (by rfl) tx.range (pa_cons (pe_callH h__law_draw (hr.mono (by decide)) (by rfl) (pa_cons (pv 0) (pa_cons pe_int pa_nil))) pa_nil)) (pg_name (i := 4) sc__law_book.nd rfl (.inl rfl)) (pss_one (ps_if (pt_cmpR (op_neD (hu64 hr)) (pv 3) (pe_lst pa_nil) (nomark _)) (pss_one (ps_expr (pe_bm PySem.F.plainAttrs_list PySem.F.slot_list_append PySem.F.type_list_append mt_append (pv 2) (pa_cons (pe_bm PySem.F.plainAttrs_list PySem.F.slot_list_pop PySem.F.type_list_pop mt_popAt (pv 3) (pa_cons (pe_callH h__law_draw (hr.mono (by decide)) (by rfl) (pa_cons (pv 0) (pa_cons (pe_callB (id := "len") call_len_seq (by rfl) tx.len (by decide +kernel) (pa_cons (pv 3) pa_nil)) pa_nil))) pa_nil)) pa_nil)))) pss_nil)))
    (pss_one (ps_ret (pe_callTy call_tuple_of (by rfl) tx.tuple (by decide +kernel) (pa_cons (pe_callB (id := "sorted") (FwS.cr_sortedD (hu64 hr)) (by rfl) tx.sorted (by decide +kernel) (pa_cons (pv 2) pa_nil)) pa_nil)))))),
  bodyG h fun q ds Φ hp => by
    obtain ⟨rows, n, ms, rfl, F, hl, mnd, hsm, q⟩ := hp
    have n2 := F.two
    refine s_seq (s_parFF (f_lst (a_nil ⟨by decide, f_list (e_var rfl ⟨_, .inr rfl, ?_⟩)⟩)))
    refine s_seq (s_for (js := [4]) (i_rng1 (a_cons (e_callP rfl ?_))))
    repeat' walk_at "wp"
    intro t t0 t1
    refine a_nil ⟨t, rfl, by omega, by omega, fun i e => ∃ (fs ls : List (List Int)) (s4 : Slot), e = [.pot, .dat (rowsL ms), .own (fs.map fun m => tupI m), .own (ls.map fun m => tupI m), s4] ∧ fs.length ≤ i ∧ ls.length ≤ ms.length ∧ (∀ m ∈ fs, m ∈ ms) ∧ (∀ m ∈ ls, m ∈ ms) ∧ (fs ++ ls).Nodup, ⟨[], ms, _, rfl, Nat.le_refl _, Nat.le_refl _, (fun _ h => nomatch h), (fun _ h => h), mnd⟩, fun i x e hx => ?_, ?_⟩
    · rintro ⟨fs, ls, s4, rfl, fl, ll, hf, hls, nd⟩
      have hi : i < t.toNat := by
        have := (List.getElem?_eq_some_iff.mp hx).1
        rwa [rng_len] at this
      refine g_name (s_if (t_own (i := 3) rfl (t_test (e_op (e_var rfl ?_)))))
      refine e_lst (a_nil ⟨by decide, od_neD_ (shaped_rows ls) (by decide) ?_⟩)
      cases hls2 : ls with
      | nil =>
        exact ⟨_, rfl, iteNT (s_next ⟨fs, [], .dat x, rfl, by omega, Nat.zero_le _, hf, (fun _ h => nomatch h), by rw [hls2] at nd; exact nd⟩)⟩
      | cons m0 l0 =>
        have lpos : 0 < ls.length := by rw [hls2]; exact Nat.succ_pos _
        have ev : PyData.eqv (.list (ls.map fun m => tupI m)) (.list []) = false := by rw [hls2]; rfl
        rw [← hls2]
        rw [ev]
        refine ⟨_, rfl, iteNF ?_⟩
        refine s_appPop (i := 2) (m := 3) rfl rfl (by decide) ?_
        repeat' walk_at "wp"
        intro c c0 c1
        obtain ⟨j, rfl⟩ := Int.eq_ofNat_of_zero_le c0
        rw [List.length_map] at c1
        have hj : j < ls.length := by omega
        refine ⟨j, tupI ls[j], rfl, by rw [List.getElem?_map, List.getElem?_eq_getElem hj]; rfl, by rw [List.length_map]; omega, by rw [List.length_map]; omega, fs ++ [ls[j]], ls.eraseIdx j, .dat x, ?_, by rw [List.length_append]; exact Nat.succ_le_succ fl, ?_, fun m hm => ?_, (fun m hm => hls m (List.mem_of_mem_eraseIdx hm)), ?_⟩
        · rw [List.map_append, ← FwN.erase_map]
          rfl
        · have := List.length_eraseIdx_le ls j
          omega
        · rcases List.mem_append.mp hm with z | z
          · exact hf m z
          · rw [List.mem_singleton.mp z]
            exact hls _ (List.getElem_mem hj)
        · have pm : (fs ++ [ls[j]] ++ ls.eraseIdx j).Perm (fs ++ ls) := by
            rw [List.append_assoc]
            exact (perm_erase hj).append_left fs
          exact pm.nodup_iff.mpr nd
    · rintro e ⟨fs, ls, s4, rfl, fl, ll, hf, hls, nd⟩
      rw [rng_len] at fl
      obtain ⟨gs, e1, pm, pw⟩ := FwN.sort_rows fs
      have hne : ∀ k ∈ fs, k ≠ [] := fun k hk e => by
        have l := mv_len (hsm k (hf k hk)).mv
        rw [e] at l
        rw [← l] at n2
        exact absurd n2 (by decide)
      refine s_pub (i := 2) rfl (s_ret (e_cb (a_cons (e_new (f_sorted (a_cons (e_var rfl (a_nil ⟨_, rfl, FwN.alike_rows fs, FwN.sortable_rows fun k hk => hne k hk, FwN.deep_rows fs, FwN.noDict_rows fs, ?_⟩))))))))
      rw [e1]
      repeat' walk_at "wp"
      have gm : ∀ b ∈ gs, b ∈ ms := fun b hb => hf b (pm.mem_iff.mp hb)
      refine q gs ⟨fun b hb => (hsm b (gm b hb)).mv, fun b hb => (hsm b (gm b hb)).bd, by rw [pm.length_eq]; omega, ?_⟩
      exact Fw.asc_of Fw.ints_tri (pm.nodup_iff.mpr (List.nodup_append.mp nd).1) pw
⟩
theorem has__law_book (D : Dn K mg "_law_book" s__law_book) (tx : Tx mg) (h__law_draw : Has P w K mg base "_law_draw" ["pot", "size"] 1 (SpG K pre__law_draw)) : Has P w K mg base "_law_book" ["pot", "moves"] 2 (SpG K pre__law_book) := has_of D (fun _ _ _ _ _ _ us hl => match us, hl with | [_, _], _ => rfl) (ok__law_book tx h__law_draw)

theorem ok__law_table (tx : Tx mg) (h__law_draw : Has P w K mg base "_law_draw" ["pot", "size"] 1 (SpG K pre__law_draw)) : ∀ f fd, FnP K "_law_table" s__law_table f fd → FnOk P w K mg base CX0 2 f fd ["pot", "frame", "most"] (SpG K pre__law_table) := fun f fd F =>
  F.ok sc__law_table (fun vs H Q E s => lenG (fun ds Φ h => by
    obtain ⟨_, _, _, rfl, _⟩ := h; rfl) s) fun cdv A outer s H vs Q E hr h => ⟨_, PSs.nox (pss_one (ps_ret (pe_callTy call_tuple_of (by rfl) tx.tuple (by decide +kernel) (pa_cons (pe_lc (own := [("cell", 3)]) (g := gName 3) (by rfl) sc__law_table.nd (pi_tup (pe_ix ix_tup (pe_ix ix_tup (pv 1) pe_int (fun _ _ => rfl)) pe_int (fun _ _ => rfl))) (blkOk_by (N := N__law_table) (sc := defScope s__law_table) (by decide +kernel)) (fun _ _ _ _ _ => (pg_name (i := 3) sc__law_table.nd rfl (by first | exact Or.inl rfl | exact Or.inr rfl))) (fun _ _ _ _ _ => pts_nil) (fun _ _ _ _ _ => (pe_callH h__law_draw (hr.mono (by decide)) (by rfl) (pa_cons (pv 0) (pa_cons (pe_op op_add (pv 2) pe_int) pa_nil))))) pa_nil)))),
  bodyG h fun q ds Φ hp => by
    obtain ⟨rows, n, u, rfl, F, hu, q⟩ := hp
    have n4 := F.four
    obtain ⟨r0, rs, er, hr⟩ := F.r0
    have l0 : r0.length = n := F.fr.len r0 (by rw [er]; exact List.mem_cons_self)
    have ra : atI (rows.map fun m => tupI m) (0 : Nat) = some (tupI r0) := row_at (by rw [er]; rfl)
    refine s_ret (e_cb (a_cons (e_rel (js := [3]) (fun k hk => by rw [List.mem_singleton.mp hk]; decide) (i_tup_ ?_))))
    repeat' walk_at "wp"
    refine od_ixT_ (d := rowsT rows) rfl ?_
    repeat' walk_at "wp"
    refine od_ixT_ (d := tupI r0) ra ?_
    refine ⟨_, rfl, by rw [List.length_map]; omega, fun _ y => ∃ c : Int, y = .int c ∧ 0 ≤ c ∧ c ≤ (u : Nat), fun k x hx => g_name ?_, fun ys hl hr => ?_⟩
    · repeat' walk_at "wp"
      intro c c0 c1
      exact ⟨c, rfl, c0, by omega⟩
    · have all : ∀ y ∈ ys, ∃ c : Int, y = .int c ∧ 0 ≤ c ∧ c ≤ (u : Nat) := fun y hy => by
        obtain ⟨k, hk, rfl⟩ := List.getElem_of_mem hy
        exact hr k _ _ (List.getElem?_eq_getElem (by omega)) (List.getElem?_eq_getElem hk)
      obtain ⟨ns, rfl, h⟩ := ints_all all
      rw [List.length_map, List.length_map] at hl
      refine a_nil (cb_tuple_ (.inr rfl) (q ns (by omega) h))
⟩
theorem has__law_table (D : Dn K mg "_law_table" s__law_table) (tx : Tx mg) (h__law_draw : Has P w K mg base "_law_draw" ["pot", "size"] 1 (SpG K pre__law_draw)) : Has P w K mg base "_law_table" ["pot", "frame", "most"] 2 (SpG K pre__law_table) := has_of D (fun _ _ _ _ _ _ us hl => match us, hl with | [_, _, _], _ => rfl) (ok__law_table tx h__law_draw)

theorem ok__law_small (tx : Tx mg) (h__law_table : Has P w K mg base "_law_table" ["pot", "frame", "most"] 2 (SpG K pre__law_table)) : ∀ f fd, FnP K "_law_small" s__law_small f fd → FnOk P w K mg base CX0 3 f fd ["pot", "frame"] (SpG K pre__law_small) := fun f fd F =>
  F.ok sc__law_small (fun vs H Q E s => lenG (fun ds Φ h => by
    obtain ⟨_, _, rfl, _⟩ := h; rfl) s) fun cdv A outer s H vs Q E hr h => ⟨_, PSs.nox (pss_one (ps_ret (pe_callH h__law_table (hr.mono (by decide)) (by rfl) (pa_cons (pv 0) (pa_cons (pv 1) (pa_cons (pe_ifExp (pt_cmpR op_gt (pe_callB (id := "len") call_len_seq (by rfl) tx.len (by decide +kernel) (pa_cons (pe_ix ix_tup (pe_ix ix_tup (pv 1) pe_int (fun _ _ => rfl)) pe_int (fun _ _ => rfl)) pa_nil)) pe_int (nomark _)) pe_int pe_int) pa_nil)))))),
  bodyG h fun q ds Φ hp => by
    obtain ⟨rows, n, rfl, F, q⟩ := hp
    have n4 := F.four
    obtain ⟨r0, rs, er, hr⟩ := F.r0
    have l0 : r0.length = n := F.fr.len r0 (by rw [er]; exact List.mem_cons_self)
    have ra : atI (rows.map fun m => tupI m) (0 : Nat) = some (tupI r0) := row_at (by rw [er]; rfl)
    have hd : rows.headD [] = r0 := by rw [er]; rfl
    have ok : ∀ u : Nat, 2 * u * n ≤ lowS n → ∀ t : List Int, t.length = n → (∀ c ∈ t, 0 ≤ c ∧ c ≤ (u : Nat)) → Sm rows n t := fun u hu t tl hb => by
      have := inner_le (r := r0) (t := t) (u := (u : Nat)) hr hb
      refine ⟨tl, fun c hc => (hb c hc).1, ?_⟩
      rw [hd]
      rw [tl] at this
      have e : (2 * (u : Int) * (n : Int)) = ((2 * u * n : Nat) : Int) := by simp
      omega
    repeat' walk_at "wp"
    refine od_ixT_ (d := rowsT rows) rfl ?_
    repeat' walk_at "wp"
    refine od_ixT_ (d := tupI r0) ra ?_
    repeat' walk_at "wp"
    rw [List.length_map, l0]
    refine iteP (fun h => ?_) (fun h => ?_)
    · repeat' walk_at "wp"
      exact ⟨rows, n, 1, rfl, F, by decide, fun t tl hb => q t (ok 1 (by unfold lowS; rw [if_neg (by omega)]; omega) t tl hb)⟩
    · repeat' walk_at "wp"
      exact ⟨rows, n, 2, rfl, F, by decide, fun t tl hb => q t (ok 2 (by unfold lowS; rw [if_pos (by omega)]; omega) t tl hb)⟩
⟩
theorem has__law_small (D : Dn K mg "_law_small" s__law_small) (tx : Tx mg) (h__law_table : Has P w K mg base "_law_table" ["pot", "frame", "most"] 2 (SpG K pre__law_table)) : Has P w K mg base "_law_small" ["pot", "frame"] 3 (SpG K pre__law_small) := has_of D (fun _ _ _ _ _ _ us hl => match us, hl with | [_, _], _ => rfl) (ok__law_small tx h__law_table)

theorem ok__law_steps (tx : Tx mg) : ∀ f fd, FnP K "_law_steps" s__law_steps f fd → FnOk P w K mg base CX0 1 f fd ["book", "table"] (SpF K pre__law_steps) := fun f fd F =>
  F.ok sc__law_steps (fun vs H Q E s => lenF (fun ds Φ h => by
    obtain ⟨_, _, _, _, rfl, _⟩ := h; rfl) s) fun cdv A outer s H vs Q E hr h => ⟨_, PSs.nox (pss_cons (ps_set (i := 2) sc__law_steps.nd rfl (.inl rfl) (pe_lst pa_nil))
    (pss_cons (ps_for PassesOwn.never rfl (pi_tup (pv 0)) (pg_name (i := 3) sc__law_steps.nd rfl (.inl rfl)) (pss_one (ps_for PassesOwn.never rfl (pi_list (pe_lst (pa_cons pe_int (pa_cons (pe_un un_neg pe_int) pa_nil)))) (pg_name (i := 4) sc__law_steps.nd rfl (.inr rfl)) (pss_cons (ps_set (i := 5) sc__law_steps.nd rfl (.inl rfl) (pe_callTy call_tuple_of (by rfl) tx.tuple (by decide +kernel) (pa_cons (pe_lc (own := [("count", 6), ("number", 7)]) (g := gTup K 2 (gCons (gName 6) (gCons (gName 7) gNil))) (by rfl) sc__law_steps.nd (RZ.pi_zipA (by rfl) tx.zip (pa_cons (pv 1) (pa_cons (pv 3) pa_nil))) (blkOk_by (N := N__law_steps) (sc := defScope s__law_steps) (by decide +kernel)) (fun _ _ _ _ _ => (pg_tup (by rfl) (pgs_cons (pg_name (i := 6) sc__law_steps.nd rfl (by first | exact Or.inl rfl | exact Or.inr rfl)) (pgs_cons (pg_name (i := 7) sc__law_steps.nd rfl (by first | exact Or.inl rfl | exact Or.inr rfl)) pgs_nil)))) (fun _ _ _ _ _ => pts_nil) (fun _ _ _ _ _ => (pe_op op_add (pv 6) (pe_op op_mul (pv 4) (pv 7))))) pa_nil)))
    (pss_one (ps_if (pt_cmpR op_ge (pe_callB (id := "min") (FwD.cr_minT (hu64 hr) rfl) (by rfl) tx.min (by decide +kernel) (pa_cons (pv 5) pa_nil)) pe_int (nomark _)) (pss_one (ps_expr (pe_bm PySem.F.plainAttrs_list PySem.F.slot_list_append PySem.F.type_list_append mt_append (pv 2) (pa_cons (pv 5) pa_nil)))) pss_nil))))))
    (pss_one (ps_ret (pe_callB (id := "sorted") (FwS.cr_sortedD (hu64 hr)) (by rfl) tx.sorted (by decide +kernel) (pa_cons (pv 2) pa_nil)))))),
  bodyF h fun ds Φ hp => by
    obtain ⟨rows, n, book, t, rfl, G, T, q⟩ := hp
    have few := G.B.few
    have n4 := G.F.four
    have n2 := G.F.two
    have tl := T.len
    refine s_seq (s_own (i := 2) (a_nil ⟨by decide, ?_⟩))
    refine s_seq (s_for (js := [3]) (i_tup_ (e_var rfl ⟨_, rfl, fun i e => ∃ s3 s4 s5, e = [.dat (rowsT book), .dat (tupI t), .own ((nextW book t (wayLn i)).map fun m => tupI m), s3, s4, s5, .no, .no], ⟨_, _, _, rfl⟩, fun i x e hx => ?_, ?_⟩)))
    · rintro ⟨s3, s4, s5, rfl⟩
      rw [List.getElem?_map] at hx
      obtain ⟨m, hm, rfl⟩ := Option.map_eq_some_iff.mp hx
      have hlt : i < book.length := (List.getElem?_eq_some_iff.mp hm).1
      have er : rowAt book i = m := by unfold rowAt; rw [hm]; rfl
      rw [← er]
      have B := G.B.at_ hlt
      refine g_name (s_for (js := [4]) (i_list_ ?_))
      repeat' walk_at "wp"
      refine ⟨fun j e => ∃ s4 s5, e = [.dat (rowsT book), .dat (tupI t), .own ((nextW book t (wayLn i ++ ([(i, 1), (i, -1)] : List (Nat × Int)).take j)).map fun m => tupI m), .dat (tupI (rowAt book i)), s4, s5, .no, .no], ⟨s4, s5, by rw [List.take_zero, List.append_nil]; rfl⟩, fun j x e hx => ?_, ?_⟩
      · rintro ⟨s4, s5, rfl⟩
        obtain ⟨s, rfl, hs, tk⟩ := two_at (i := i) hx
        have tk2 : wayLn i ++ ([(i, 1), (i, -1)] : List (Nat × Int)).take (j + 1) = (wayLn i ++ ([(i, 1), (i, -1)] : List (Nat × Int)).take j) ++ [(i, s)] := by rw [tk, ← List.append_assoc]
        have wl := nextW_len book t (wayLn i ++ ([(i, 1), (i, -1)] : List (Nat × Int)).take j)
        rw [List.length_append, len_wayLn, List.length_take] at wl
        simp only [List.length_cons, List.length_nil] at wl
        refine g_name ?_
        refine s_seq (s_asg (e_cb (a_cons (e_mapA (js := [6] ++ ([7] ++ [])) (α := Int × Int) (fun q => .tuple [.int q.1, .int q.2]) (fun q => .int (q.1 + s * q.2)) (i_zipT_ (a_cons (e_var rfl (a_cons (e_var rfl (a_nil ⟨_, _, rfl, t.zip (rowAt book i), zipD_zip _ _, ?_, fun x hx => g_tup_ [_, _] rfl rfl (g_cons (g_name (g_cons (g_name (g_nil ?_))))), ?_⟩))))))))))
        · rw [List.length_zip]; omega
        · repeat' walk_at "wp"
          · exact .inl ⟨by omega, by omega⟩
          · rfl
        refine a_nil (cb_tuple_ (.inr rfl) ?_)
        have ez : (t.zip (rowAt book i)).map (fun q => PyData.int (q.1 + s * q.2)) = (late book t (i, s)).map .int := by
          unfold late addI
          rw [← zw_zip, List.map_map]
          rfl
        rw [ez]
        have ll : (late book t (i, s)).length = n := by
          unfold late
          rw [addI_len (by rw [tl, B.2]), tl]
        obtain ⟨c, cs, ec⟩ : ∃ c cs, late book t (i, s) = c :: cs := by
          cases h : late book t (i, s) with
          | nil => rw [h] at ll; rw [← ll] at n2; exact absurd n2 (by decide)
          | cons c cs => exact ⟨c, cs, rfl⟩
        refine s_if (t_test (e_op (e_cb (a_cons (e_var rfl (a_nil (cb_minT c cs (by rw [ec]) ?_)))))))
        repeat' walk_at "wp"
        rw [min_ok, ← ec]
        by_cases ok : okN (late book t (i, s)) = true
        · rw [ok]
          refine iteT ?_
          repeat' walk_at "wp"
          refine ⟨.dat (.int s), .dat (tupI (late book t (i, s))), ?_⟩
          rw [tk2, nextW_snoc, if_pos ok, List.map_append (l₂ := [late book t (i, s)])]
          rfl
        · rw [show okN (late book t (i, s)) = false by simpa using ok]
          refine iteF ?_
          refine s_next ⟨.dat (.int s), .dat (tupI (late book t (i, s))), ?_⟩
          rw [tk2, nextW_snoc, if_neg ok, List.append_nil]
          rfl
      · rintro e ⟨s4, s5, rfl⟩
        refine ⟨.dat (tupI (rowAt book i)), s4, s5, ?_⟩
        rw [wayLn_succ]
        rfl
    · rintro e ⟨s3, s4, s5, rfl⟩
      rw [List.length_map]
      refine s_pub (i := 2) rfl (s_ret (e_new (f_sorted (a_cons (e_var rfl (a_nil ⟨_, rfl, FwN.alike_rows _, FwN.sortable_rows fun k hk e => ?_, FwN.deep_rows _, FwN.noDict_rows _, q⟩))))))
      have l1 := (next_len G.B T hk).len
      rw [e] at l1
      rw [← l1] at n2
      exact absurd n2 (by decide)
⟩
theorem has__law_steps (D : Dn K mg "_law_steps" s__law_steps) (tx : Tx mg) : Has P w K mg base "_law_steps" ["book", "table"] 1 (SpF K pre__law_steps) := has_of D (fun _ _ _ _ _ _ us hl => match us, hl with | [_, _], _ => rfl) (ok__law_steps tx)

theorem ok__law_far (tx : Tx mg) (h__law_steps : Has P w K mg base "_law_steps" ["book", "table"] 1 (SpF K pre__law_steps)) : ∀ f fd, FnP K "_law_far" s__law_far f fd → FnOk P w K mg base CX0 2 f fd ["book", "table"] (SpF K pre__law_far) := fun f fd F =>
  F.ok sc__law_far (fun vs H Q E s => lenF (fun ds Φ h => by
    obtain ⟨_, _, _, _, rfl, _⟩ := h; rfl) s) fun cdv A outer s H vs Q E hr h => ⟨_, PSs.nox (pss_cons (ps_par3 (i := 2) (j := 3) (l := 4) (by rfl) sc__law_far.nd rfl rfl rfl (by decide) (by decide) (by decide) rfl rfl rfl (pa_cons (FwD.pe_oneX (hu16 hr) (pv 1) pe_int) (pa_cons (pe_lst (pa_cons (pv 1) pa_nil)) (pa_cons pe_int pa_nil))) (by rfl))
    (pss_cons (ps_while PassesOwn.never (pt_cmpR (op_neD (hu64 hr)) (pv 3) (pe_lst pa_nil) (nomark _)) (pss_cons (ps_par (i := 4) (j := 5) (by rfl) sc__law_far.nd rfl rfl (by decide) rfl rfl (pa_cons (pe_op op_add (pv 4) pe_int) (pa_cons (pe_lst pa_nil) pa_nil)) (by rfl))
    (pss_cons (ps_for PassesOwn.never rfl (pi_list (pv 3)) (pg_name (i := 6) sc__law_far.nd rfl (.inl rfl)) (pss_one (ps_for PassesOwn.never rfl (pi_list (pe_callH h__law_steps (hr.mono (by decide)) (by rfl) (pa_cons (pv 0) (pa_cons (pv 6) pa_nil)))) (pg_name (i := 7) sc__law_far.nd rfl (.inl rfl)) (pss_one (ps_if (pt_cmpR (FwD.op_ninX (hu16 hr)) (pv 7) (pv 2) (by rfl)) (pss_cons (ps_asg (pv 4) (pg_sub (pv 2) (pv 7) (FwD.set_putX (hu16 hr))))
    (pss_one (ps_expr (pe_bm PySem.F.plainAttrs_list PySem.F.slot_list_append PySem.F.type_list_append mt_append (pv 5) (pa_cons (pv 7) pa_nil))))) pss_nil)))))
    (pss_one (ps_set (i := 3) sc__law_far.nd rfl (.inl rfl) (pv 5))))))
    (pss_one (ps_ret (pv 2))))),
  bodyF h fun ds Φ hp => by
    obtain ⟨rows, n, book, t, rfl, G, T, q⟩ := hp
    have few := G.B.few
    have n4 := G.F.four
    refine s_seq (s_par3DLI (i := 2) (j := 3) (l := 4) (d_one (e_var rfl ⟨key_ok t, e_int (f_lst (a_cons (e_var rfl (a_nil ⟨(show 1 ≤ 100000 by decide), e_int ?_⟩))))⟩)))
    have e0 : FwD.putD [] (tupI t) (.int 0) = dkv (fun _ => .int (0 : Nat)) [t] := dkv_put (ks := []) (fun _ => .int (0 : Nat)) (fun z => nomatch z)
    rw [e0]
    refine s_pub (i := 3) rfl ?_
    refine s_seq (s_while (fun n' e => ∃ (k : Nat) (ks W : List (List Int)) (D : List Int → Nat) (s5 s6 s7 : Slot), e = [.dat (rowsT book), .dat (tupI t), .mov (dicM K (dkv (fun x => .int (D x : Nat)) ks)), .dat (rowsL W), .dat (.int (k : Nat)), s5, s6, s7] ∧ (isMov s5 = false ∧ isMov s6 = false ∧ isMov s7 = false) ∧ FI book t k ks W D ∧ n' = (11005 - ks.length) * 2 + (if W = [] then 0 else 1)) 22009 ⟨0, [t], [t], fun _ => 0, _, _, _, rfl, ⟨rfl, rfl, rfl⟩, fi_start, by rw [if_neg (fun z => nomatch z)]; rfl⟩ ?_)
    rintro n' e ⟨k, ks, W, D, s5, s6, s7, rfl, ⟨m5, m6, m7⟩, I, rfl⟩
    have k5 := fi_few G T I
    refine t_test (e_op (e_var rfl (e_lst (a_nil ⟨by decide, od_neD_ (shaped_rows W) (by decide) ⟨_, rfl, ?_⟩⟩))))
    rw [eqv_nil]
    by_cases hW : W = []
    · subst hW
      rw [decide_eq_true rfl]
      refine iteNT ?_
      have L := fi_end I
      have ne : ks ≠ [] := fun e => by have := L.tk; rw [e] at this; cases this
      refine s_pubM (i := 2) rfl (one_of ?_) (kv_ne (dkv_kv _ ne)) (s_ret (e_var rfl (q ks D L)))
      exact (show (!isMov s5 && (!isMov s6 && (!isMov s7 && true))) = true by rw [m5, m6, m7]; rfl)
    · rw [decide_eq_false hW]
      refine iteNF ?_
      refine s_seq (s_parOwn (i := 4) (j := 5) (by decide) ?_)
      repeat' walk_at "wp"
      have e1 : ((k : Int) + 1) = ((k + 1 : Nat) : Int) := by omega
      rw [e1]
      refine s_seq (s_for (js := [6]) (i_list_ (e_var rfl ⟨_, rfl, fun i e => ∃ (qs ls : List (List Int)) (D' : List Int → Nat) (s6 s7 : Slot), e = [.dat (rowsT book), .dat (tupI t), .mov (dicM K (dkv (fun x => .int (D' x : Nat)) qs)), .dat (rowsL W), .dat (.int ((k + 1 : Nat) : Int)), .own (ls.map fun m => tupI m), s6, s7] ∧ (isMov s6 = false ∧ isMov s7 = false) ∧ FR book t k ks W qs ls D' ∧ ∀ j h, j < i → W[j]? = some h → ∀ x ∈ nexts book h, x ∈ qs, ⟨ks, [], D, s6, s7, rfl, ⟨m6, m7⟩, fr_start I, fun j h hj => absurd hj (Nat.not_lt_zero _)⟩, fun i x e hx => ?_, ?_⟩)))
      · rintro ⟨qs, ls, D', t6, t7, rfl, ⟨n6, n7⟩, R, fnd⟩
        rw [List.getElem?_map] at hx
        obtain ⟨h, hh, rfl⟩ := Option.map_eq_some_iff.mp hx
        have hm := List.mem_of_getElem? hh
        have Th := wk_ok G.F G.B T ((I.wsi h).mp hm).1
        obtain ⟨E, e2, pm, _⟩ := FwN.sort_rows (nexts book h)
        refine g_name (s_for (js := [7]) (i_list_ (e_call (a_cons (e_var rfl (a_cons (e_var rfl (a_nil ⟨rows, n, book, h, rfl, G, Th.tp, E.map (fun m => tupI m), congrArg PyData.list e2, ?_⟩))))))))
        refine ⟨fun j e => ∃ (qs ls : List (List Int)) (D' : List Int → Nat) (s7 : Slot), e = [.dat (rowsT book), .dat (tupI t), .mov (dicM K (dkv (fun x => .int (D' x : Nat)) qs)), .dat (rowsL W), .dat (.int ((k + 1 : Nat) : Int)), .own (ls.map fun m => tupI m), .dat (tupI h), s7] ∧ isMov s7 = false ∧ FR book t k ks W qs ls D' ∧ (∀ j h, j < i → W[j]? = some h → ∀ x ∈ nexts book h, x ∈ qs) ∧ ∀ i' y, i' < j → E[i']? = some y → y ∈ qs, ⟨qs, ls, D', t7, rfl, n7, R, fnd, fun i' y hi => absurd hi (Nat.not_lt_zero _)⟩, fun j x e hx => ?_, ?_⟩
        · rintro ⟨qs, ls, D', t7, rfl, n7, R, fnd, here⟩
          rw [List.getElem?_map] at hx
          obtain ⟨y, hy, rfl⟩ := Option.map_eq_some_iff.mp hx
          have yn : y ∈ nexts book h := pm.mem_iff.mp (List.mem_of_getElem? hy)
          have q5 := fr_few G T R
          have ql := R.len
          have keep : ∀ Y : List (List Int), y ∈ Y → (∀ z ∈ qs, z ∈ Y) → ∀ i' z, i' < j + 1 → E[i']? = some z → z ∈ Y := fun Y h1 h2 i' z hi hz => by
            by_cases hj2 : i' < j
            · exact h2 _ (here i' z hj2 hz)
            · have : i' = j := by omega
              subst this
              rw [hy] at hz
              cases hz
              exact h1
          refine g_name (s_if (t_test (e_inM (i := 2) rfl (e_var rfl ⟨key_ok _, _, rfl, ?_⟩))))
          rw [if_pos rfl, dkv_has]
          by_cases hin : y ∈ qs
          · rw [decide_eq_true hin]
            refine iteNT ?_
            exact s_next ⟨qs, ls, D', .dat (tupI y), rfl, rfl, R, fnd, keep qs hin fun z hz => hz⟩
          · rw [decide_eq_false hin]
            refine iteNF ?_
            refine s_seq (s_dput (i := 2) rfl (one_of rfl) (e_var rfl (e_var rfl ⟨key_ok _, by rw [dkv_len]; omega, ?_⟩)))
            rw [dkv_setI hin]
            refine s_app (i := 5) rfl (e_var rfl ⟨by rw [List.length_map]; omega, ?_⟩)
            refine ⟨qs ++ [y], ls ++ [y], setF D' y (k + 1), .dat (tupI y), ?_, rfl, fr_new I R hm yn hin, fun j h hj hw x hx => List.mem_append_left _ (fnd j h hj hw x hx), keep _ (by simp) fun z hz => List.mem_append_left _ hz⟩
            rw [List.map_append (l₁ := ls)]
            rfl
        · rintro e ⟨qs, ls, D', t7, rfl, n7, R, fnd, here⟩
          rw [List.length_map] at here
          refine ⟨qs, ls, D', .dat (tupI h), t7, rfl, ⟨rfl, n7⟩, R, fun j h' hj hw x hx => ?_⟩
          by_cases hj2 : j < i
          · exact fnd j h' hj2 hw x hx
          · have : j = i := by omega
            subst this
            rw [hh] at hw
            cases hw
            obtain ⟨i', hi', e'⟩ := mem_of_idx (pm.mem_iff.mpr hx)
            exact here i' x hi' e'
      · rintro e ⟨qs, ls, D', t6, t7, rfl, ⟨n6, n7⟩, R, fnd⟩
        rw [List.length_map] at fnd
        have I' := fr_end I R fun h hh x hx => by
          obtain ⟨j, hj, e'⟩ := mem_of_idx hh
          exact fnd j h hj e' x hx
        have q5 := fi_few G T I'
        have ql := R.len
        refine s_next ?_
        show WpS K none (tAsg (tVar 5) (gName 3)) _ _
        refine s_pub (i := 5) rfl ?_
        repeat' walk_at "wp"
        refine ⟨(11005 - qs.length) * 2 + (if ls = [] then 0 else 1), ?_, k + 1, qs, ls, D', .dat (rowsL ls), t6, t7, rfl, ⟨rfl, n6, n7⟩, I', rfl⟩
        rw [if_neg hW]
        by_cases z : ls = []
        · have l0 : ls.length = 0 := by rw [z]; rfl
          rw [if_pos z]
          omega
        · have := List.length_pos_iff.mpr z
          rw [if_neg z]
          omega
⟩
theorem has__law_far (D : Dn K mg "_law_far" s__law_far) (tx : Tx mg) (h__law_steps : Has P w K mg base "_law_steps" ["book", "table"] 1 (SpF K pre__law_steps)) : Has P w K mg base "_law_far" ["book", "table"] 2 (SpF K pre__law_far) := has_of D (fun _ _ _ _ _ _ us hl => match us, hl with | [_, _], _ => rfl) (ok__law_far tx h__law_steps)

theorem ok__law_is_table (tx : Tx mg) (h__law_sums : Has P w K mg base "_law_sums" ["rows", "row"] 1 (SpF K pre__law_sums)) : ∀ f fd, FnP K "_law_is_table" s__law_is_table f fd → FnOk P w K mg base CX0 2 f fd ["frame", "value"] (SpF K pre__law_is_table) := fun f fd F =>
  F.ok sc__law_is_table (fun vs H Q E s => lenF (fun ds Φ h => by
    obtain ⟨_, _, _, rfl, _⟩ := h; rfl) s) fun cdv A outer s H vs Q E hr h => ⟨_, PSs.nox (pss_cons (ps_if (PW.pt (pw_or (pt_not (pt_val (pe_callB (id := "isinstance") call_isi (by rfl) tx.isinstance (by decide +kernel) (pa_cons (pv 1) (pa_cons (pe_bltn (v := .ty "tuple") (by rfl) tx.tuple (by decide +kernel) rfl) pa_nil))))) (pw_or1 (pt_cmpR op_ne (pe_callB (id := "len") call_len_seq (by rfl) tx.len (by decide +kernel) (pa_cons (pv 1) pa_nil)) (pe_callB (id := "len") call_len_seq (by rfl) tx.len (by decide +kernel) (pa_cons (pe_ix ix_tup (pe_ix ix_tup (pv 0) pe_int (fun _ _ => rfl)) pe_int (fun _ _ => rfl)) pa_nil)) (nomark _))))) (pss_one (ps_ret pe_bl)) pss_nil)
    (pss_cons (ps_if (pt_not (pt_val (pe_callB (id := "all") (cr_all rfl) (by rfl) tx.all (by decide +kernel) (pa_cons (pe_lc (own := [("one", 2)]) (g := gName 2) (by rfl) sc__law_is_table.nd (pi_tup (pv 1)) (blkOk_by (N := N__law_is_table) (sc := defScope s__law_is_table) (by decide +kernel)) (fun _ _ _ _ _ => (pg_name (i := 2) sc__law_is_table.nd rfl (by first | exact Or.inl rfl | exact Or.inr rfl))) (fun _ _ _ _ _ => pts_nil) (fun _ _ _ _ _ => (pe_and (pe_callB (id := "isinstance") call_isi (by rfl) tx.isinstance (by decide +kernel) (pa_cons (pv 2) (pa_cons (pe_bltn (v := .ty "int") (by rfl) tx.int (by decide +kernel) rfl) pa_nil))) (pe_and (pe_not (pe_callB (id := "isinstance") call_isi (by rfl) tx.isinstance (by decide +kernel) (pa_cons (pv 2) (pa_cons (pe_bltn (v := .ty "bool") (by rfl) tx.bool (by decide +kernel) rfl) pa_nil)))) (pe_one (pe_cmpR op_ge (pv 2) pe_int (nomark _))))))) pa_nil)))) (pss_one (ps_ret pe_bl)) pss_nil)
    (pss_one (ps_ret (pe_cmpR op_le (pe_callB (id := "max") (FwT.cr_maxT (hu64 hr) rfl) (by rfl) tx.max (by decide +kernel) (pa_cons (pe_callH h__law_sums (hr.mono (by decide)) (by rfl) (pa_cons (pe_ix ix_tup (pv 0) pe_int (fun _ _ => rfl)) (pa_cons (pv 1) pa_nil))) pa_nil)) pe_int (nomark _)))))),
  bodyF h fun ds Φ hp => by
    obtain ⟨rows, n, x, rfl, F, hx, q⟩ := hp
    have n4 := F.four
    obtain ⟨r0, rs, er, hr⟩ := F.r0
    have l0 : r0.length = n := F.fr.len r0 (by rw [er]; exact List.mem_cons_self)
    have ra : atI (rows.map fun m => tupI m) (0 : Nat) = some (tupI r0) := row_at (by rw [er]; rfl)
    cases x with
    | tuple xs =>
      have hz := hx.1
      have hp := hx.2
      repeat' walk_at "wp"
      refine od_ixT_ (d := rowsT rows) rfl ?_
      repeat' walk_at "wp"
      refine od_ixT_ (d := tupI r0) ra ?_
      repeat' walk_at "wp"
      rw [List.length_map, l0]
      by_cases hl : (xs.length : Int) = n
      · rw [decide_eq_true hl, if_neg (show ¬ (!true) = true from Bool.false_ne_true)]
        refine s_next ?_
        refine s_seq (s_if (t_not (t_B (e_cb (a_cons (e_mapT (fun y => .bool (isCnt0 y)) rfl (by omega) (fun y hy => ?_) ?_))))))
        · have py := List.all_eq_true.mp hp y hy
          cases y with
          | dict kvs =>
            cases kvs with
            | cons a r => cases py
            | nil => (repeat' walk_at "wp") <;> rfl
          | _ => (repeat' walk_at "wp") <;> rfl
        refine a_nil (cb_all_ (xs.map isCnt0) (by rw [List.map_map]; rfl) ?_)
        rw [all_map_id]
        refine ⟨_, rfl, ?_⟩
        by_cases hc : xs.all isCnt0 = true
        · rw [hc, if_neg (show ¬ (!true) = true from Bool.false_ne_true)]
          refine s_next ?_
          obtain ⟨t, rfl, ht⟩ := cnt0_of hc
          rw [List.length_map] at hl
          have e1 : sumsI rows t = innerI r0 t :: rs.map fun r => innerI r t := by rw [er]; rfl
          have e2 : isTab rows n (tupI t) = decide ((rs.map fun r => innerI r t).foldl max (innerI r0 t) ≤ 20000) := by
            rw [tab_pos F (by omega) ht, e1]
            exact max_all
          have q2 : Φ (.bool (isTab rows n (tupI t))) := q
          rw [e2] at q2
          repeat' walk_at "wp"
          refine od_ixT_ (d := rowsT rows) rfl ?_
          repeat' walk_at "wp"
          refine ⟨rows, n, t, rfl, F.fr, ?_⟩
          rw [e1]
          refine a_nil (cb_maxT (innerI r0 t) (rs.map fun r => innerI r t) rfl ?_)
          repeat' walk_at "wp"
          exact q2
        · have hc2 : xs.all isCnt0 = false := by simpa using hc
          rw [hc2, if_pos (show (!false) = true from rfl)]
          rw [tab_not fun z => hc z.2] at q
          repeat' walk_at "wp"
          exact q
      · rw [decide_eq_false hl, if_pos (show (!false) = true from rfl)]
        rw [tab_not fun z => hl z.1] at q
        repeat' walk_at "wp"
        exact q
    | dict kvs =>
      cases kvs with
      | cons a r => exact hx.elim
      | nil => (repeat' walk_at "wp") <;> exact q
    | _ => (repeat' walk_at "wp") <;> exact q
⟩
theorem has__law_is_table (D : Dn K mg "_law_is_table" s__law_is_table) (tx : Tx mg) (h__law_sums : Has P w K mg base "_law_sums" ["rows", "row"] 1 (SpF K pre__law_sums)) : Has P w K mg base "_law_is_table" ["frame", "value"] 2 (SpF K pre__law_is_table) := has_of D (fun _ _ _ _ _ _ us hl => match us, hl with | [_, _], _ => rfl) (ok__law_is_table tx h__law_sums)

theorem ok__law_is_road (tx : Tx mg) (h__law_is_table : Has P w K mg base "_law_is_table" ["frame", "value"] 2 (SpF K pre__law_is_table)) (h__law_steps : Has P w K mg base "_law_steps" ["book", "table"] 1 (SpF K pre__law_steps)) : ∀ f fd, FnP K "_law_is_road" s__law_is_road f fd → FnOk P w K mg base CX0 3 f fd ["frame", "book", "value"] (SpF K pre__law_is_road) := fun f fd F =>
  F.ok sc__law_is_road (fun vs H Q E s => lenF (fun ds Φ h => by
    obtain ⟨_, _, _, _, rfl, _⟩ := h; rfl) s) fun cdv A outer s H vs Q E hr h => ⟨_, PSs.nox (pss_cons (ps_if (PW.pt (pw_or (pt_not (pt_val (pe_callB (id := "isinstance") call_isi (by rfl) tx.isinstance (by decide +kernel) (pa_cons (pv 2) (pa_cons (pe_bltn (v := .ty "tuple") (by rfl) tx.tuple (by decide +kernel) rfl) pa_nil))))) (pw_or1 (pt_cmpR (op_eqD (hu64 hr)) (pv 2) (pe_tup pa_nil) (nomark _))))) (pss_one (ps_ret pe_bl)) pss_nil)
    (pss_cons (ps_if (pt_not (pt_val (pe_callB (id := "all") (cr_all rfl) (by rfl) tx.all (by decide +kernel) (pa_cons (pe_lc (own := [("one", 5)]) (g := gName 5) (by rfl) sc__law_is_road.nd (pi_tup (pv 2)) (blkOk_by (N := N__law_is_road) (sc := defScope s__law_is_road) (by decide +kernel)) (fun _ _ _ _ _ => (pg_name (i := 5) sc__law_is_road.nd rfl (by first | exact Or.inl rfl | exact Or.inr rfl))) (fun _ _ _ _ _ => pts_nil) (fun _ _ _ _ _ => (pe_callH h__law_is_table (hr.mono (by decide)) (by rfl) (pa_cons (pv 0) (pa_cons (pv 5) pa_nil))))) pa_nil)))) (pss_one (ps_ret pe_bl)) pss_nil)
    (pss_one (ps_ret (pe_callB (id := "all") (cr_all rfl) (by rfl) tx.all (by decide +kernel) (pa_cons (pe_lc (own := [("near", 3), ("far", 4)]) (g := gTup K 2 (gCons (gName 3) (gCons (gName 4) gNil))) (by rfl) sc__law_is_road.nd (RZ.pi_zipA (by rfl) tx.zip (pa_cons (pv 2) (pa_cons (pe_slice sl_tupA (pv 2) (po_some pe_int) po_none) pa_nil))) (blkOk_by (N := N__law_is_road) (sc := defScope s__law_is_road) (by decide +kernel)) (fun _ _ _ _ _ => (pg_tup (by rfl) (pgs_cons (pg_name (i := 3) sc__law_is_road.nd rfl (by first | exact Or.inl rfl | exact Or.inr rfl)) (pgs_cons (pg_name (i := 4) sc__law_is_road.nd rfl (by first | exact Or.inl rfl | exact Or.inr rfl)) pgs_nil)))) (fun _ _ _ _ _ => pts_nil) (fun _ _ _ _ _ => (pe_cmpR (r := FwWd.rInD K false) (FwWd.op_inD (hu65 hr)) (pv 4) (pe_callH h__law_steps (hr.mono (by decide)) (by rfl) (pa_cons (pv 1) (pa_cons (pv 3) pa_nil))) (by rfl)))) pa_nil)))))),
  bodyF h fun ds Φ hp => by
    obtain ⟨rows, n, book, x, rfl, G, hx, hs, q⟩ := hp
    cases x with
    | tuple xs =>
      have hz := hx.1
      have q2 : Φ (.bool (decide (xs ≠ []) && (xs.all (isTab rows n) && roadB book (xs.map rowOf)))) := q
      repeat' walk_at "wp"
      refine od_eqD_ (hs xs rfl) (by decide) ?_
      have ev : PyData.eqv (.tuple xs) (.tuple []) = decide (xs = []) := by cases xs <;> rfl
      rw [ev]
      by_cases ne : xs = []
      · subst ne
        refine ⟨_, rfl, ?_⟩
        rw [if_pos (show decide (([] : List PyData) = []) = true from rfl)]
        exact s_ret (e_bl q2)
      · rw [decide_eq_false ne]
        refine ⟨_, rfl, ?_⟩
        rw [if_neg Bool.false_ne_true]
        refine s_next ?_
        rw [decide_eq_true ne, Bool.true_and] at q2
        refine s_seq (s_if (t_not (t_B (e_cb (a_cons (e_mapT (fun y => .bool (isTab rows n y)) rfl (by omega) (fun y hy => ?_) ?_))))))
        · repeat' walk_at "wp"
          exact ⟨rows, n, y, rfl, G.F, hx.2 y hy, rfl⟩
        refine a_nil (cb_all_ (xs.map (isTab rows n)) (by rw [List.map_map]; rfl) ?_)
        rw [all_map_id]
        refine ⟨_, rfl, ?_⟩
        by_cases e : xs.all (isTab rows n) = true
        · rw [e, Bool.true_and] at q2
          rw [e, if_neg (show ¬ (!true) = true from Bool.false_ne_true)]
          refine s_next ?_
          obtain ⟨er, tk⟩ := tabs_of e
          generalize xs.map rowOf = ms at er tk q2
          subst er
          rw [List.length_map] at hz
          obtain ⟨m, P, rfl⟩ : ∃ m P, ms = m :: P := by
            cases ms with
            | nil => exact absurd rfl ne
            | cons m P => exact ⟨m, P, rfl⟩
          rw [List.length_cons] at hz
          refine s_ret (e_cb (a_cons (e_mapA (js := [3] ++ ([4] ++ [])) (α := List Int × List Int) (fun q => .tuple [tupI q.1, tupI q.2]) (fun q => .bool (stepB book q.1 q.2)) (i_zipT_ (a_cons (e_var rfl (a_cons (e_slT_ (e_var rfl (o_some (e_int ?_)))))))))))
          refine ⟨1, rfl, o_none ⟨_, rfl, a_nil ⟨_, _, rfl, (m :: P).zip P, ?_, ?_, fun z hz2 => g_tup_ [_, _] rfl rfl (g_cons (g_name (g_cons (g_name (g_nil ?_))))), ?_⟩⟩⟩
          · rw [cut_tail, zip_rows]
          · rw [List.length_zip, List.length_cons]; omega
          · have z1 : z.1 ∈ m :: P := (List.of_mem_zip hz2).1
            obtain ⟨E, e2, pm, _⟩ := FwN.sort_rows (nexts book z.1)
            refine e_op (e_var rfl (e_call (a_cons (e_var rfl (a_cons (e_var rfl (a_nil ⟨rows, n, book, z.1, rfl, G, (tk _ z1).tp, ?_⟩)))))))
            rw [e2]
            refine FwWd.od_inL (shaped_row _) (shaped_rows E) ?_
            rw [if_neg (by decide), in_rows]
            show PyData.bool _ = PyData.bool (decide (z.2 ∈ nexts book z.1))
            exact congrArg PyData.bool (decide_eq_decide.mpr pm.mem_iff)
          · refine a_nil (cb_all_ (((m :: P).zip P).map fun q => stepB book q.1 q.2) (by rw [List.map_map]; rfl) ?_)
            rw [List.all_map, show (id ∘ fun q : List Int × List Int => stepB book q.1 q.2) = fun q => stepB book q.1 q.2 from rfl, road_zip]
            exact q2
        · have e' : xs.all (isTab rows n) = false := by simpa using e
          rw [e', Bool.false_and] at q2
          rw [e', if_pos (show (!false) = true from rfl)]
          exact s_ret (e_bl q2)
    | dict kvs =>
      cases kvs with
      | cons a r => exact hx.elim
      | nil => (repeat' walk_at "wp") <;> exact q
    | _ => (repeat' walk_at "wp") <;> exact q
⟩
theorem has__law_is_road (D : Dn K mg "_law_is_road" s__law_is_road) (tx : Tx mg) (h__law_is_table : Has P w K mg base "_law_is_table" ["frame", "value"] 2 (SpF K pre__law_is_table)) (h__law_steps : Has P w K mg base "_law_steps" ["book", "table"] 1 (SpF K pre__law_steps)) : Has P w K mg base "_law_is_road" ["frame", "book", "value"] 3 (SpF K pre__law_is_road) := has_of D (fun _ _ _ _ _ _ us hl => match us, hl with | [_, _, _], _ => rfl) (ok__law_is_road tx h__law_is_table h__law_steps)

theorem ok__law_is_closed (tx : Tx mg) (h__law_is_table : Has P w K mg base "_law_is_table" ["frame", "value"] 2 (SpF K pre__law_is_table)) (h__law_far : Has P w K mg base "_law_far" ["book", "table"] 2 (SpF K pre__law_far)) : ∀ f fd, FnP K "_law_is_closed" s__law_is_closed f fd → FnOk P w K mg base CX0 3 f fd ["frame", "book", "value"] (SpF K pre__law_is_closed) := fun f fd F =>
  F.ok sc__law_is_closed (fun vs H Q E s => lenF (fun ds Φ h => by
    obtain ⟨_, _, _, _, rfl, _⟩ := h; rfl) s) fun cdv A outer s H vs Q E hr h => ⟨_, PSs.nox (pss_cons (ps_if (PW.pt (pw_or (pt_not (pt_val (pe_callB (id := "isinstance") call_isiT (by rfl) tx.isinstance (by decide +kernel) (pa_cons (pv 2) (pa_cons (pe_tup (pa_cons (pe_bltn (v := .ty "list") (by rfl) tx.list (by decide +kernel) rfl) (pa_cons (pe_bltn (v := .ty "tuple") (by rfl) tx.tuple (by decide +kernel) rfl) pa_nil))) pa_nil))))) (pw_or1 (pt_cmpR op_eq (pe_callB (id := "len") call_len_seq (by rfl) tx.len (by decide +kernel) (pa_cons (pv 2) pa_nil)) pe_int (nomark _))))) (pss_one (ps_ret pe_bl)) pss_nil)
    (pss_cons (ps_if (pt_not (pt_val (pe_callB (id := "all") (cr_all rfl) (by rfl) tx.all (by decide +kernel) (pa_cons (pe_lc (own := [("one", 3)]) (g := gName 3) (by rfl) sc__law_is_closed.nd (FwU.pi_any (pv 2)) (blkOk_by (N := N__law_is_closed) (sc := defScope s__law_is_closed) (by decide +kernel)) (fun _ _ _ _ _ => (pg_name (i := 3) sc__law_is_closed.nd rfl (by first | exact Or.inl rfl | exact Or.inr rfl))) (fun _ _ _ _ _ => pts_nil) (fun _ _ _ _ _ => (pe_callH h__law_is_table (hr.mono (by decide)) (by rfl) (pa_cons (pv 0) (pa_cons (pv 3) pa_nil))))) pa_nil)))) (pss_one (ps_ret pe_bl)) pss_nil)
    (pss_one (ps_ret (pe_cmpR (op_eqD (hu64 hr)) (pe_callTy call_list_of (by rfl) tx.list (by decide +kernel) (pa_cons (pv 2) pa_nil)) (pe_callB (id := "sorted") (FwS.cr_sortedD (hu64 hr)) (by rfl) tx.sorted (by decide +kernel) (pa_cons (pe_callTy (FwD.call_listX rfl) (by rfl) tx.list (by decide +kernel) (pa_cons (pe_callH h__law_far (hr.mono (by decide)) (by rfl) (pa_cons (pv 1) (pa_cons (FwK.pe_or (pe_ix ix_list (pv 2) pe_int (fun _ _ => rfl)) (pe_ix ix_tup (pv 2) pe_int (fun _ _ => rfl))) pa_nil))) pa_nil)) pa_nil)) (nomark _)))))),
  bodyF h fun ds Φ hp => by
    obtain ⟨rows, n, book, x, rfl, G, hx, lx, htb, q⟩ := hp
    cases x with
    | list xs =>
      have sx : Seq (.list xs) xs := .inl rfl
      have lz := lx xs sx
      by_cases ne : xs = []
      · subst ne
        repeat' walk_at "wp"
        rw [if_neg (show ¬ (!(true || false)) = true from Bool.false_ne_true)]
        repeat' walk_at "wp"
        exact q false ⟨fun z => (nomatch z), fun z => absurd rfl (cl_seq sx z).1⟩
      · have pos := List.length_pos_iff.mpr ne
        repeat' walk_at "wp"
        rw [if_neg (show ¬ (!(true || false)) = true from Bool.false_ne_true)]
        repeat' walk_at "wp"
        refine e_map (js := [3]) (fun k hk => by rw [List.mem_singleton.mp hk]; decide) (i_any (e_var rfl ⟨_, sx, by omega, fun y => .bool (isTab rows n y), fun i y hy => g_name ?_, ?_⟩))
        · repeat' walk_at "wp"
          exact ⟨rows, n, y, rfl, G.F, hx.2 y (List.mem_of_getElem? hy), rfl⟩
        · refine a_nil (cb_all_ (xs.map (isTab rows n)) (by rw [List.map_map]; rfl) ?_)
          rw [all_map_id]
          refine ⟨_, rfl, ?_⟩
          by_cases e : xs.all (isTab rows n) = true
          · rw [e, if_neg (show ¬ (!true) = true from Bool.false_ne_true)]
            obtain ⟨er, tk⟩ := tabs_of e
            have tb := htb xs sx
            generalize xs.map rowOf = ms at er tk
            subst er
            rw [List.length_map] at lz
            obtain ⟨t, vs, rfl⟩ : ∃ t vs, ms = t :: vs := by
              cases ms with
              | nil => exact absurd rfl ne
              | cons t vs => exact ⟨t, vs, rfl⟩
            have cl := cl_tabs (book := book) sx tk
            have T : TbOk rows n t := tb t (List.mem_map.mpr ⟨t, List.mem_cons_self, rfl⟩) (tk t List.mem_cons_self)
            refine s_next (s_ret (e_op (e_cb (a_cons (e_var rfl (a_nil (cb_list_ (.inr rfl) ?_)))))))
            refine e_new (f_sorted (a_cons (e_new (f_listDX (e_call (a_cons (e_var rfl (a_cons (e_or1 (e_op (e_var rfl (e_int (od_ixL_ (row_at (k := 0) (ms := t :: vs) rfl) (a_nil ⟨rows, n, book, t, rfl, G, T, fun ks Dd L => ?_⟩))))))))))))))
            have k5 := fd_few G T L
            have kv : KV (dkv (fun x => .int (Dd x : Nat)) ks) := dkv_kv _ fun e => by have := L.tk; rw [e] at this; cases this
            have n2 := G.F.two
            refine ⟨_, rfl, kv, by rw [dkv_len]; omega, ?_⟩
            rw [dkv_keys]
            obtain ⟨E, e2, pm, ns⟩ := FwN.sort_rows ks
            refine a_nil ⟨_, rfl, FwN.alike_rows _, FwN.sortable_rows fun k hk e => ?_, FwN.deep_rows _, FwN.noDict_rows _, ?_⟩
            · have l1 := (wk_ok G.F G.B T (L.lv k hk).1).len
              rw [e] at l1
              rw [← l1] at n2
              exact absurd n2 (by decide)
            rw [e2]
            refine od_eqD_ (shaped_rows _) (shaped_rows _) ?_
            have ev : PyData.eqv (.list ((t :: vs).map fun m => tupI m)) (.list (E.map fun m => tupI m)) = decide (t :: vs = E) := eqvAll_rows _ _
            rw [ev]
            have ascE : E.Pairwise (· < ·) := Fw.asc_of Fw.ints_tri (pm.nodup_iff.mpr L.nd) ns
            have memE : ∀ y, y ∈ E ↔ ∃ k, Wk book t k y := fun y => pm.mem_iff.trans ⟨fun h => ⟨_, (L.lv y h).1⟩, fun ⟨k, h⟩ => L.all k y h⟩
            refine q _ ?_
            rw [decide_eq_true_iff, cl]
            constructor
            · intro h
              rw [h]
              exact ⟨ascE, memE⟩
            · rintro ⟨a, m⟩
              exact asc_uniq a ascE fun y => (m y).trans (memE y).symm
          · have e' : xs.all (isTab rows n) = false := by simpa using e
            rw [e', if_pos (show (!false) = true from rfl)]
            repeat' walk_at "wp"
            exact q false ⟨fun z => (nomatch z), fun z => absurd (cl_seq sx z).2 e⟩
    | tuple xs =>
      have sx : Seq (.tuple xs) xs := .inr rfl
      have lz := lx xs sx
      by_cases ne : xs = []
      · subst ne
        repeat' walk_at "wp"
        rw [if_neg (show ¬ (!(false || true)) = true from Bool.false_ne_true)]
        repeat' walk_at "wp"
        exact q false ⟨fun z => (nomatch z), fun z => absurd rfl (cl_seq sx z).1⟩
      · have pos := List.length_pos_iff.mpr ne
        repeat' walk_at "wp"
        rw [if_neg (show ¬ (!(false || true)) = true from Bool.false_ne_true)]
        repeat' walk_at "wp"
        refine e_map (js := [3]) (fun k hk => by rw [List.mem_singleton.mp hk]; decide) (i_any (e_var rfl ⟨_, sx, by omega, fun y => .bool (isTab rows n y), fun i y hy => g_name ?_, ?_⟩))
        · repeat' walk_at "wp"
          exact ⟨rows, n, y, rfl, G.F, hx.2 y (List.mem_of_getElem? hy), rfl⟩
        · refine a_nil (cb_all_ (xs.map (isTab rows n)) (by rw [List.map_map]; rfl) ?_)
          rw [all_map_id]
          refine ⟨_, rfl, ?_⟩
          by_cases e : xs.all (isTab rows n) = true
          · rw [e, if_neg (show ¬ (!true) = true from Bool.false_ne_true)]
            obtain ⟨er, tk⟩ := tabs_of e
            have tb := htb xs sx
            generalize xs.map rowOf = ms at er tk
            subst er
            rw [List.length_map] at lz
            obtain ⟨t, vs, rfl⟩ : ∃ t vs, ms = t :: vs := by
              cases ms with
              | nil => exact absurd rfl ne
              | cons t vs => exact ⟨t, vs, rfl⟩
            have cl := cl_tabs (book := book) sx tk
            have T : TbOk rows n t := tb t (List.mem_map.mpr ⟨t, List.mem_cons_self, rfl⟩) (tk t List.mem_cons_self)
            refine s_next (s_ret (e_op (e_cb (a_cons (e_var rfl (a_nil (cb_list_ (.inl rfl) ?_)))))))
            refine e_new (f_sorted (a_cons (e_new (f_listDX (e_call (a_cons (e_var rfl (a_cons (e_or2 (e_op (e_var rfl (e_int (od_ixT_ (row_at (k := 0) (ms := t :: vs) rfl) (a_nil ⟨rows, n, book, t, rfl, G, T, fun ks Dd L => ?_⟩))))))))))))))
            have k5 := fd_few G T L
            have kv : KV (dkv (fun x => .int (Dd x : Nat)) ks) := dkv_kv _ fun e => by have := L.tk; rw [e] at this; cases this
            have n2 := G.F.two
            refine ⟨_, rfl, kv, by rw [dkv_len]; omega, ?_⟩
            rw [dkv_keys]
            obtain ⟨E, e2, pm, ns⟩ := FwN.sort_rows ks
            refine a_nil ⟨_, rfl, FwN.alike_rows _, FwN.sortable_rows fun k hk e => ?_, FwN.deep_rows _, FwN.noDict_rows _, ?_⟩
            · have l1 := (wk_ok G.F G.B T (L.lv k hk).1).len
              rw [e] at l1
              rw [← l1] at n2
              exact absurd n2 (by decide)
            rw [e2]
            refine od_eqD_ (shaped_rows _) (shaped_rows _) ?_
            have ev : PyData.eqv (.list ((t :: vs).map fun m => tupI m)) (.list (E.map fun m => tupI m)) = decide (t :: vs = E) := eqvAll_rows _ _
            rw [ev]
            have ascE : E.Pairwise (· < ·) := Fw.asc_of Fw.ints_tri (pm.nodup_iff.mpr L.nd) ns
            have memE : ∀ y, y ∈ E ↔ ∃ k, Wk book t k y := fun y => pm.mem_iff.trans ⟨fun h => ⟨_, (L.lv y h).1⟩, fun ⟨k, h⟩ => L.all k y h⟩
            refine q _ ?_
            rw [decide_eq_true_iff, cl]
            constructor
            · intro h
              rw [h]
              exact ⟨ascE, memE⟩
            · rintro ⟨a, m⟩
              exact asc_uniq a ascE fun y => (m y).trans (memE y).symm
          · have e' : xs.all (isTab rows n) = false := by simpa using e
            rw [e', if_pos (show (!false) = true from rfl)]
            repeat' walk_at "wp"
            exact q false ⟨fun z => (nomatch z), fun z => absurd (cl_seq sx z).2 e⟩
    | dict kvs =>
      cases kvs with
      | cons a r => exact hx.elim
      | nil =>
        repeat' walk_at "wp"
        rw [if_pos (show (!(false || false)) = true from rfl)]
        repeat' walk_at "wp"
        exact q false ⟨fun z => (nomatch z), fun z => absurd z (cl_no fun _ h => by rcases h with h | h <;> cases h)⟩
    | _ =>
      repeat' walk_at "wp"
      rw [if_pos (show (!(false || false)) = true from rfl)]
      repeat' walk_at "wp"
      exact q false ⟨fun z => (nomatch z), fun z => absurd z (cl_no fun _ h => by rcases h with h | h <;> cases h)⟩
⟩
theorem has__law_is_closed (D : Dn K mg "_law_is_closed" s__law_is_closed) (tx : Tx mg) (h__law_is_table : Has P w K mg base "_law_is_table" ["frame", "value"] 2 (SpF K pre__law_is_table)) (h__law_far : Has P w K mg base "_law_far" ["book", "table"] 2 (SpF K pre__law_far)) : Has P w K mg base "_law_is_closed" ["frame", "book", "value"] 3 (SpF K pre__law_is_closed) := has_of D (fun _ _ _ _ _ _ us hl => match us, hl with | [_, _, _], _ => rfl) (ok__law_is_closed tx h__law_is_table h__law_far)

theorem ok__law_walk (tx : Tx mg) (h__law_draw : Has P w K mg base "_law_draw" ["pot", "size"] 1 (SpG K pre__law_draw)) (h__law_steps : Has P w K mg base "_law_steps" ["book", "table"] 1 (SpF K pre__law_steps)) (h__law_pick : Has P w K mg base "_law_pick" ["pot", "some"] 2 (SpG K pre__law_pick)) : ∀ f fd, FnP K "_law_walk" s__law_walk f fd → FnOk P w K mg base CX0 3 f fd ["pot", "book", "table"] (SpG K pre__law_walk) := fun f fd F =>
  F.ok sc__law_walk (fun vs H Q E s => lenG (fun ds Φ h => by
    obtain ⟨_, _, _, _, rfl, _⟩ := h; rfl) s) fun cdv A outer s H vs Q E hr h => ⟨_, PSs.nox (pss_cons (ps_set (i := 3) sc__law_walk.nd rfl (.inl rfl) (pe_lst (pa_cons (pv 2) pa_nil)))
    (pss_cons (ps_for PassesOwn.never rfl (pi_range1 (by rfl) tx.range (pa_cons (pe_callH h__law_draw (hr.mono (by decide)) (by rfl) (pa_cons (pv 0) (pa_cons pe_int pa_nil))) pa_nil)) (pg_name (i := 4) sc__law_walk.nd rfl (.inl rfl)) (pss_cons (ps_set (i := 5) sc__law_walk.nd rfl (.inl rfl) (pe_callH h__law_steps (hr.mono (by decide)) (by rfl) (pa_cons (pv 1) (pa_cons (pe_ix ix_list (pv 3) (pe_un un_neg pe_int) (fun _ _ => rfl)) pa_nil))))
    (pss_one (ps_if (pt_cmpR (op_neD (hu64 hr)) (pv 5) (pe_lst pa_nil) (nomark _)) (pss_one (ps_expr (pe_bm PySem.F.plainAttrs_list PySem.F.slot_list_append PySem.F.type_list_append mt_append (pv 3) (pa_cons (pe_callH h__law_pick (hr.mono (by decide)) (by rfl) (pa_cons (pv 0) (pa_cons (pv 5) pa_nil))) pa_nil)))) pss_nil))))
    (pss_one (ps_ret (pe_callTy call_tuple_of (by rfl) tx.tuple (by decide +kernel) (pa_cons (pv 3) pa_nil)))))),
  bodyG h fun q ds Φ hp => by
    obtain ⟨rows, n, book, t, rfl, G, T, q⟩ := hp
    have few := G.B.few
    refine s_seq (s_own (i := 3) (a_cons (e_var rfl (a_nil ⟨(show 1 ≤ 100000 by decide), ?_⟩))))
    refine s_seq (s_for (js := [4]) (i_rng1 (a_cons (e_callP rfl ?_))))
    repeat' walk_at "wp"
    intro c c0 c1
    refine a_nil ⟨c, rfl, by omega, by omega, fun i e => ∃ (L : List (List Int)) (s4 s5 : Slot), e = [.pot, .dat (rowsT book), .dat (tupI t), .own (L.map fun m => tupI m), s4, s5] ∧ L ≠ [] ∧ L.length ≤ 1 + i ∧ ∀ x ∈ L, ∃ k, Wk book t k x, ⟨[t], _, _, rfl, (fun z => nomatch z), Nat.le_refl _, fun x hx => ⟨0, by rw [List.mem_singleton.mp hx]; exact .nil⟩⟩, fun i z e hz => ?_, ?_⟩
    · rintro ⟨L, s4, s5, rfl, ne, ll, hL⟩
      have hi : i < 5 := by
        have := (List.getElem?_eq_some_iff.mp hz).1
        rw [rng_len] at this
        omega
      obtain ⟨l, x, rfl⟩ := snoc_of ne
      obtain ⟨k, hk⟩ := hL x (by simp)
      have X := wk_ok G.F G.B T hk
      have lst : atI ((l ++ [x]).map fun m => tupI m) (-1) = some (tupI x) := by rw [List.map_append]; exact row_last l x
      obtain ⟨E, e2, pm, _⟩ := FwN.sort_rows (nexts book x)
      have el : E.length ≤ 6 := by
        have := pm.length_eq
        have := nexts_len book x
        omega
      refine g_name (s_seq (s_asg (e_call (a_cons (e_var rfl (a_cons (e_ixOn2 (i := 3) rfl ⟨tupI x, lst, flat_tupI _, a_nil ⟨rows, n, book, x, rfl, G, X.tp, ?_⟩⟩)))))))
      rw [e2]
      refine s_if (t_test (e_op (e_var rfl (e_lst (a_nil ⟨by decide, od_neD_ (shaped_rows E) (by decide) ⟨_, rfl, ?_⟩⟩)))))
      rw [eqv_nil]
      by_cases hE : E = []
      · rw [decide_eq_true hE]
        exact iteNT (s_next ⟨l ++ [x], .dat z, _, rfl, ne, by omega, hL⟩)
      · rw [decide_eq_false hE]
        refine iteNF ?_
        have ep := List.length_pos_iff.mpr hE
        refine s_app (i := 3) rfl (e_callP rfl (a_cons (e_var rfl (a_nil ⟨_, rfl, by rw [List.length_map]; omega, by rw [List.length_map]; omega, fun y hy => ?_⟩))))
        obtain ⟨m, hm, rfl⟩ := List.mem_map.mp hy
        refine ⟨by rw [List.length_map]; omega, l ++ [x] ++ [m], .dat z, .dat (.list (E.map fun m => tupI m)), ?_, by simp, by rw [List.length_append]; exact Nat.succ_le_succ ll, fun y hy => ?_⟩
        · rw [List.map_append (l₁ := l ++ [x])]
          rfl
        · rcases List.mem_append.mp hy with z | z
          · exact hL y z
          · rw [List.mem_singleton.mp z]
            exact ⟨k + 1, .step hk (pm.mem_iff.mp hm)⟩
    · rintro e ⟨L, s4, s5, rfl, ne, ll, hL⟩
      rw [rng_len] at ll
      refine s_pub (i := 3) rfl (s_ret (e_cb (a_cons (e_var rfl (a_nil (cb_tuple_ (.inr rfl) ?_))))))
      exact q L ne (by omega) hL
⟩
theorem has__law_walk (D : Dn K mg "_law_walk" s__law_walk) (tx : Tx mg) (h__law_draw : Has P w K mg base "_law_draw" ["pot", "size"] 1 (SpG K pre__law_draw)) (h__law_steps : Has P w K mg base "_law_steps" ["book", "table"] 1 (SpF K pre__law_steps)) (h__law_pick : Has P w K mg base "_law_pick" ["pot", "some"] 2 (SpG K pre__law_pick)) : Has P w K mg base "_law_walk" ["pot", "book", "table"] 3 (SpG K pre__law_walk) := has_of D (fun _ _ _ _ _ _ us hl => match us, hl with | [_, _, _], _ => rfl) (ok__law_walk tx h__law_draw h__law_steps h__law_pick)
abbrev pre_bentF : Pre := fun _ _ => False
theorem has_bentF (D : Dn K mg "_law_bent" s__law_bent) : Has P w K mg base "_law_bent" ["pot", "value"] 3 (SpG K pre_bentF) := has_of D (fun _ _ _ _ _ _ us hl => match us, hl with | [_, _], _ => rfl) fun f fd F => ⟨fun vs H Q E s => lenG (n := 1) (fun ds Φ h => h.elim) s, fun A outer s H args us vs Q E _ _ _ _ sp => by
    have a := lenG (n := 5) (fun ds Φ h => h.elim) sp
    have b := lenG (n := 6) (fun ds Φ h => h.elim) sp
    omega⟩
abbrev pre_bent0 : Pre := pre_bent 0
theorem ok_bent0 (tx : Tx mg) (h__law_pick : Has P w K mg base "_law_pick" ["pot", "some"] 2 (SpG K pre__law_pick)) (h__law_draw : Has P w K mg base "_law_draw" ["pot", "size"] 1 (SpG K pre__law_draw)) (h__law_bent : Has P w K mg base "_law_bent" ["pot", "value"] 3 (SpG K pre_bentF)) : ∀ f fd, FnP K "_law_bent" s__law_bent f fd → FnOk P w K mg base CX0 4 f fd ["pot", "value"] (SpG K pre_bent0) := fun f fd F =>
  F.ok sc__law_bent (fun vs H Q E s => lenG (fun ds Φ h => by
    obtain ⟨_, rfl, _⟩ := h; rfl) s) fun cdv A outer s H vs Q E hr h => ⟨_, PSs.nox (pss_cons (ps_if (PW.pt (pw_and (pt_val (pe_callB (id := "isinstance") call_isiT (by rfl) tx.isinstance (by decide +kernel) (pa_cons (pv 1) (pa_cons (pe_tup (pa_cons (pe_bltn (v := .ty "list") (by rfl) tx.list (by decide +kernel) rfl) (pa_cons (pe_bltn (v := .ty "tuple") (by rfl) tx.tuple (by decide +kernel) rfl) pa_nil))) pa_nil)))) (pw_and1 (pt_cmpR op_gt (pe_callB (id := "len") call_len_seq (by rfl) tx.len (by decide +kernel) (pa_cons (pv 1) pa_nil)) pe_int (nomark _))))) (pss_cons (ps_par (i := 2) (j := 3) (by rfl) sc__law_bent.nd rfl rfl (by decide) rfl rfl (pa_cons (pe_callH h__law_draw (hr.mono (by decide)) (by rfl) (pa_cons (pv 0) (pa_cons (pe_callB (id := "len") call_len_seq (by rfl) tx.len (by decide +kernel) (pa_cons (pv 1) pa_nil)) pa_nil))) (pa_cons (pe_callH h__law_draw (hr.mono (by decide)) (by rfl) (pa_cons (pv 0) (pa_cons pe_int pa_nil))) pa_nil)) (by rfl))
    (pss_cons (ps_if (pt_cmpR op_eq (pv 3) pe_int (nomark _)) (pss_one (ps_ret (FwK.pe_or (pe_op FwU.op_catL (pe_slice sl_list (pv 1) po_none (po_some (pv 2))) (pe_slice sl_list (pv 1) (po_some (pe_op op_add (pv 2) pe_int)) po_none)) (pe_op op_catA (pe_slice sl_tupA (pv 1) po_none (po_some (pv 2))) (pe_slice sl_tupA (pv 1) (po_some (pe_op op_add (pv 2) pe_int)) po_none))))) pss_nil)
    (pss_cons (ps_if (pt_cmpR op_eq (pv 3) pe_int (nomark _)) (pss_one (ps_ret (FwK.pe_or (pe_op FwU.op_catL (pv 1) (pe_slice sl_list (pv 1) (po_some (pv 2)) (po_some (pe_op op_add (pv 2) pe_int)))) (pe_op op_catA (pv 1) (pe_slice sl_tupA (pv 1) (po_some (pv 2)) (po_some (pe_op op_add (pv 2) pe_int))))))) pss_nil)
    (pss_cons (ps_if (pt_cmpR op_eq (pv 3) pe_int (nomark _)) (pss_one (ps_ret (pe_ifExp (pt_val (pe_callB (id := "isinstance") call_isi (by rfl) tx.isinstance (by decide +kernel) (pa_cons (pv 1) (pa_cons (pe_bltn (v := .ty "tuple") (by rfl) tx.tuple (by decide +kernel) rfl) pa_nil)))) (pe_callTy call_list_of (by rfl) tx.list (by decide +kernel) (pa_cons (pv 1) pa_nil)) (pe_callTy call_tuple_of (by rfl) tx.tuple (by decide +kernel) (pa_cons (pv 1) pa_nil))))) pss_nil)
    (pss_cons (ps_if (pt_cmpR op_eq (pv 3) pe_int (nomark _)) (pss_one (ps_ret (FwK.pe_or (pe_revL (pv 1)) (FwT.pe_revT (pv 1))))) pss_nil)
    (pss_cons (ps_set (i := 4) sc__law_bent.nd rfl (.inl rfl) (pe_callH h__law_bent (hr.mono (by decide)) (by rfl) (pa_cons (pv 0) (pa_cons (FwK.pe_or (pe_ix ix_list (pv 1) (pv 2) (fun _ _ => rfl)) (pe_ix ix_tup (pv 1) (pv 2) (fun _ _ => rfl))) pa_nil))))
    (pss_one (ps_ret (FwK.pe_or (pe_op FwU.op_catL (pe_op FwU.op_catL (pe_slice sl_list (pv 1) po_none (po_some (pv 2))) (pe_ifExp (pt_val (pe_callB (id := "isinstance") call_isi (by rfl) tx.isinstance (by decide +kernel) (pa_cons (pv 1) (pa_cons (pe_bltn (v := .ty "list") (by rfl) tx.list (by decide +kernel) rfl) pa_nil)))) (pe_lst (pa_cons (pv 4) pa_nil)) (pe_tup (pa_cons (pv 4) pa_nil)))) (pe_slice sl_list (pv 1) (po_some (pe_op op_add (pv 2) pe_int)) po_none)) (pe_op op_catA (pe_op op_catA (pe_slice sl_tupA (pv 1) po_none (po_some (pv 2))) (pe_ifExp (pt_val (pe_callB (id := "isinstance") call_isi (by rfl) tx.isinstance (by decide +kernel) (pa_cons (pv 1) (pa_cons (pe_bltn (v := .ty "list") (by rfl) tx.list (by decide +kernel) rfl) pa_nil)))) (pe_lst (pa_cons (pv 4) pa_nil)) (pe_tup (pa_cons (pv 4) pa_nil)))) (pe_slice sl_tupA (pv 1) (po_some (pe_op op_add (pv 2) pe_int)) po_none))))))))))) pss_nil)
    (pss_cons (ps_if (PW.pt (pw_and (pt_val (pe_callB (id := "isinstance") call_isi (by rfl) tx.isinstance (by decide +kernel) (pa_cons (pv 1) (pa_cons (pe_bltn (v := .ty "int") (by rfl) tx.int (by decide +kernel) rfl) pa_nil)))) (pw_and (pt_not (pt_val (pe_callB (id := "isinstance") call_isi (by rfl) tx.isinstance (by decide +kernel) (pa_cons (pv 1) (pa_cons (pe_bltn (v := .ty "bool") (by rfl) tx.bool (by decide +kernel) rfl) pa_nil))))) (pw_and1 (pt_cmpR op_eq (pe_callH h__law_draw (hr.mono (by decide)) (by rfl) (pa_cons (pv 0) (pa_cons pe_int pa_nil))) pe_int (nomark _)))))) (pss_one (ps_ret (pe_op op_add (pv 1) (pe_callH h__law_pick (hr.mono (by decide)) (by rfl) (pa_cons (pv 0) (pa_cons (pe_lst (pa_cons pe_int (pa_cons (pe_un un_neg pe_int) (pa_cons pe_int pa_nil)))) pa_nil)))))) pss_nil)
    (pss_one (ps_ret (pe_callH h__law_pick (hr.mono (by decide)) (by rfl) (pa_cons (pv 0) (pa_cons (pe_lst (pa_cons pe_non (pa_cons pe_bl (pa_cons pe_int (pa_cons pe_int (pa_cons (pe_un un_neg pe_int) (pa_cons pe_int (pa_cons pe_str pa_nil)))))))) pa_nil))))))),
  bodyG h fun q ds Φ hp => by
    obtain ⟨v, rfl, ⟨c, rfl, c0, c1⟩, q⟩ := hp
    have q' : ∀ y, B0 c y → Φ y := fun y h => q y ⟨c, rfl, h⟩
    have pk : ∀ x ∈ [PyData.none, .bool true, .int 0, .int 1, .int (-1), .int 20001, .str "1"], Φ x := fun x hx => q' x (by
      simp only [List.mem_cons, List.not_mem_nil, or_false] at hx
      rcases hx with rfl | rfl | rfl | rfl | rfl | rfl | rfl
      · exact .inl rfl
      · exact .inr (.inl rfl)
      · exact .inr (.inr (.inr ⟨_, rfl, by omega, .inl (by omega)⟩))
      · exact .inr (.inr (.inr ⟨_, rfl, by omega, .inl (by omega)⟩))
      · exact .inr (.inr (.inr ⟨_, rfl, by omega, .inl (by omega)⟩))
      · exact .inr (.inr (.inr ⟨_, rfl, by omega, .inr rfl⟩))
      · exact .inr (.inr (.inl rfl)))
    refine s_seq (s_cut (fun e => e = [.pot, .dat (.int c), .no, .no, .no]) ?_ ?_)
    · repeat' walk_at "wp"
      rw [if_neg (show ¬ (false || false) = true from Bool.false_ne_true)]
      repeat' walk_at "wp"
      rfl
    rintro e rfl
    repeat' walk_at "wp"
    intro a a0 a1
    repeat' walk_at "wp"
    refine iteP (fun h => ?_) (fun h => ?_)
    · repeat' walk_at "wp"
      intro x hx
      simp only [List.mem_cons, List.not_mem_nil, or_false] at hx
      rcases hx with rfl | rfl | rfl
      all_goals
        repeat' walk_at "wp"
        exact q' _ (.inr (.inr (.inr ⟨_, rfl, by omega, .inl (by omega)⟩)))
    · repeat' walk_at "wp"
      exact pk
⟩
theorem has_bent0 (D : Dn K mg "_law_bent" s__law_bent) (tx : Tx mg) (h__law_pick : Has P w K mg base "_law_pick" ["pot", "some"] 2 (SpG K pre__law_pick)) (h__law_draw : Has P w K mg base "_law_draw" ["pot", "size"] 1 (SpG K pre__law_draw)) (h__law_bent : Has P w K mg base "_law_bent" ["pot", "value"] 3 (SpG K pre_bentF)) : Has P w K mg base "_law_bent" ["pot", "value"] 4 (SpG K pre_bent0) := has_of D (fun _ _ _ _ _ _ us hl => match us, hl with | [_, _], _ => rfl) (ok_bent0 tx h__law_pick h__law_draw h__law_bent)
abbrev pre_bent1 : Pre := pre_bent 1
theorem ok_bent1 (tx : Tx mg) (h__law_pick : Has P w K mg base "_law_pick" ["pot", "some"] 2 (SpG K pre__law_pick)) (h__law_draw : Has P w K mg base "_law_draw" ["pot", "size"] 1 (SpG K pre__law_draw)) (h__law_bent : Has P w K mg base "_law_bent" ["pot", "value"] 4 (SpG K pre_bent0)) : ∀ f fd, FnP K "_law_bent" s__law_bent f fd → FnOk P w K mg base CX0 5 f fd ["pot", "value"] (SpG K pre_bent1) := fun f fd F =>
  F.ok sc__law_bent (fun vs H Q E s => lenG (fun ds Φ h => by
    obtain ⟨_, rfl, _⟩ := h; rfl) s) fun cdv A outer s H vs Q E hr h => ⟨_, PSs.nox (pss_cons (ps_if (PW.pt (pw_and (pt_val (pe_callB (id := "isinstance") call_isiT (by rfl) tx.isinstance (by decide +kernel) (pa_cons (pv 1) (pa_cons (pe_tup (pa_cons (pe_bltn (v := .ty "list") (by rfl) tx.list (by decide +kernel) rfl) (pa_cons (pe_bltn (v := .ty "tuple") (by rfl) tx.tuple (by decide +kernel) rfl) pa_nil))) pa_nil)))) (pw_and1 (pt_cmpR op_gt (pe_callB (id := "len") call_len_seq (by rfl) tx.len (by decide +kernel) (pa_cons (pv 1) pa_nil)) pe_int (nomark _))))) (pss_cons (ps_par (i := 2) (j := 3) (by rfl) sc__law_bent.nd rfl rfl (by decide) rfl rfl (pa_cons (pe_callH h__law_draw (hr.mono (by decide)) (by rfl) (pa_cons (pv 0) (pa_cons (pe_callB (id := "len") call_len_seq (by rfl) tx.len (by decide +kernel) (pa_cons (pv 1) pa_nil)) pa_nil))) (pa_cons (pe_callH h__law_draw (hr.mono (by decide)) (by rfl) (pa_cons (pv 0) (pa_cons pe_int pa_nil))) pa_nil)) (by rfl))
    (pss_cons (ps_if (pt_cmpR op_eq (pv 3) pe_int (nomark _)) (pss_one (ps_ret (FwK.pe_or (pe_op FwU.op_catL (pe_slice sl_list (pv 1) po_none (po_some (pv 2))) (pe_slice sl_list (pv 1) (po_some (pe_op op_add (pv 2) pe_int)) po_none)) (pe_op op_catA (pe_slice sl_tupA (pv 1) po_none (po_some (pv 2))) (pe_slice sl_tupA (pv 1) (po_some (pe_op op_add (pv 2) pe_int)) po_none))))) pss_nil)
    (pss_cons (ps_if (pt_cmpR op_eq (pv 3) pe_int (nomark _)) (pss_one (ps_ret (FwK.pe_or (pe_op FwU.op_catL (pv 1) (pe_slice sl_list (pv 1) (po_some (pv 2)) (po_some (pe_op op_add (pv 2) pe_int)))) (pe_op op_catA (pv 1) (pe_slice sl_tupA (pv 1) (po_some (pv 2)) (po_some (pe_op op_add (pv 2) pe_int))))))) pss_nil)
    (pss_cons (ps_if (pt_cmpR op_eq (pv 3) pe_int (nomark _)) (pss_one (ps_ret (pe_ifExp (pt_val (pe_callB (id := "isinstance") call_isi (by rfl) tx.isinstance (by decide +kernel) (pa_cons (pv 1) (pa_cons (pe_bltn (v := .ty "tuple") (by rfl) tx.tuple (by decide +kernel) rfl) pa_nil)))) (pe_callTy call_list_of (by rfl) tx.list (by decide +kernel) (pa_cons (pv 1) pa_nil)) (pe_callTy call_tuple_of (by rfl) tx.tuple (by decide +kernel) (pa_cons (pv 1) pa_nil))))) pss_nil)
    (pss_cons (ps_if (pt_cmpR op_eq (pv 3) pe_int (nomark _)) (pss_one (ps_ret (FwK.pe_or (pe_revL (pv 1)) (FwT.pe_revT (pv 1))))) pss_nil)
    (pss_cons (ps_set (i := 4) sc__law_bent.nd rfl (.inl rfl) (pe_callH h__law_bent (hr.mono (by decide)) (by rfl) (pa_cons (pv 0) (pa_cons (FwK.pe_or (pe_ix ix_list (pv 1) (pv 2) (fun _ _ => rfl)) (pe_ix ix_tup (pv 1) (pv 2) (fun _ _ => rfl))) pa_nil))))
    (pss_one (ps_ret (FwK.pe_or (pe_op FwU.op_catL (pe_op FwU.op_catL (pe_slice sl_list (pv 1) po_none (po_some (pv 2))) (pe_ifExp (pt_val (pe_callB (id := "isinstance") call_isi (by rfl) tx.isinstance (by decide +kernel) (pa_cons (pv 1) (pa_cons (pe_bltn (v := .ty "list") (by rfl) tx.list (by decide +kernel) rfl) pa_nil)))) (pe_lst (pa_cons (pv 4) pa_nil)) (pe_tup (pa_cons (pv 4) pa_nil)))) (pe_slice sl_list (pv 1) (po_some (pe_op op_add (pv 2) pe_int)) po_none)) (pe_op op_catA (pe_op op_catA (pe_slice sl_tupA (pv 1) po_none (po_some (pv 2))) (pe_ifExp (pt_val (pe_callB (id := "isinstance") call_isi (by rfl) tx.isinstance (by decide +kernel) (pa_cons (pv 1) (pa_cons (pe_bltn (v := .ty "list") (by rfl) tx.list (by decide +kernel) rfl) pa_nil)))) (pe_lst (pa_cons (pv 4) pa_nil)) (pe_tup (pa_cons (pv 4) pa_nil)))) (pe_slice sl_tupA (pv 1) (po_some (pe_op op_add (pv 2) pe_int)) po_none))))))))))) pss_nil)
    (pss_cons (ps_if (PW.pt (pw_and (pt_val (pe_callB (id := "isinstance") call_isi (by rfl) tx.isinstance (by decide +kernel) (pa_cons (pv 1) (pa_cons (pe_bltn (v := .ty "int") (by rfl) tx.int (by decide +kernel) rfl) pa_nil)))) (pw_and (pt_not (pt_val (pe_callB (id := "isinstance") call_isi (by rfl) tx.isinstance (by decide +kernel) (pa_cons (pv 1) (pa_cons (pe_bltn (v := .ty "bool") (by rfl) tx.bool (by decide +kernel) rfl) pa_nil))))) (pw_and1 (pt_cmpR op_eq (pe_callH h__law_draw (hr.mono (by decide)) (by rfl) (pa_cons (pv 0) (pa_cons pe_int pa_nil))) pe_int (nomark _)))))) (pss_one (ps_ret (pe_op op_add (pv 1) (pe_callH h__law_pick (hr.mono (by decide)) (by rfl) (pa_cons (pv 0) (pa_cons (pe_lst (pa_cons pe_int (pa_cons (pe_un un_neg pe_int) (pa_cons pe_int pa_nil)))) pa_nil)))))) pss_nil)
    (pss_one (ps_ret (pe_callH h__law_pick (hr.mono (by decide)) (by rfl) (pa_cons (pv 0) (pa_cons (pe_lst (pa_cons pe_non (pa_cons pe_bl (pa_cons pe_int (pa_cons pe_int (pa_cons (pe_un un_neg pe_int) (pa_cons pe_int (pa_cons pe_str pa_nil)))))))) pa_nil))))))),
  bodyG h fun q ds Φ hp => by
    obtain ⟨v, rfl, ⟨xs, hv, l0, l1, all⟩, q⟩ := hp
    have sub : ∀ {ys : List PyData} {d : PyData}, Seq d ys → SeqB (bOf 0) xs ys → Φ d := fun e h => q _ ⟨xs, _, hv, e, h⟩
    rcases hv with rfl | rfl
    · skip
      refine s_seq (s_if ?_)
      repeat' walk_at "wp"
      rw [if_pos (show (true || false) = true from rfl)]
      repeat' walk_at "wp"
      intro a a0 a1
      repeat' walk_at "wp"
      intro y y0 y1
      obtain ⟨j, rfl⟩ := Int.eq_ofNat_of_zero_le a0
      have hj : j < xs.length := by omega
      refine a_nil ⟨_, _, rfl, ?_⟩
      have l2 : (xs.take j ++ xs.drop (j + 1)).length ≤ 100000 := by rw [List.length_append, List.length_take, List.length_drop]; omega
      have lt1 : (xs.take j).length ≤ 600 := by rw [List.length_take]; omega
      have ld1 : (xs.drop (j + 1)).length ≤ 600 := by rw [List.length_drop]; omega
      have c1 := cut_len1 hj
      have c2 : ∀ z ∈ Fw.cutD xs (some (j : Int)) (some ((j : Int) + 1)), z ∈ xs := fun z hz => FwN.cut_mem hz
      have w0 := fun d e => sub (d := d) e (.inl ⟨j, hj, rfl⟩)
      have w1 := fun d e => sub (d := d) e (.inr (.inl ⟨_, c1, c2, rfl⟩))
      have w2 := fun d e => sub (d := d) e (.inr (.inr (.inl rfl)))
      have w3 := fun d e => sub (d := d) e (.inr (.inr (.inr (.inl rfl))))
      have w4 : ∀ d z : PyData, Seq d (xs.take j ++ [z] ++ xs.drop (j + 1)) → bOf 0 xs[j] z → Φ d := fun d z e hz => sub e (.inr (.inr (.inr (.inr ⟨j, hj, z, hz, rfl⟩))))
      repeat' walk_at "wp"
      refine iteP (fun _ => ?_) (fun _ => ?_)
      · refine s_ret (e_or1 (e_new (f_catL (e_new (f_slL (e_var rfl (o_none (o_some (e_var rfl ⟨_, rfl, xs, rfl, ?_⟩)))))))))
        refine e_new (f_slL (e_var rfl (o_some (e_op (e_var rfl (e_int (od_add ⟨_, rfl, o_none ⟨xs, rfl, _, _, rfl, rfl, ?_, ?_⟩⟩)))))))
        · rw [cut_ahead, cut_behind]; omega
        · rw [cut_ahead, cut_behind]; exact w0 _ (.inl rfl)
      repeat' walk_at "wp"
      refine iteP (fun _ => ?_) (fun _ => ?_)
      · refine s_ret (e_or1 (e_new (f_catL (e_var rfl (e_new (f_slL (e_var rfl (o_some (e_var rfl ⟨_, rfl, o_some (e_op (e_var rfl (e_int (od_add ⟨_, rfl, xs, rfl, _, _, rfl, rfl, ?_, ?_⟩))))⟩)))))))))
        · rw [c1]; omega
        · exact w1 _ (.inl rfl)
      repeat' walk_at "wp"
      refine iteP (fun _ => ?_) (fun _ => ?_)
      · repeat' walk_at "wp"
        exact w2 _ (.inr rfl)
      repeat' walk_at "wp"
      refine iteP (fun _ => ?_) (fun _ => ?_)
      · exact s_ret (e_or1 (e_new (f_revL (e_var rfl ⟨xs, rfl, w3 _ (.inl rfl)⟩))))
      refine s_next (s_seq (s_asg (e_callP rfl (a_cons (e_or1 (e_op (e_var rfl (e_var rfl (od_ixL_ (FwN.at_nat hj) (a_nil ⟨xs[j], rfl, all _ (List.getElem_mem hj), fun z hz => ?_⟩))))))))))
      refine s_ret (e_or1 (e_new (f_catL (e_new (f_catL (e_new (f_slL (e_var rfl (o_none (o_some (e_var rfl ⟨_, rfl, xs, rfl, ?_⟩)))))))))))
      repeat' walk_at "wp"
      have lz : ([z] : List PyData).length = 1 := rfl
      refine ⟨_, _, rfl, rfl, by rw [cut_ahead]; omega, ?_⟩
      refine e_new (f_slL (e_var rfl (o_some (e_op (e_var rfl (e_int (od_add ⟨_, rfl, o_none ⟨xs, rfl, _, _, rfl, rfl, ?_, ?_⟩⟩)))))))
      · rw [cut_ahead, cut_behind, List.length_append]; omega
      · rw [cut_ahead, cut_behind]; exact w4 _ z (.inl rfl) hz
    · skip
      refine s_seq (s_if ?_)
      repeat' walk_at "wp"
      rw [if_pos (show (false || true) = true from rfl)]
      repeat' walk_at "wp"
      intro a a0 a1
      repeat' walk_at "wp"
      intro y y0 y1
      obtain ⟨j, rfl⟩ := Int.eq_ofNat_of_zero_le a0
      have hj : j < xs.length := by omega
      refine a_nil ⟨_, _, rfl, ?_⟩
      have l2 : (xs.take j ++ xs.drop (j + 1)).length ≤ 100000 := by rw [List.length_append, List.length_take, List.length_drop]; omega
      have lt1 : (xs.take j).length ≤ 600 := by rw [List.length_take]; omega
      have ld1 : (xs.drop (j + 1)).length ≤ 600 := by rw [List.length_drop]; omega
      have c1 := cut_len1 hj
      have c2 : ∀ z ∈ Fw.cutD xs (some (j : Int)) (some ((j : Int) + 1)), z ∈ xs := fun z hz => FwN.cut_mem hz
      have w0 := fun d e => sub (d := d) e (.inl ⟨j, hj, rfl⟩)
      have w1 := fun d e => sub (d := d) e (.inr (.inl ⟨_, c1, c2, rfl⟩))
      have w2 := fun d e => sub (d := d) e (.inr (.inr (.inl rfl)))
      have w3 := fun d e => sub (d := d) e (.inr (.inr (.inr (.inl rfl))))
      have w4 : ∀ d z : PyData, Seq d (xs.take j ++ [z] ++ xs.drop (j + 1)) → bOf 0 xs[j] z → Φ d := fun d z e hz => sub e (.inr (.inr (.inr (.inr ⟨j, hj, z, hz, rfl⟩))))
      repeat' walk_at "wp"
      refine iteP (fun _ => ?_) (fun _ => ?_)
      · refine s_ret (e_or2 ?_)
        repeat' walk_at "wp"
        rw [cut_ahead, cut_behind]
        exact od_catT_ (by omega) (w0 _ (.inr rfl))
      repeat' walk_at "wp"
      refine iteP (fun _ => ?_) (fun _ => ?_)
      · refine s_ret (e_or2 ?_)
        repeat' walk_at "wp"
        exact od_catT_ (by omega) (w1 _ (.inr rfl))
      repeat' walk_at "wp"
      refine iteP (fun _ => ?_) (fun _ => ?_)
      · repeat' walk_at "wp"
        exact w2 _ (.inl rfl)
      repeat' walk_at "wp"
      refine iteP (fun _ => ?_) (fun _ => ?_)
      · exact s_ret (e_or2 (e_revT (e_var rfl ⟨_, rfl, w3 _ (.inr rfl)⟩)))
      refine s_next (s_seq (s_asg (e_callP rfl (a_cons (e_or2 (e_op (e_var rfl (e_var rfl (od_ixT_ (FwN.at_nat hj) (a_nil ⟨xs[j], rfl, all _ (List.getElem_mem hj), fun z hz => ?_⟩))))))))))
      refine s_ret (e_or2 ?_)
      repeat' walk_at "wp"
      have lz : ([z] : List PyData).length = 1 := rfl
      rw [cut_ahead]
      refine od_catT_ (by omega) ?_
      repeat' walk_at "wp"
      rw [cut_behind]
      exact od_catT_ (by rw [List.length_append]; omega) (w4 _ z (.inr rfl) hz)
⟩
theorem has_bent1 (D : Dn K mg "_law_bent" s__law_bent) (tx : Tx mg) (h__law_pick : Has P w K mg base "_law_pick" ["pot", "some"] 2 (SpG K pre__law_pick)) (h__law_draw : Has P w K mg base "_law_draw" ["pot", "size"] 1 (SpG K pre__law_draw)) (h__law_bent : Has P w K mg base "_law_bent" ["pot", "value"] 4 (SpG K pre_bent0)) : Has P w K mg base "_law_bent" ["pot", "value"] 5 (SpG K pre_bent1) := has_of D (fun _ _ _ _ _ _ us hl => match us, hl with | [_, _], _ => rfl) (ok_bent1 tx h__law_pick h__law_draw h__law_bent)
abbrev pre_bent2 : Pre := pre_bent 2
theorem ok_bent2 (tx : Tx mg) (h__law_pick : Has P w K mg base "_law_pick" ["pot", "some"] 2 (SpG K pre__law_pick)) (h__law_draw : Has P w K mg base "_law_draw" ["pot", "size"] 1 (SpG K pre__law_draw)) (h__law_bent : Has P w K mg base "_law_bent" ["pot", "value"] 5 (SpG K pre_bent1)) : ∀ f fd, FnP K "_law_bent" s__law_bent f fd → FnOk P w K mg base CX0 6 f fd ["pot", "value"] (SpG K pre_bent2) := fun f fd F =>
  F.ok sc__law_bent (fun vs H Q E s => lenG (fun ds Φ h => by
    obtain ⟨_, rfl, _⟩ := h; rfl) s) fun cdv A outer s H vs Q E hr h => ⟨_, PSs.nox (pss_cons (ps_if (PW.pt (pw_and (pt_val (pe_callB (id := "isinstance") call_isiT (by rfl) tx.isinstance (by decide +kernel) (pa_cons (pv 1) (pa_cons (pe_tup (pa_cons (pe_bltn (v := .ty "list") (by rfl) tx.list (by decide +kernel) rfl) (pa_cons (pe_bltn (v := .ty "tuple") (by rfl) tx.tuple (by decide +kernel) rfl) pa_nil))) pa_nil)))) (pw_and1 (pt_cmpR op_gt (pe_callB (id := "len") call_len_seq (by rfl) tx.len (by decide +kernel) (pa_cons (pv 1) pa_nil)) pe_int (nomark _))))) (pss_cons (ps_par (i := 2) (j := 3) (by rfl) sc__law_bent.nd rfl rfl (by decide) rfl rfl (pa_cons (pe_callH h__law_draw (hr.mono (by decide)) (by rfl) (pa_cons (pv 0) (pa_cons (pe_callB (id := "len") call_len_seq (by rfl) tx.len (by decide +kernel) (pa_cons (pv 1) pa_nil)) pa_nil))) (pa_cons (pe_callH h__law_draw (hr.mono (by decide)) (by rfl) (pa_cons (pv 0) (pa_cons pe_int pa_nil))) pa_nil)) (by rfl))
    (pss_cons (ps_if (pt_cmpR op_eq (pv 3) pe_int (nomark _)) (pss_one (ps_ret (FwK.pe_or (pe_op FwU.op_catL (pe_slice sl_list (pv 1) po_none (po_some (pv 2))) (pe_slice sl_list (pv 1) (po_some (pe_op op_add (pv 2) pe_int)) po_none)) (pe_op op_catA (pe_slice sl_tupA (pv 1) po_none (po_some (pv 2))) (pe_slice sl_tupA (pv 1) (po_some (pe_op op_add (pv 2) pe_int)) po_none))))) pss_nil)
    (pss_cons (ps_if (pt_cmpR op_eq (pv 3) pe_int (nomark _)) (pss_one (ps_ret (FwK.pe_or (pe_op FwU.op_catL (pv 1) (pe_slice sl_list (pv 1) (po_some (pv 2)) (po_some (pe_op op_add (pv 2) pe_int)))) (pe_op op_catA (pv 1) (pe_slice sl_tupA (pv 1) (po_some (pv 2)) (po_some (pe_op op_add (pv 2) pe_int))))))) pss_nil)
    (pss_cons (ps_if (pt_cmpR op_eq (pv 3) pe_int (nomark _)) (pss_one (ps_ret (pe_ifExp (pt_val (pe_callB (id := "isinstance") call_isi (by rfl) tx.isinstance (by decide +kernel) (pa_cons (pv 1) (pa_cons (pe_bltn (v := .ty "tuple") (by rfl) tx.tuple (by decide +kernel) rfl) pa_nil)))) (pe_callTy call_list_of (by rfl) tx.list (by decide +kernel) (pa_cons (pv 1) pa_nil)) (pe_callTy call_tuple_of (by rfl) tx.tuple (by decide +kernel) (pa_cons (pv 1) pa_nil))))) pss_nil)
    (pss_cons (ps_if (pt_cmpR op_eq (pv 3) pe_int (nomark _)) (pss_one (ps_ret (FwK.pe_or (pe_revL (pv 1)) (FwT.pe_revT (pv 1))))) pss_nil)
    (pss_cons (ps_set (i := 4) sc__law_bent.nd rfl (.inl rfl) (pe_callH h__law_bent (hr.mono (by decide)) (by rfl) (pa_cons (pv 0) (pa_cons (FwK.pe_or (pe_ix ix_list (pv 1) (pv 2) (fun _ _ => rfl)) (pe_ix ix_tup (pv 1) (pv 2) (fun _ _ => rfl))) pa_nil))))
    (pss_one (ps_ret (FwK.pe_or (pe_op FwU.op_catL (pe_op FwU.op_catL (pe_slice sl_list (pv 1) po_none (po_some (pv 2))) (pe_ifExp (pt_val (pe_callB (id := "isinstance") call_isi (by rfl) tx.isinstance (by decide +kernel) (pa_cons (pv 1) (pa_cons (pe_bltn (v := .ty "list") (by rfl) tx.list (by decide +kernel) rfl) pa_nil)))) (pe_lst (pa_cons (pv 4) pa_nil)) (pe_tup (pa_cons (pv 4) pa_nil)))) (pe_slice sl_list (pv 1) (po_some (pe_op op_add (pv 2) pe_int)) po_none)) (pe_op op_catA (pe_op op_catA (pe_slice sl_tupA (pv 1) po_none (po_some (pv 2))) (pe_ifExp (pt_val (pe_callB (id := "isinstance") call_isi (by rfl) tx.isinstance (by decide +kernel) (pa_cons (pv 1) (pa_cons (pe_bltn (v := .ty "list") (by rfl) tx.list (by decide +kernel) rfl) pa_nil)))) (pe_lst (pa_cons (pv 4) pa_nil)) (pe_tup (pa_cons (pv 4) pa_nil)))) (pe_slice sl_tupA (pv 1) (po_some (pe_op op_add (pv 2) pe_int)) po_none))))))))))) pss_nil)
    (pss_cons (ps_if (PW.pt (pw_and (pt_val (pe_callB (id := "isinstance") call_isi (by rfl) tx.isinstance (by decide +kernel) (pa_cons (pv 1) (pa_cons (pe_bltn (v := .ty "int") (by rfl) tx.int (by decide +kernel) rfl) pa_nil)))) (pw_and (pt_not (pt_val (pe_callB (id := "isinstance") call_isi (by rfl) tx.isinstance (by decide +kernel) (pa_cons (pv 1) (pa_cons (pe_bltn (v := .ty "bool") (by rfl) tx.bool (by decide +kernel) rfl) pa_nil))))) (pw_and1 (pt_cmpR op_eq (pe_callH h__law_draw (hr.mono (by decide)) (by rfl) (pa_cons (pv 0) (pa_cons pe_int pa_nil))) pe_int (nomark _)))))) (pss_one (ps_ret (pe_op op_add (pv 1) (pe_callH h__law_pick (hr.mono (by decide)) (by rfl) (pa_cons (pv 0) (pa_cons (pe_lst (pa_cons pe_int (pa_cons (pe_un un_neg pe_int) (pa_cons pe_int pa_nil)))) pa_nil)))))) pss_nil)
    (pss_one (ps_ret (pe_callH h__law_pick (hr.mono (by decide)) (by rfl) (pa_cons (pv 0) (pa_cons (pe_lst (pa_cons pe_non (pa_cons pe_bl (pa_cons pe_int (pa_cons pe_int (pa_cons (pe_un un_neg pe_int) (pa_cons pe_int (pa_cons pe_str pa_nil)))))))) pa_nil))))))),
  bodyG h fun q ds Φ hp => by
    obtain ⟨v, rfl, ⟨xs, hv, l0, l1, all⟩, q⟩ := hp
    have sub : ∀ {ys : List PyData} {d : PyData}, Seq d ys → SeqB (bOf 1) xs ys → Φ d := fun e h => q _ ⟨xs, _, hv, e, h⟩
    rcases hv with rfl | rfl
    · skip
      refine s_seq (s_if ?_)
      repeat' walk_at "wp"
      rw [if_pos (show (true || false) = true from rfl)]
      repeat' walk_at "wp"
      intro a a0 a1
      repeat' walk_at "wp"
      intro y y0 y1
      obtain ⟨j, rfl⟩ := Int.eq_ofNat_of_zero_le a0
      have hj : j < xs.length := by omega
      refine a_nil ⟨_, _, rfl, ?_⟩
      have l2 : (xs.take j ++ xs.drop (j + 1)).length ≤ 100000 := by rw [List.length_append, List.length_take, List.length_drop]; omega
      have lt1 : (xs.take j).length ≤ 600 := by rw [List.length_take]; omega
      have ld1 : (xs.drop (j + 1)).length ≤ 600 := by rw [List.length_drop]; omega
      have c1 := cut_len1 hj
      have c2 : ∀ z ∈ Fw.cutD xs (some (j : Int)) (some ((j : Int) + 1)), z ∈ xs := fun z hz => FwN.cut_mem hz
      have w0 := fun d e => sub (d := d) e (.inl ⟨j, hj, rfl⟩)
      have w1 := fun d e => sub (d := d) e (.inr (.inl ⟨_, c1, c2, rfl⟩))
      have w2 := fun d e => sub (d := d) e (.inr (.inr (.inl rfl)))
      have w3 := fun d e => sub (d := d) e (.inr (.inr (.inr (.inl rfl))))
      have w4 : ∀ d z : PyData, Seq d (xs.take j ++ [z] ++ xs.drop (j + 1)) → bOf 1 xs[j] z → Φ d := fun d z e hz => sub e (.inr (.inr (.inr (.inr ⟨j, hj, z, hz, rfl⟩))))
      repeat' walk_at "wp"
      refine iteP (fun _ => ?_) (fun _ => ?_)
      · refine s_ret (e_or1 (e_new (f_catL (e_new (f_slL (e_var rfl (o_none (o_some (e_var rfl ⟨_, rfl, xs, rfl, ?_⟩)))))))))
        refine e_new (f_slL (e_var rfl (o_some (e_op (e_var rfl (e_int (od_add ⟨_, rfl, o_none ⟨xs, rfl, _, _, rfl, rfl, ?_, ?_⟩⟩)))))))
        · rw [cut_ahead, cut_behind]; omega
        · rw [cut_ahead, cut_behind]; exact w0 _ (.inl rfl)
      repeat' walk_at "wp"
      refine iteP (fun _ => ?_) (fun _ => ?_)
      · refine s_ret (e_or1 (e_new (f_catL (e_var rfl (e_new (f_slL (e_var rfl (o_some (e_var rfl ⟨_, rfl, o_some (e_op (e_var rfl (e_int (od_add ⟨_, rfl, xs, rfl, _, _, rfl, rfl, ?_, ?_⟩))))⟩)))))))))
        · rw [c1]; omega
        · exact w1 _ (.inl rfl)
      repeat' walk_at "wp"
      refine iteP (fun _ => ?_) (fun _ => ?_)
      · repeat' walk_at "wp"
        exact w2 _ (.inr rfl)
      repeat' walk_at "wp"
      refine iteP (fun _ => ?_) (fun _ => ?_)
      · exact s_ret (e_or1 (e_new (f_revL (e_var rfl ⟨xs, rfl, w3 _ (.inl rfl)⟩))))
      refine s_next (s_seq (s_asg (e_callP rfl (a_cons (e_or1 (e_op (e_var rfl (e_var rfl (od_ixL_ (FwN.at_nat hj) (a_nil ⟨xs[j], rfl, all _ (List.getElem_mem hj), fun z hz => ?_⟩))))))))))
      refine s_ret (e_or1 (e_new (f_catL (e_new (f_catL (e_new (f_slL (e_var rfl (o_none (o_some (e_var rfl ⟨_, rfl, xs, rfl, ?_⟩)))))))))))
      repeat' walk_at "wp"
      have lz : ([z] : List PyData).length = 1 := rfl
      refine ⟨_, _, rfl, rfl, by rw [cut_ahead]; omega, ?_⟩
      refine e_new (f_slL (e_var rfl (o_some (e_op (e_var rfl (e_int (od_add ⟨_, rfl, o_none ⟨xs, rfl, _, _, rfl, rfl, ?_, ?_⟩⟩)))))))
      · rw [cut_ahead, cut_behind, List.length_append]; omega
      · rw [cut_ahead, cut_behind]; exact w4 _ z (.inl rfl) hz
    · skip
      refine s_seq (s_if ?_)
      repeat' walk_at "wp"
      rw [if_pos (show (false || true) = true from rfl)]
      repeat' walk_at "wp"
      intro a a0 a1
      repeat' walk_at "wp"
      intro y y0 y1
      obtain ⟨j, rfl⟩ := Int.eq_ofNat_of_zero_le a0
      have hj : j < xs.length := by omega
      refine a_nil ⟨_, _, rfl, ?_⟩
      have l2 : (xs.take j ++ xs.drop (j + 1)).length ≤ 100000 := by rw [List.length_append, List.length_take, List.length_drop]; omega
      have lt1 : (xs.take j).length ≤ 600 := by rw [List.length_take]; omega
      have ld1 : (xs.drop (j + 1)).length ≤ 600 := by rw [List.length_drop]; omega
      have c1 := cut_len1 hj
      have c2 : ∀ z ∈ Fw.cutD xs (some (j : Int)) (some ((j : Int) + 1)), z ∈ xs := fun z hz => FwN.cut_mem hz
      have w0 := fun d e => sub (d := d) e (.inl ⟨j, hj, rfl⟩)
      have w1 := fun d e => sub (d := d) e (.inr (.inl ⟨_, c1, c2, rfl⟩))
      have w2 := fun d e => sub (d := d) e (.inr (.inr (.inl rfl)))
      have w3 := fun d e => sub (d := d) e (.inr (.inr (.inr (.inl rfl))))
      have w4 : ∀ d z : PyData, Seq d (xs.take j ++ [z] ++ xs.drop (j + 1)) → bOf 1 xs[j] z → Φ d := fun d z e hz => sub e (.inr (.inr (.inr (.inr ⟨j, hj, z, hz, rfl⟩))))
      repeat' walk_at "wp"
      refine iteP (fun _ => ?_) (fun _ => ?_)
      · refine s_ret (e_or2 ?_)
        repeat' walk_at "wp"
        rw [cut_ahead, cut_behind]
        exact od_catT_ (by omega) (w0 _ (.inr rfl))
      repeat' walk_at "wp"
      refine iteP (fun _ => ?_) (fun _ => ?_)
      · refine s_ret (e_or2 ?_)
        repeat' walk_at "wp"
        exact od_catT_ (by omega) (w1 _ (.inr rfl))
      repeat' walk_at "wp"
      refine iteP (fun _ => ?_) (fun _ => ?_)
      · repeat' walk_at "wp"
        exact w2 _ (.inl rfl)
      repeat' walk_at "wp"
      refine iteP (fun _ => ?_) (fun _ => ?_)
      · exact s_ret (e_or2 (e_revT (e_var rfl ⟨_, rfl, w3 _ (.inr rfl)⟩)))
      refine s_next (s_seq (s_asg (e_callP rfl (a_cons (e_or2 (e_op (e_var rfl (e_var rfl (od_ixT_ (FwN.at_nat hj) (a_nil ⟨xs[j], rfl, all _ (List.getElem_mem hj), fun z hz => ?_⟩))))))))))
      refine s_ret (e_or2 ?_)
      repeat' walk_at "wp"
      have lz : ([z] : List PyData).length = 1 := rfl
      rw [cut_ahead]
      refine od_catT_ (by omega) ?_
      repeat' walk_at "wp"
      rw [cut_behind]
      exact od_catT_ (by rw [List.length_append]; omega) (w4 _ z (.inr rfl) hz)
⟩
theorem has_bent2 (D : Dn K mg "_law_bent" s__law_bent) (tx : Tx mg) (h__law_pick : Has P w K mg base "_law_pick" ["pot", "some"] 2 (SpG K pre__law_pick)) (h__law_draw : Has P w K mg base "_law_draw" ["pot", "size"] 1 (SpG K pre__law_draw)) (h__law_bent : Has P w K mg base "_law_bent" ["pot", "value"] 5 (SpG K pre_bent1)) : Has P w K mg base "_law_bent" ["pot", "value"] 6 (SpG K pre_bent2) := has_of D (fun _ _ _ _ _ _ us hl => match us, hl with | [_, _], _ => rfl) (ok_bent2 tx h__law_pick h__law_draw h__law_bent)

theorem ok__law_right {C_Steps : Addr} (tx : Tx mg) (cf : Cf K C_Steps) (h__law_frame : Has P w K mg base "_law_frame" ["pot", "most"] 2 (SpG K pre__law_frame)) (h__law_book : Has P w K mg base "_law_book" ["pot", "moves"] 2 (SpG K pre__law_book)) (h__law_small : Has P w K mg base "_law_small" ["pot", "frame"] 3 (SpG K pre__law_small)) (h__law_walk : Has P w K mg base "_law_walk" ["pot", "book", "table"] 3 (SpG K pre__law_walk)) (h__law_moves : Has P w K mg base "_law_moves" ["frame"] 2 (SpN K pre__law_moves)) (h__law_is_road : Has P w K mg base "_law_is_road" ["frame", "book", "value"] 3 (SpF K pre__law_is_road)) (h__law_is_closed : Has P w K mg base "_law_is_closed" ["frame", "book", "value"] 3 (SpF K pre__law_is_closed)) (h_is_road : Has P w K mg base "is_road" ["frame", "book", "value"] 9 (SpF K (pre_is_road C_Steps))) (h__law_far : Has P w K mg base "_law_far" ["book", "table"] 2 (SpF K pre__law_far)) (h__law_bent : Has P w K mg base "_law_bent" ["pot", "value"] 6 (SpG K pre__law_bent)) (hk_is_closed_lot : HasK P w K mg base "is_closed_lot" ["frame", "book", "value"] ["value", "book", "frame"] 9 (SpF K (pre_is_closed_lot C_Steps)) (onlyK swap3)) : ∀ f fd, FnP K "_law_right" s__law_right f fd → FwG.FnG P w K mg base CX0 10 f fd ["pot"] (SpG K (pre__law_right C_Steps)) := fun f fd F =>
  FwG.okG F sc__law_right (fun vs H Q E s => lenG (fun ds Φ h => by
    obtain ⟨rfl, _⟩ := h; rfl) s) fun cdv A outer s H vs Q E gA hr h => ⟨_, PSs.nox (pss_cons (ps_set (i := 1) sc__law_right.nd rfl (.inl rfl) (pe_callH h__law_frame (hr.mono (by decide)) (by rfl) (pa_cons (pv 0) (pa_cons pe_int pa_nil))))
    (pss_cons (ps_par (i := 2) (j := 3) (by rfl) sc__law_right.nd rfl rfl (by decide) rfl rfl (pa_cons (pe_callH h__law_book (hr.mono (by decide)) (by rfl) (pa_cons (pv 0) (pa_cons (pe_callH h__law_moves (hr.mono (by decide)) (by rfl) (pa_cons (pv 1) pa_nil)) pa_nil))) (pa_cons (pe_callH h__law_small (hr.mono (by decide)) (by rfl) (pa_cons (pv 0) (pa_cons (pv 1) pa_nil))) pa_nil)) (by rfl))
    (pss_cons (ps_par (i := 4) (j := 5) (by rfl) sc__law_right.nd rfl rfl (by decide) rfl rfl (pa_cons (pe_callB (id := "sorted") (FwS.cr_sortedD (hu64 hr)) (by rfl) tx.sorted (by decide +kernel) (pa_cons (pe_callTy (FwD.call_listX rfl) (by rfl) tx.list (by decide +kernel) (pa_cons (pe_callH h__law_far (hr.mono (by decide)) (by rfl) (pa_cons (pv 2) (pa_cons (pv 3) pa_nil))) pa_nil)) pa_nil)) (pa_cons (pe_callB (id := "repr") (Fw.call_reprA gA (hu61 hr)) (by rfl) tx.repr (by decide +kernel) (pa_cons (pe_lst (pa_cons (pv 1) (pa_cons (pv 2) pa_nil))) pa_nil)) pa_nil)) (by rfl))
    (pss_cons (ps_set (i := 6) sc__law_right.nd rfl (.inl rfl) (pe_lst (pa_cons pe_non (pa_cons pe_int (pa_cons (pe_tup pa_nil) (pa_cons (pe_lst pa_nil) (pa_cons pe_str (pa_cons pe_dnewK (pa_cons (pv 3) (pa_cons (pe_lst (pa_cons (pv 3) pa_nil)) (pa_cons (pe_tup (pa_cons (pv 3) pa_nil)) (pa_cons (pv 4) (pa_cons (pe_callTy call_tuple_of (by rfl) tx.tuple (by decide +kernel) (pa_cons (pv 4) pa_nil)) pa_nil)))))))))))))
    (pss_cons (ps_for PassesOwn.never rfl (pi_range1 (by rfl) tx.range (pa_cons pe_int pa_nil)) (pg_name (i := 7) sc__law_right.nd rfl (.inl rfl)) (pss_cons (ps_set (i := 8) sc__law_right.nd rfl (.inl rfl) (pe_callH h__law_walk (hr.mono (by decide)) (by rfl) (pa_cons (pv 0) (pa_cons (pv 2) (pa_cons (pv 3) pa_nil)))))
    (pss_one (ps_expr (pe_bm PySem.F.plainAttrs_list PySem.F.slot_list_extend PySem.F.type_list_extend mt_extend (pv 6) (pa_cons (pe_lst (pa_cons (pv 8) (pa_cons (FwT.pe_revT (pv 8)) (pa_cons (pe_callH h__law_bent (hr.mono (by decide)) (by rfl) (pa_cons (pv 0) (pa_cons (pv 8) pa_nil))) (pa_cons (pe_callH h__law_bent (hr.mono (by decide)) (by rfl) (pa_cons (pv 0) (pa_cons (pv 4) pa_nil))) pa_nil))))) pa_nil))))))
    (pss_cons (ps_for PassesOwn.never rfl (pi_list (pv 6)) (pg_name (i := 9) sc__law_right.nd rfl (.inl rfl)) (pss_cons (ps_set (i := 10) sc__law_right.nd rfl (.inl rfl) (pe_lst (pa_cons (pe_callH h__law_is_road (hr.mono (by decide)) (by rfl) (pa_cons (pv 1) (pa_cons (pv 2) (pa_cons (pv 9) pa_nil)))) (pa_cons (pe_callH h__law_is_closed (hr.mono (by decide)) (by rfl) (pa_cons (pv 1) (pa_cons (pv 2) (pa_cons (pv 9) pa_nil)))) pa_nil))))
    (pss_cons (ps_set (i := 11) sc__law_right.nd rfl (.inl rfl) (pe_callB (id := "repr") (Fw.call_reprA gA (hu61 hr)) (by rfl) tx.repr (by decide +kernel) (pa_cons (pv 9) pa_nil)))
    (pss_cons (ps_set (i := 12) sc__law_right.nd rfl (.inl rfl) (pe_lst (pa_cons (pe_callH h_is_road (hr.mono (by decide)) (by rfl) (pa_cons (pv 1) (pa_cons (pv 2) (pa_cons (pv 9) pa_nil)))) (pa_cons (pe_callHK hk_is_closed_lot (hr.mono (by decide)) (by rfl) (pk_cons (pv 9) (pk_cons (pv 2) (pk_cons (pv 1) pk_nil)))) pa_nil))))
    (pss_one (ps_if (PW.pt (pw_or (pt_cmpR op_ne (pe_callB (id := "repr") (Fw.call_reprA gA (hu61 hr)) (by rfl) tx.repr (by decide +kernel) (pa_cons (pv 12) pa_nil)) (pe_callB (id := "repr") (Fw.call_reprA gA (hu61 hr)) (by rfl) tx.repr (by decide +kernel) (pa_cons (pv 10) pa_nil)) (nomark _)) (pw_or1 (pt_cmpR op_ne (pe_callB (id := "repr") (Fw.call_reprA gA (hu61 hr)) (by rfl) tx.repr (by decide +kernel) (pa_cons (pv 9) pa_nil)) (pv 11) (nomark _))))) (pss_one (ps_ret pe_bl)) pss_nil))))))
    (pss_one (ps_ret (pe_cmpR op_eq (pe_callB (id := "repr") (Fw.call_reprA gA (hu61 hr)) (by rfl) tx.repr (by decide +kernel) (pa_cons (pe_lst (pa_cons (pv 1) (pa_cons (pv 2) pa_nil))) pa_nil)) (pv 5) (nomark _)))))))))),
  bodyG h fun q ds Φ hp => by
    obtain ⟨rfl, q⟩ := hp
    refine s_seq (s_asg (e_callP rfl (a_cons (e_int (a_nil ⟨rfl, fun rows n F => ?_⟩)))))
    refine s_seq (s_par (a_cons (e_callP rfl (a_cons (e_new (f_call (a_cons (e_var rfl (a_nil ⟨rows, n, rfl, F, fun ms ml mnd hsm => ?_⟩)))))))))
    refine a_nil ⟨rows, n, ms, rfl, F, by omega, mnd, hsm, fun book B => ?_⟩
    refine a_cons (e_callP rfl (a_cons (e_var rfl (a_nil ⟨rows, n, rfl, F, fun t T => a_nil ⟨_, _, rfl, ?_⟩⟩))))
    have G : Fb rows n book := ⟨F, B⟩
    have n2 := F.two
    have t2 := tm_two G
    refine s_seq (s_par (a_cons (e_new (f_sorted (a_cons (e_new (f_listDX (e_call (a_cons (e_var rfl (a_cons (e_var rfl (a_nil ⟨rows, n, book, t, rfl, G, T.tb, fun ks Dd L => ?_⟩)))))))))))))
    have k5 := fd_few G T.tb L
    have kv : KV (dkv (fun x => .int (Dd x : Nat)) ks) := dkv_kv _ fun e => by have := L.tk; rw [e] at this; cases this
    refine ⟨_, rfl, kv, by rw [dkv_len]; omega, ?_⟩
    rw [dkv_keys]
    obtain ⟨E, e2, pm, ns⟩ := FwN.sort_rows ks
    refine a_nil ⟨_, rfl, FwN.alike_rows _, FwN.sortable_rows fun k hk e => ?_, FwN.deep_rows _, FwN.noDict_rows _, ?_⟩
    · have l1 := (wk_ok G.F G.B T.tb (L.lv k hk).1).len
      rw [e] at l1
      rw [← l1] at n2
      exact absurd n2 (by decide)
    rw [e2]
    refine a_cons (e_cb (a_cons (e_lst (a_cons (e_var rfl (a_cons (e_var rfl (a_nil ⟨(show 2 ≤ 100000 by decide), ?_⟩))))))))
    refine a_nil (cb_reprA (.inl t2.nd) t2.sh (Nat.le_trans t2.dp (by decide)) (t2.fits (by decide)) (a_nil ⟨_, _, rfl, ?_⟩))
    have memE : ∀ y, y ∈ E ↔ ∃ k, Wk book t k y := fun y => pm.mem_iff.trans ⟨fun h => ⟨_, (L.lv y h).1⟩, fun ⟨k, h⟩ => L.all k y h⟩
    have E5 : E.length ≤ 500 := wk_nodup_few G T (pm.nodup_iff.mpr L.nd) fun k hk => (memE k).mp hk
    have smE : ∀ m ∈ E, Sm rows n m := fun m hm => by
      obtain ⟨k, hk⟩ := (memE m).mp hm
      exact sm_wk G T hk
    have neE : E ≠ [] := fun e => by
      have := (memE t).mpr ⟨0, .nil⟩
      rw [e] at this
      cases this
    have vt := el_sm F T
    refine s_seq (s_cut (fun e => ∃ vs : List PyData, e = [.pot, .dat (frameD rows), .dat (rowsT book), .dat (tupI t), .dat (.list (E.map fun m => tupI m)), .dat (.str (PyData.list [frameD rows, rowsT book]).shown), .own vs, .no, .no, .no, .no, .no, .no] ∧ vs.length ≤ 11 ∧ ∀ v ∈ vs, VOk rows n v) (s_ownF (f_lst ?_)) ?_)
    · refine a_cons (e_non (a_cons (e_int (a_cons (e_tup (a_nil ⟨by decide, a_cons (e_lst (a_nil ⟨by decide, a_cons (e_str (a_cons (e_dict0 ?_)))⟩))⟩))))))
      refine a_cons (e_var rfl (a_cons (e_lst (a_cons (e_var rfl (a_nil ⟨(show 1 ≤ 100000 by decide), ?_⟩))))))
      refine a_cons (e_tup (a_cons (e_var rfl (a_nil ⟨(show 1 ≤ 100000 by decide), ?_⟩))))
      refine a_cons (e_var rfl (a_cons (e_cb (a_cons (e_var rfl (a_nil (cb_tuple_ (.inr rfl) ?_)))))))
      refine a_nil ⟨(show 11 ≤ 100000 by decide), _, rfl, (show 11 ≤ 11 by decide), fun v hv => ?_⟩
      simp only [List.mem_cons, List.not_mem_nil, or_false] at hv
      rcases hv with rfl | rfl | rfl | rfl | rfl | rfl | rfl | rfl | rfl | rfl | rfl
      · exact vok_atom (ra_tm tm_none (by decide) (by decide)) trivial fun xs h => by rcases h with h | h <;> cases h
      · exact vok_atom (ra_tm (tm_int (by decide) (by decide)) (by decide) (by decide)) trivial fun xs h => by rcases h with h | h <;> cases h
      · exact vok_seq (.inr rfl) (by decide) fun y hy => by cases hy
      · exact vok_seq (.inl rfl) (by decide) fun y hy => by cases hy
      · exact vok_atom (ra_tm (k := 0) (b := 10) ⟨by decide, rfl, by decide +kernel, by decide, Nat.le_refl _, by decide⟩ (by decide) (by decide)) trivial fun xs h => by rcases h with h | h <;> cases h
      · exact vok_atom ⟨.inr rfl, rfl, by decide, by rw [sizeLine_eq]; decide⟩ trivial fun xs h => by rcases h with h | h <;> cases h
      · refine vok_seq (.inr rfl) (by rw [List.length_map, T.len]; have := F.four; omega) fun y hy => ?_
        obtain ⟨c, hc, rfl⟩ := List.mem_map.mp hy
        have := sm_bd F T c hc
        exact el_int (by omega) (by omega)
      · exact vok_seq (.inl rfl) (show 1 ≤ 900 by decide) fun y hy => by rw [List.mem_singleton.mp hy]; exact vt
      · exact vok_seq (.inr rfl) (show 1 ≤ 900 by decide) fun y hy => by rw [List.mem_singleton.mp hy]; exact vt
      · exact vok_rows F (.inl rfl) E5 smE
      · exact vok_rows F (.inr rfl) E5 smE
    rintro e ⟨vs, rfl, vl, hv⟩
    refine s_seq (s_for (js := [7]) (i_rng1 (a_cons (e_int (a_nil ⟨3, rfl, by decide, by decide, fun i e => ∃ (vs : List PyData) (s7 s8 : Slot), e = [.pot, .dat (frameD rows), .dat (rowsT book), .dat (tupI t), .dat (.list (E.map fun m => tupI m)), .dat (.str (PyData.list [frameD rows, rowsT book]).shown), .own vs, s7, s8, .no, .no, .no, .no] ∧ vs.length ≤ 11 + 4 * i ∧ ∀ v ∈ vs, VOk rows n v, ⟨vs, _, _, rfl, vl, hv⟩, fun i x e hx => ?_, ?_⟩)))))
    · rintro ⟨vs, s7, s8, rfl, vl, hv⟩
      have hi : i < 3 := by
        have := (List.getElem?_eq_some_iff.mp hx).1
        rwa [rng_len] at this
      refine g_name (s_seq (s_asg (e_callP rfl (a_cons (e_var rfl (a_cons (e_var rfl (a_nil ⟨rows, n, book, t, rfl, G, T.tb, fun R ne few hR => ?_⟩))))))))
      have smR : ∀ m ∈ R, Sm rows n m := fun m hm => by
        obtain ⟨k, hk⟩ := hR m hm
        exact sm_wk G T hk
      refine s_ext rfl (f_lst ?_)
      refine a_cons (e_var rfl (a_cons (e_revT (e_var rfl ⟨_, rfl, ?_⟩))))
      refine a_cons (e_callP rfl (a_cons (e_var rfl (a_nil ⟨_, rfl, okb_rows F (.inr rfl) ne (by omega) smR, fun d hd => ?_⟩))))
      refine a_cons (e_callP rfl (a_cons (e_var rfl (a_nil ⟨_, rfl, okb_rows F (.inl rfl) neE E5 smE, fun d2 hd2 => ?_⟩))))
      refine a_nil ⟨(show 4 ≤ 100000 by decide), (show _ + 4 ≤ 100000 by omega), _, _, _, rfl, by rw [List.length_append]; show _ + 4 ≤ _; omega, fun v hv' => ?_⟩
      rcases List.mem_append.mp hv' with w | w
      · exact hv v w
      simp only [List.mem_cons, List.not_mem_nil, or_false] at w
      rcases w with rfl | rfl | rfl | rfl
      · exact vok_rows F (.inr rfl) (by omega) smR
      · rw [← List.map_reverse]
        exact vok_rows (ms := R.reverse) F (.inr rfl) (by rw [List.length_reverse]; omega) fun m hm => smR m (List.mem_reverse.mp hm)
      · exact vok_bent F (.inr rfl) (by omega) smR hd
      · exact vok_bent F (.inl rfl) E5 smE hd2
    · rintro e ⟨vs, s7, s8, rfl, vl, hv⟩
      refine s_pub (i := 6) rfl (s_seq (s_for (js := [9]) (i_list_ (e_var rfl ⟨_, rfl, fun i e => ∃ s9 s10 s11 s12 : Slot, e = [.pot, .dat (frameD rows), .dat (rowsT book), .dat (tupI t), .dat (.list (E.map fun m => tupI m)), .dat (.str (PyData.list [frameD rows, rowsT book]).shown), .dat (.list vs), s7, s8, s9, s10, s11, s12], ⟨_, _, _, _, rfl⟩, fun i x e hx => ?_, ?_⟩))))
      · rintro ⟨s9, s10, s11, s12, rfl⟩
        have jx := hv x (List.mem_of_getElem? hx)
        have rx := jx.ra
        refine g_name (s_seq (s_cut (fun e => ∃ b : Bool, (b = true ↔ ClP rows n book x) ∧ e = [.pot, .dat (frameD rows), .dat (rowsT book), .dat (tupI t), .dat (.list (E.map fun m => tupI m)), .dat (.str (PyData.list [frameD rows, rowsT book]).shown), .dat (.list vs), s7, s8, .dat x, .dat (.list [.bool (isRd rows n book x), .bool b]), s11, s12]) (s_asg (e_lst ?_)) ?_))
        · refine a_cons (e_call (a_cons (e_var rfl (a_cons (e_var rfl (a_cons (e_var rfl (a_nil ⟨rows, n, book, x, rfl, G, jx.dp, jx.sp, ?_⟩))))))))
          refine a_cons (e_call (a_cons (e_var rfl (a_cons (e_var rfl (a_cons (e_var rfl (a_nil ⟨rows, n, book, x, rfl, G, jx.dp, jx.ln, jx.tb, fun b hb => a_nil ⟨(show 2 ≤ 100000 by decide), b, hb, rfl⟩⟩))))))))
        rintro e ⟨b, hb, rfl⟩
        refine s_seq (s_asg (e_cb (a_cons (e_var rfl (a_nil (cb_reprA rx.hk rx.sh rx.dp rx.sz ?_))))))
        refine s_seq (s_cut (fun e => e = [.pot, .dat (frameD rows), .dat (rowsT book), .dat (tupI t), .dat (.list (E.map fun m => tupI m)), .dat (.str (PyData.list [frameD rows, rowsT book]).shown), .dat (.list vs), s7, s8, .dat x, .dat (.list [.bool (isRd rows n book x), .bool b]), .dat (.str x.shown), .dat (.list [.bool (isRd rows n book x), .bool b])]) (s_asg (e_lst ?_)) ?_)
        · refine a_cons (e_call (a_cons (e_var rfl (a_cons (e_var rfl (a_cons (e_var rfl (a_nil ⟨rows, n, book, x, rfl, G, jx.dp, ?_⟩))))))))
          refine a_cons (e_callS3 (a_cons (e_var rfl (a_cons (e_var rfl (a_cons (e_var rfl (a_nil ⟨_, _, _, rfl, rows, n, book, x, rfl, G, jx.dp, jx.ln, fun b' hb' => a_nil ⟨(show 2 ≤ 100000 by decide), ?_⟩⟩))))))))
          rw [b_eq hb' hb]
          rfl
        rintro e rfl
        have tb := tm_bools [isRd rows n book x, b] (show 2 ≤ 100 by decide)
        repeat' walk_at "wp"
        refine cb_reprA (.inl tb.nd) tb.sh (Nat.le_trans tb.dp (by decide)) (tb.fits (by decide)) ?_
        repeat' walk_at "wp"
        refine cb_reprA (.inl tb.nd) tb.sh (Nat.le_trans tb.dp (by decide)) (tb.fits (by decide)) ?_
        repeat' walk_at "wp"
        refine iteND rfl ?_
        repeat' walk_at "wp"
        refine cb_reprA rx.hk rx.sh rx.dp rx.sz ?_
        repeat' walk_at "wp"
        refine iteND rfl ?_
        exact s_next ⟨_, _, _, _, rfl⟩
      · rintro e ⟨s9, s10, s11, s12, rfl⟩
        repeat' walk_at "wp"
        refine cb_reprA (.inl t2.nd) t2.sh (Nat.le_trans t2.dp (by decide)) (t2.fits (by decide)) ?_
        repeat' walk_at "wp"
        rw [decide_eq_true rfl]
        exact q
⟩
theorem has__law_right (D : Dn K mg "_law_right" s__law_right) {C_Steps : Addr} (tx : Tx mg) (cf : Cf K C_Steps) (h__law_frame : Has P w K mg base "_law_frame" ["pot", "most"] 2 (SpG K pre__law_frame)) (h__law_book : Has P w K mg base "_law_book" ["pot", "moves"] 2 (SpG K pre__law_book)) (h__law_small : Has P w K mg base "_law_small" ["pot", "frame"] 3 (SpG K pre__law_small)) (h__law_walk : Has P w K mg base "_law_walk" ["pot", "book", "table"] 3 (SpG K pre__law_walk)) (h__law_moves : Has P w K mg base "_law_moves" ["frame"] 2 (SpN K pre__law_moves)) (h__law_is_road : Has P w K mg base "_law_is_road" ["frame", "book", "value"] 3 (SpF K pre__law_is_road)) (h__law_is_closed : Has P w K mg base "_law_is_closed" ["frame", "book", "value"] 3 (SpF K pre__law_is_closed)) (h_is_road : Has P w K mg base "is_road" ["frame", "book", "value"] 9 (SpF K (pre_is_road C_Steps))) (h__law_far : Has P w K mg base "_law_far" ["book", "table"] 2 (SpF K pre__law_far)) (h__law_bent : Has P w K mg base "_law_bent" ["pot", "value"] 6 (SpG K pre__law_bent)) (hk_is_closed_lot : HasK P w K mg base "is_closed_lot" ["frame", "book", "value"] ["value", "book", "frame"] 9 (SpF K (pre_is_closed_lot C_Steps)) (onlyK swap3)) : HasG P w K mg base "_law_right" ["pot"] 10 (SpG K (pre__law_right C_Steps)) := hasG_of D (fun _ _ _ _ _ _ us hl => match us, hl with | [_], _ => rfl) (ok__law_right tx cf h__law_frame h__law_book h__law_small h__law_walk h__law_moves h__law_is_road h__law_is_closed h_is_road h__law_far h__law_bent hk_is_closed_lot)

theorem ok_law {C_Steps : Addr} (tx : Tx mg) (cf : Cf K C_Steps) (h__law_right : HasG P w K mg base "_law_right" ["pot"] 10 (SpG K (pre__law_right C_Steps))) (h__law_pot : Has P w K mg base "_law_pot" ["script", "k"] 1 (SpN K pre__law_pot)) : ∀ f fd, FnP K "law" s_law f fd → FwG.FnG P w K mg base CX0 11 f fd ["script"] (SpF K pre_law) := fun f fd F =>
  FwG.okG F sc_law (fun vs H Q E s => lenF (fun ds Φ h => by
    obtain ⟨_, rfl, _⟩ := h; rfl) s) fun cdv A outer s H vs Q E gA hr h => ⟨_, PSs.nox (pss_one (ps_ret (pe_callHG h__law_right gA (hr.mono (by decide)) (by rfl) (pa_cons (pe_callH h__law_pot (hr.mono (by decide)) (by rfl) (pa_cons (pv 0) (pa_cons pe_int pa_nil))) pa_nil)))),
  bodyF h fun ds Φ hp => by
    obtain ⟨ns, rfl, nl, q⟩ := hp
    refine s_ret (e_callPot (f_call ?_))
    repeat' walk_at "wp"
    intro a b hab
    exact ⟨a, b, rfl, hab, rfl, q⟩
⟩
theorem has_law (D : Dn K mg "law" s_law) {C_Steps : Addr} (tx : Tx mg) (cf : Cf K C_Steps) (h__law_right : HasG P w K mg base "_law_right" ["pot"] 10 (SpG K (pre__law_right C_Steps))) (h__law_pot : Has P w K mg base "_law_pot" ["script", "k"] 1 (SpN K pre__law_pot)) : HasG P w K mg base "law" ["script"] 11 (SpF K pre_law) := hasG_of D (fun _ _ _ _ _ _ us hl => match us, hl with | [_], _ => rfl) (ok_law tx cf h__law_right h__law_pot)
end
end K27
section
set_option maxHeartbeats 0
namespace K27
open PySem PySem.Spec PyProof.Rows L2 Evl Fw
theorem vals_swap2 {zs : List V} {ws : List Value} (h : Vals zs ws) : Vals (swap2 zs) (swap2 ws) := by
  cases h with
  | nil => exact .nil
  | cons a t =>
    cases t with
    | nil => exact .nil
    | cons b t =>
      cases t with
      | nil => exact .cons b (.cons a .nil)
      | cons _ _ => exact .nil
theorem vals_swap3 {zs : List V} {ws : List Value} (h : Vals zs ws) : Vals (swap3 zs) (swap3 ws) := by
  cases h with
  | nil => exact .nil
  | cons a t =>
    cases t with
    | nil => exact .nil
    | cons b t =>
      cases t with
      | nil => exact .nil
      | cons c t =>
        cases t with
        | nil => exact .cons c (.cons b (.cons a .nil))
        | cons _ _ => exact .nil
theorem facts {P : Program} {w : World} {K : PySem.W.Frag} {h : Heap} {mg : Str → Option Value} {fl : Addr} (X : K.In h) (G : h.Ns mainGlobals mg) (hfa : mg ("law" : Str) = some (.ref fl)) (c : He.SaysD fa fn K) (cx : ex K = true) :
    ∃ fd : FuncData, (∀ (s : Shared) (v : Value), BindsTo s fd ⟨[v], []⟩ [("script", v)]) ∧ ∀ base : Heap, K.In base → base.Ns mainGlobals mg → FwG.FnG P w K mg base CX0 11 fl fd ["script"] (SpF K pre_law) := by
  have tx : Tx mg := {
    isinstance := He.free_ok X G (c.fact 51 (f := .free "isinstance") rfl)
    int := He.free_ok X G (c.fact 52 (f := .free "int") rfl)
    bool := He.free_ok X G (c.fact 53 (f := .free "bool") rfl)
    tuple := He.free_ok X G (c.fact 54 (f := .free "tuple") rfl)
    str := He.free_ok X G (c.fact 55 (f := .free "str") rfl)
    any := He.free_ok X G (c.fact 56 (f := .free "any") rfl)
    len := He.free_ok X G (c.fact 57 (f := .free "len") rfl)
    all := He.free_ok X G (c.fact 58 (f := .free "all") rfl)
    zip := He.free_ok X G (c.fact 59 (f := .free "zip") rfl)
    abs := He.free_ok X G (c.fact 60 (f := .free "abs") rfl)
    list := He.free_ok X G (c.fact 61 (f := .free "list") rfl)
    repr := He.free_ok X G (c.fact 62 (f := .free "repr") rfl)
    range := He.free_ok X G (c.fact 63 (f := .free "range") rfl)
    max := He.free_ok X G (c.fact 64 (f := .free "max") rfl)
    min := He.free_ok X G (c.fact 65 (f := .free "min") rfl)
    divmod := He.free_ok X G (c.fact 66 (f := .free "divmod") rfl)
    sorted := He.free_ok X G (c.fact 67 (f := .free "sorted") rfl)
    enumerate := He.free_ok X G (c.fact 68 (f := .free "enumerate") rfl)
    sum := He.free_ok X G (c.fact 69 (f := .free "sum") rfl)
    MOST_CELLS := He.int_ok X G (c.fact 70 (f := .int "MOST_CELLS" 16) rfl)
    MOST_FRAME_ROWS := He.int_ok X G (c.fact 71 (f := .int "MOST_FRAME_ROWS" 16) rfl)
    MOST_IN_FRAME := He.int_ok X G (c.fact 72 (f := .int "MOST_IN_FRAME" 9) rfl)
    MOST_SUM := He.int_ok X G (c.fact 73 (f := .int "MOST_SUM" 20000) rfl)
    MOST_MOVES := He.int_ok X G (c.fact 74 (f := .int "MOST_MOVES" 60) rfl)
    MOST_IN_MOVE := He.int_ok X G (c.fact 75 (f := .int "MOST_IN_MOVE" 99) rfl) }
  have D_is_integer : Dn K mg "is_integer" s_is_integer := by
    obtain ⟨fd, F⟩ := c.def_ 0 (d := d_is_integer) rfl
    exact ⟨_, fd, F, He.glo_ok X G (c.fact 0 (f := .glo "is_integer") rfl)⟩
  have D_is_count : Dn K mg "is_count" s_is_count := by
    obtain ⟨fd, F⟩ := c.def_ 1 (d := d_is_count) rfl
    exact ⟨_, fd, F, He.glo_ok X G (c.fact 1 (f := .glo "is_count") rfl)⟩
  have D_is_count_to : Dn K mg "is_count_to" s_is_count_to := by
    obtain ⟨fd, F⟩ := c.def_ 2 (d := d_is_count_to) rfl
    exact ⟨_, fd, F, He.glo_ok X G (c.fact 2 (f := .glo "is_count_to") rfl)⟩
  have D_are_integers : Dn K mg "are_integers" s_are_integers := by
    obtain ⟨fd, F⟩ := c.def_ 3 (d := d_are_integers) rfl
    exact ⟨_, fd, F, He.glo_ok X G (c.fact 3 (f := .glo "are_integers") rfl)⟩
  have D_are_counts : Dn K mg "are_counts" s_are_counts := by
    obtain ⟨fd, F⟩ := c.def_ 4 (d := d_are_counts) rfl
    exact ⟨_, fd, F, He.glo_ok X G (c.fact 4 (f := .glo "are_counts") rfl)⟩
  have D_is_listed : Dn K mg "is_listed" s_is_listed := by
    obtain ⟨fd, F⟩ := c.def_ 5 (d := d_is_listed) rfl
    exact ⟨_, fd, F, He.glo_ok X G (c.fact 5 (f := .glo "is_listed") rfl)⟩
  have D_is_rising : Dn K mg "is_rising" s_is_rising := by
    obtain ⟨fd, F⟩ := c.def_ 6 (d := d_is_rising) rfl
    exact ⟨_, fd, F, He.glo_ok X G (c.fact 6 (f := .glo "is_rising") rfl)⟩
  have D_first_place : Dn K mg "first_place" s_first_place := by
    obtain ⟨fd, F⟩ := c.def_ 7 (d := d_first_place) rfl
    exact ⟨_, fd, F, He.glo_ok X G (c.fact 7 (f := .glo "first_place") rfl)⟩
  have D_put_on : Dn K mg "put_on" s_put_on := by
    obtain ⟨fd, F⟩ := c.def_ 8 (d := d_put_on) rfl
    exact ⟨_, fd, F, He.glo_ok X G (c.fact 8 (f := .glo "put_on") rfl)⟩
  have D_inner : Dn K mg "inner" s_inner := by
    obtain ⟨fd, F⟩ := c.def_ 9 (d := d_inner) rfl
    exact ⟨_, fd, F, He.glo_ok X G (c.fact 9 (f := .glo "inner") rfl)⟩
  have D_is_frame : Dn K mg "is_frame" s_is_frame := by
    obtain ⟨fd, F⟩ := c.def_ 10 (d := d_is_frame) rfl
    exact ⟨_, fd, F, He.glo_ok X G (c.fact 10 (f := .glo "is_frame") rfl)⟩
  have D_check_frame : Dn K mg "check_frame" s_check_frame := by
    obtain ⟨fd, F⟩ := c.def_ 11 (d := d_check_frame) rfl
    exact ⟨_, fd, F, He.glo_ok X G (c.fact 11 (f := .glo "check_frame") rfl)⟩
  have D_cells_of : Dn K mg "cells_of" s_cells_of := by
    obtain ⟨fd, F⟩ := c.def_ 12 (d := d_cells_of) rfl
    exact ⟨_, fd, F, He.glo_ok X G (c.fact 12 (f := .glo "cells_of") rfl)⟩
  have D_sums_by : Dn K mg "sums_by" s_sums_by := by
    obtain ⟨fd, F⟩ := c.def_ 13 (d := d_sums_by) rfl
    exact ⟨_, fd, F, He.glo_ok X G (c.fact 13 (f := .glo "sums_by") rfl)⟩
  have D_is_change_by : Dn K mg "is_change_by" s_is_change_by := by
    obtain ⟨fd, F⟩ := c.def_ 14 (d := d_is_change_by) rfl
    exact ⟨_, fd, F, He.glo_ok X G (c.fact 14 (f := .glo "is_change_by") rfl)⟩
  have D_is_table_of : Dn K mg "is_table_of" s_is_table_of := by
    obtain ⟨fd, F⟩ := c.def_ 15 (d := d_is_table_of) rfl
    exact ⟨_, fd, F, He.glo_ok X G (c.fact 15 (f := .glo "is_table_of") rfl)⟩
  have D_is_small_change : Dn K mg "is_small_change" s_is_small_change := by
    obtain ⟨fd, F⟩ := c.def_ 16 (d := d_is_small_change) rfl
    exact ⟨_, fd, F, He.glo_ok X G (c.fact 16 (f := .glo "is_small_change") rfl)⟩
  have D_is_move_of : Dn K mg "is_move_of" s_is_move_of := by
    obtain ⟨fd, F⟩ := c.def_ 17 (d := d_is_move_of) rfl
    exact ⟨_, fd, F, He.glo_ok X G (c.fact 17 (f := .glo "is_move_of") rfl)⟩
  have D_is_book : Dn K mg "is_book" s_is_book := by
    obtain ⟨fd, F⟩ := c.def_ 18 (d := d_is_book) rfl
    exact ⟨_, fd, F, He.glo_ok X G (c.fact 18 (f := .glo "is_book") rfl)⟩
  have D_check_book : Dn K mg "check_book" s_check_book := by
    obtain ⟨fd, F⟩ := c.def_ 19 (d := d_check_book) rfl
    exact ⟨_, fd, F, He.glo_ok X G (c.fact 19 (f := .glo "check_book") rfl)⟩
  obtain ⟨fd_Steps___init__, F_Steps___init__⟩ := c.def_ 20 (d := d_Steps___init__) rfl
  obtain ⟨fd_Steps_tables_from, F_Steps_tables_from⟩ := c.def_ 21 (d := d_Steps_tables_from) rfl
  obtain ⟨fd_Steps_way_between, F_Steps_way_between⟩ := c.def_ 22 (d := d_Steps_way_between) rfl
  have D_is_road : Dn K mg "is_road" s_is_road := by
    obtain ⟨fd, F⟩ := c.def_ 23 (d := d_is_road) rfl
    exact ⟨_, fd, F, He.glo_ok X G (c.fact 20 (f := .glo "is_road") rfl)⟩
  have D_is_way : Dn K mg "is_way" s_is_way := by
    obtain ⟨fd, F⟩ := c.def_ 24 (d := d_is_way) rfl
    exact ⟨_, fd, F, He.glo_ok X G (c.fact 21 (f := .glo "is_way") rfl)⟩
  have D_ways_along : Dn K mg "ways_along" s_ways_along := by
    obtain ⟨fd, F⟩ := c.def_ 25 (d := d_ways_along) rfl
    exact ⟨_, fd, F, He.glo_ok X G (c.fact 22 (f := .glo "ways_along") rfl)⟩
  have D_is_closed_lot : Dn K mg "is_closed_lot" s_is_closed_lot := by
    obtain ⟨fd, F⟩ := c.def_ 26 (d := d_is_closed_lot) rfl
    exact ⟨_, fd, F, He.glo_ok X G (c.fact 23 (f := .glo "is_closed_lot") rfl)⟩
  have D_is_one_closed_part : Dn K mg "is_one_closed_part" s_is_one_closed_part := by
    obtain ⟨fd, F⟩ := c.def_ 27 (d := d_is_one_closed_part) rfl
    exact ⟨_, fd, F, He.glo_ok X G (c.fact 24 (f := .glo "is_one_closed_part") rfl)⟩
  have D__law_pot : Dn K mg "_law_pot" s__law_pot := by
    obtain ⟨fd, F⟩ := c.def_ 28 (d := d__law_pot) rfl
    exact ⟨_, fd, F, He.glo_ok X G (c.fact 25 (f := .glo "_law_pot") rfl)⟩
  have D__law_draw : Dn K mg "_law_draw" s__law_draw := by
    obtain ⟨fd, F⟩ := c.def_ 29 (d := d__law_draw) rfl
    exact ⟨_, fd, F, He.glo_ok X G (c.fact 26 (f := .glo "_law_draw") rfl)⟩
  have D__law_pick : Dn K mg "_law_pick" s__law_pick := by
    obtain ⟨fd, F⟩ := c.def_ 30 (d := d__law_pick) rfl
    exact ⟨_, fd, F, He.glo_ok X G (c.fact 27 (f := .glo "_law_pick") rfl)⟩
  have D__law_sums : Dn K mg "_law_sums" s__law_sums := by
    obtain ⟨fd, F⟩ := c.def_ 31 (d := d__law_sums) rfl
    exact ⟨_, fd, F, He.glo_ok X G (c.fact 28 (f := .glo "_law_sums") rfl)⟩
  have D__law_frame : Dn K mg "_law_frame" s__law_frame := by
    obtain ⟨fd, F⟩ := c.def_ 32 (d := d__law_frame) rfl
    exact ⟨_, fd, F, He.glo_ok X G (c.fact 29 (f := .glo "_law_frame") rfl)⟩
  have D__law_rows : Dn K mg "_law_rows" s__law_rows := by
    obtain ⟨fd, F⟩ := c.def_ 33 (d := d__law_rows) rfl
    exact ⟨_, fd, F, He.glo_ok X G (c.fact 30 (f := .glo "_law_rows") rfl)⟩
  have D__law_moves : Dn K mg "_law_moves" s__law_moves := by
    obtain ⟨fd, F⟩ := c.def_ 34 (d := d__law_moves) rfl
    exact ⟨_, fd, F, He.glo_ok X G (c.fact 31 (f := .glo "_law_moves") rfl)⟩
  have D__law_book : Dn K mg "_law_book" s__law_book := by
    obtain ⟨fd, F⟩ := c.def_ 35 (d := d__law_book) rfl
    exact ⟨_, fd, F, He.glo_ok X G (c.fact 32 (f := .glo "_law_book") rfl)⟩
  have D__law_table : Dn K mg "_law_table" s__law_table := by
    obtain ⟨fd, F⟩ := c.def_ 36 (d := d__law_table) rfl
    exact ⟨_, fd, F, He.glo_ok X G (c.fact 33 (f := .glo "_law_table") rfl)⟩
  have D__law_small : Dn K mg "_law_small" s__law_small := by
    obtain ⟨fd, F⟩ := c.def_ 37 (d := d__law_small) rfl
    exact ⟨_, fd, F, He.glo_ok X G (c.fact 34 (f := .glo "_law_small") rfl)⟩
  have D__law_steps : Dn K mg "_law_steps" s__law_steps := by
    obtain ⟨fd, F⟩ := c.def_ 38 (d := d__law_steps) rfl
    exact ⟨_, fd, F, He.glo_ok X G (c.fact 35 (f := .glo "_law_steps") rfl)⟩
  have D__law_far : Dn K mg "_law_far" s__law_far := by
    obtain ⟨fd, F⟩ := c.def_ 39 (d := d__law_far) rfl
    exact ⟨_, fd, F, He.glo_ok X G (c.fact 36 (f := .glo "_law_far") rfl)⟩
  have D__law_is_table : Dn K mg "_law_is_table" s__law_is_table := by
    obtain ⟨fd, F⟩ := c.def_ 40 (d := d__law_is_table) rfl
    exact ⟨_, fd, F, He.glo_ok X G (c.fact 37 (f := .glo "_law_is_table") rfl)⟩
  have D__law_is_road : Dn K mg "_law_is_road" s__law_is_road := by
    obtain ⟨fd, F⟩ := c.def_ 41 (d := d__law_is_road) rfl
    exact ⟨_, fd, F, He.glo_ok X G (c.fact 38 (f := .glo "_law_is_road") rfl)⟩
  have D__law_is_closed : Dn K mg "_law_is_closed" s__law_is_closed := by
    obtain ⟨fd, F⟩ := c.def_ 42 (d := d__law_is_closed) rfl
    exact ⟨_, fd, F, He.glo_ok X G (c.fact 39 (f := .glo "_law_is_closed") rfl)⟩
  have D__law_walk : Dn K mg "_law_walk" s__law_walk := by
    obtain ⟨fd, F⟩ := c.def_ 43 (d := d__law_walk) rfl
    exact ⟨_, fd, F, He.glo_ok X G (c.fact 40 (f := .glo "_law_walk") rfl)⟩
  have D__law_bent : Dn K mg "_law_bent" s__law_bent := by
    obtain ⟨fd, F⟩ := c.def_ 44 (d := d__law_bent) rfl
    exact ⟨_, fd, F, He.glo_ok X G (c.fact 41 (f := .glo "_law_bent") rfl)⟩
  have D__law_right : Dn K mg "_law_right" s__law_right := by
    obtain ⟨fd, F⟩ := c.def_ 45 (d := d__law_right) rfl
    exact ⟨_, fd, F, He.glo_ok X G (c.fact 42 (f := .glo "_law_right") rfl)⟩
  have cf_Steps : Cf K (He.ga K "Steps") := ⟨He.cls_ok (c.fact 45 (f := .cls "Steps") rfl), He.noat_ok (c.fact 47 (f := .noat "Steps" "ways") rfl), He.noat_ok (c.fact 48 (f := .noat "Steps" "known") rfl)⟩
  obtain ⟨fd, F⟩ := c.def_ 46 (d := d_law) rfl
  have e := hfa.symm.trans (He.glo_ok X G (c.fact 43 (f := .glo "law") rfl))
  cases e
  have b := FunD.bindsA (ps := ["script"]) F fun _ _ _ _ _ _ us hl => match us, hl with | [_], _ => rfl
  refine ⟨fd, fun s v => b s [v] rfl, fun base _ _ => ?_⟩
  have h_is_integer := has_is_integer (P := P) (w := w) (base := base) D_is_integer tx
  have h_is_count := has_is_count (P := P) (w := w) (base := base) D_is_count tx h_is_integer
  have h_is_count_to := has_is_count_to (P := P) (w := w) (base := base) D_is_count_to tx h_is_count
  have h_are_integers := has_are_integers (P := P) (w := w) (base := base) D_are_integers tx h_is_integer
  have h_are_counts := has_are_counts (P := P) (w := w) (base := base) D_are_counts tx h_is_count_to
  have h_is_listed := has_is_listed (P := P) (w := w) (base := base) D_is_listed tx
  have h_is_rising := has_is_rising (P := P) (w := w) (base := base) D_is_rising tx
  have h_first_place := has_first_place (P := P) (w := w) (base := base) D_first_place tx
  have h_put_on := has_put_on (P := P) (w := w) (base := base) D_put_on tx
  have h_inner := has_inner (P := P) (w := w) (base := base) D_inner tx
  have h_is_frame := has_is_frame (P := P) (w := w) (base := base) D_is_frame tx h_are_counts
  have h_check_frame := has_check_frame (P := P) (w := w) (base := base) D_check_frame tx h_is_frame
  have h_cells_of := has_cells_of (P := P) (w := w) (base := base) D_cells_of tx
  have h_sums_by := has_sums_by (P := P) (w := w) (base := base) D_sums_by tx h_inner
  have h_is_change_by := has_is_change_by (P := P) (w := w) (base := base) D_is_change_by tx h_are_integers h_cells_of h_first_place h_sums_by
  have h_is_table_of := has_is_table_of (P := P) (w := w) (base := base) D_is_table_of tx h_are_counts h_cells_of h_sums_by
  have h_is_small_change := has_is_small_change (P := P) (w := w) (base := base) D_is_small_change tx h_is_change_by
  have h_is_move_of := has_is_move_of (P := P) (w := w) (base := base) D_is_move_of tx h_first_place h_is_small_change
  have h_is_book := has_is_book (P := P) (w := w) (base := base) D_is_book tx h_check_frame h_is_rising h_is_move_of
  have h_check_book := has_check_book (P := P) (w := w) (base := base) D_check_book tx h_is_book
  have G_Steps___init__ : FnM K "__init__" "Steps.__init__" s_Steps___init__ (He.ma K (He.ga K "Steps") "__init__") fd_Steps___init__ := F_Steps___init__
  have h_Steps___init__ := hasI_of (P := P) (w := w) (base := base) (x := "Steps") (ps := ["self", "book"]) (He.mkr_ok (c.fact 46 (f := .mkr "Steps") rfl)) G_Steps___init__ (He.glo_ok X G (c.fact 44 (f := .glo "Steps") rfl)) (fun _ _ _ _ _ _ us hl => match us, hl with | [_, _], _ => rfl) (ok_Steps___init__ tx cf_Steps _ fd_Steps___init__ G_Steps___init__)
  have G_Steps_tables_from : FnM K "tables_from" "Steps.tables_from" s_Steps_tables_from (He.ma K (He.ga K "Steps") "tables_from") fd_Steps_tables_from := F_Steps_tables_from
  have h_Steps_tables_from := hasM_of (P := P) (w := w) (mg := mg) (base := base) (ps := ["self", "table"]) cf_Steps.cls (He.meth_ok (c.fact 49 (f := .meth "Steps" "tables_from") rfl)) G_Steps_tables_from (fun _ _ _ _ _ _ us hl => match us, hl with | [_, _], _ => rfl) (ok_Steps_tables_from tx cf_Steps h_put_on _ fd_Steps_tables_from G_Steps_tables_from)
  have G_Steps_way_between : FnM K "way_between" "Steps.way_between" s_Steps_way_between (He.ma K (He.ga K "Steps") "way_between") fd_Steps_way_between := F_Steps_way_between
  have h_Steps_way_between := hasM_of (P := P) (w := w) (mg := mg) (base := base) (ps := ["self", "table", "other"]) cf_Steps.cls (He.meth_ok (c.fact 50 (f := .meth "Steps" "way_between") rfl)) G_Steps_way_between (fun _ _ _ _ _ _ us hl => match us, hl with | [_, _, _], _ => rfl) (ok_Steps_way_between tx cf_Steps h_put_on _ fd_Steps_way_between G_Steps_way_between)
  have h_ways_along := has_ways_along (P := P) (w := w) (base := base) D_ways_along tx cf_Steps h_Steps___init__ h_Steps_way_between
  have h_is_way := has_is_way (P := P) (w := w) (base := base) D_is_way tx cf_Steps h_ways_along
  have h_is_road := has_is_road (P := P) (w := w) (base := base) D_is_road tx cf_Steps h_check_book h_is_way h_is_table_of
  have h_is_one_closed_part := has_is_one_closed_part (P := P) (w := w) (base := base) D_is_one_closed_part tx cf_Steps h_Steps_tables_from
  have h_is_closed_lot := has_is_closed_lot (P := P) (w := w) (base := base) D_is_closed_lot tx cf_Steps h_check_book h_is_rising h_is_one_closed_part h_is_listed h_Steps___init__ h_is_table_of
  have hk_is_closed_lot : HasK P w K mg base "is_closed_lot" ["frame", "book", "value"] ["value", "book", "frame"] 9 (SpF K (pre_is_closed_lot (He.ga K "Steps"))) (onlyK swap3) := hasK_of swap3 D_is_closed_lot (ok_is_closed_lot tx cf_Steps h_check_book h_is_rising h_is_one_closed_part h_is_listed h_Steps___init__ h_is_table_of) (fun _ _ _ _ _ _ ws hl => match ws, hl with | [_, _, _], _ => rfl | [], hl => nomatch hl | [_], hl => nomatch hl | [_, _], hl => nomatch hl | _ :: _ :: _ :: _ :: _, hl => nomatch hl) (vals_swap3) (by decide)
  have h__law_pot := has__law_pot (P := P) (w := w) (base := base) D__law_pot tx
  have h__law_draw := has__law_draw (P := P) (w := w) (base := base) D__law_draw tx
  have h__law_pick := has__law_pick (P := P) (w := w) (base := base) D__law_pick tx h__law_draw
  have h__law_sums := has__law_sums (P := P) (w := w) (base := base) D__law_sums tx
  have h__law_frame := has__law_frame (P := P) (w := w) (base := base) D__law_frame tx h__law_draw
  have h__law_rows := has__law_rows (P := P) (w := w) (base := base) D__law_rows tx
  have h__law_moves := has__law_moves (P := P) (w := w) (base := base) D__law_moves tx h__law_rows h__law_sums
  have h__law_book := has__law_book (P := P) (w := w) (base := base) D__law_book tx h__law_draw
  have h__law_table := has__law_table (P := P) (w := w) (base := base) D__law_table tx h__law_draw
  have h__law_small := has__law_small (P := P) (w := w) (base := base) D__law_small tx h__law_table
  have h__law_steps := has__law_steps (P := P) (w := w) (base := base) D__law_steps tx
  have h__law_far := has__law_far (P := P) (w := w) (base := base) D__law_far tx h__law_steps
  have h__law_is_table := has__law_is_table (P := P) (w := w) (base := base) D__law_is_table tx h__law_sums
  have h__law_is_road := has__law_is_road (P := P) (w := w) (base := base) D__law_is_road tx h__law_is_table h__law_steps
  have h__law_is_closed := has__law_is_closed (P := P) (w := w) (base := base) D__law_is_closed tx h__law_is_table h__law_far
  have h__law_walk := has__law_walk (P := P) (w := w) (base := base) D__law_walk tx h__law_draw h__law_steps h__law_pick
  have hB0 := has_bentF (P := P) (w := w) (base := base) D__law_bent
  have hB1 := has_bent0 (P := P) (w := w) (base := base) D__law_bent tx h__law_pick h__law_draw hB0
  have hB2 := has_bent1 (P := P) (w := w) (base := base) D__law_bent tx h__law_pick h__law_draw hB1
  have hB3 := has_bent2 (P := P) (w := w) (base := base) D__law_bent tx h__law_pick h__law_draw hB2
  have h__law_bent := hB3
  have h__law_right := has__law_right (P := P) (w := w) (base := base) D__law_right tx cf_Steps h__law_frame h__law_book h__law_small h__law_walk h__law_moves h__law_is_road h__law_is_closed h_is_road h__law_far h__law_bent hk_is_closed_lot
  exact ok_law tx cf_Steps h__law_right h__law_pot _ fd F
end K27
open PySem PySem.W PySem.Calls PyProof.Rows
set_option maxRecDepth 100000 in
set_option maxHeartbeats 0 in
theorem PySem.Challenge.cw_sumroads_k27_any_value_as_road_or_closed_holds : PySem.Challenge.rw_sumroads_k27_any_value_as_road_or_closed.Holds := by
  w_on; o_law
  refine HandSHeadRun.head_imp (r := OpenLaw.row PySem.Challenge.rw_sumroads_k27_any_value_as_road_or_closed) (q := view (OpenLaw.row PySem.Challenge.rw_sumroads_k27_any_value_as_road_or_closed).prog [62]) (H := K27.hk) (ob := K27.ob) (M := 4000) (loose := K27.loose) (d := HandSHeadRun.topDef (OpenLaw.row PySem.Challenge.rw_sumroads_k27_any_value_as_road_or_closed).prog 62) (kwd := []) K27.ob_eq K27.run (by kernel_rfl) (by kernel_rfl) (by kernel_rfl) (by rfl) (by first | assumption | decide +kernel) (by decide +kernel) ⟨rfl, rfl, rfl, rfl, rfl, by decide +kernel⟩ ?hw ?hc
  case hw => w_witness2
  case hc =>
    refine FwG.walkG (l := PySem.Challenge.rw_sumroads_k27_any_value_as_road_or_closed) (n := 63) (k := 11) (x := "script") rfl (by decide) (by kernel_rfl) ⟨rfl, by decide, by decide⟩ ?F
    intro w mg fa h Y G hmg0
    obtain ⟨K, KX, c, cx⟩ := Y
    have hmg : mg ("law" : PySem.Str) = some (.ref fa) := by
      have e : (HandSHeadRun.topDef (OpenLaw.row PySem.Challenge.rw_sumroads_k27_any_value_as_road_or_closed).prog 62).name = ("law" : PySem.Str) := by kernel_rfl
      rw [← e]
      exact hmg0
    obtain ⟨fd, hb, hF⟩ := K27.facts (P := (PySem.Challenge.rw_sumroads_k27_any_value_as_road_or_closed).prog) (w := w) KX G hmg c cx
    exact ⟨K, fd, Fw.SpF K Fw.pre_law, KX, hb, fun H a ns hl _ hS => Fw.lawProm hl hS, hF⟩
end
