import PyProof.Rows.All
import Wide.All
import OpenK.AllK
import Wide.FinOn
import HandS.ForExc
import HandS.Comp
import HandS.IsInst
import HandS.ExcInit
import HandS.ExcIs
import HandS.CallSlots
import HandS.Iter
import HandS.Zip
import HandS.Deep
import HandS.ListItems
import KE.DataFind
import HandS.TupAny
import HandS.TupLe
import PySem.Challenge.RW_frametally_k01_sizes
set_option Elab.async false
set_option linter.all false
set_option maxRecDepth 100000
set_option maxHeartbeats 4000000
/-! Data that stands in the heap (None, bools, ints, texts, lists, tuples): how it stays, what shape it has, its type. -/
namespace Dk
open PySem PySem.Spec PyProof.Rows L2

theorem Same.tupS {K : PySem.W.Frag} {H H' : Hp} {a : Addr} {xs : List V} (e : Same H H') (h : SqT K H a xs) : SqT K H' a xs := by
  rcases h with (h | ⟨o, h⟩) | h
  · exact .inl (.inl (e _ _ h))
  · exact .inl (.inr ⟨o, e _ _ h⟩)
  · exact .inr h
theorem Same.new {H : Hp} {p : Addr} {o : HO} (h : H p = none) : Same H (upd H p o) := fun b u e => (upd_ne (ne_of_none e h)).trans e
/-- an object that H does not track may be written -/
theorem Same.put {H H' : Hp} {p : Addr} {o : HO} (e : Same H H') (h : H p = none) : Same H (upd H' p o) := fun b u k => (upd_ne (ne_of_none k h)).trans (e b u k)

mutual
theorem dp_mono {K : PySem.W.Frag} {H H' : Hp} (e : Same H H') : ∀ {d : PyData} {v : V}, Dp K H v d → Dp K H' v d
  | .none, _, h => by cases h; exact .non
  | .bool b, _, h => by cases h; exact .bl b
  | .int i, _, h => by cases h; exact .int i
  | .str x, _, h => by cases h; exact .str x
  | .list ds, _, h => by
    cases h with
    | lst s q => exact .lst (e.seq s) (dpAll_mono e q)
  | .tuple ds, _, h => by
    cases h with
    | tup s q => exact .tup (Same.tupS e s) (dpAll_mono e q)
  | .dict _, _, h => by cases h
theorem dpAll_mono {K : PySem.W.Frag} {H H' : Hp} (e : Same H H') : ∀ {ds : List PyData} {vs : List V}, DpAll K H vs ds → DpAll K H' vs ds
  | [], _, h => by cases h; exact .nil
  | d :: ds, _, h => by
    cases h with
    | cons a b => exact .cons (dp_mono e a) (dpAll_mono e b)
end
section
variable {K : PySem.W.Frag} {H : Hp}
theorem dpAll_app : ∀ {xs ys : List V} {ds es : List PyData}, DpAll K H xs ds → DpAll K H ys es → DpAll K H (xs ++ ys) (ds ++ es)
  | _, _, _, _, .nil, q => q
  | _, _, _, _, .cons a b, q => .cons a (dpAll_app b q)
theorem dpAll_len : ∀ {xs : List V} {ds : List PyData}, DpAll K H xs ds → xs.length = ds.length
  | _, _, .nil => rfl
  | _, _, .cons _ b => congrArg (· + 1) (dpAll_len b)
theorem dpAll_drop : ∀ {xs : List V} {ds : List PyData} (n : Nat), DpAll K H xs ds → DpAll K H (xs.drop n) (ds.drop n)
  | _, _, 0, q => q
  | _, _, n + 1, .nil => .nil
  | _, _, n + 1, .cons _ b => dpAll_drop n b
theorem dpAll_get : ∀ {xs : List V} {ds : List PyData} {i : Nat} {v : V}, DpAll K H xs ds → xs[i]? = some v → ∃ d, ds[i]? = some d ∧ Dp K H v d
  | _, _, _, _, .nil, e => by simp at e
  | _, _, 0, _, .cons a _, e => by
    simp at e
    subst e
    exact ⟨_, rfl, a⟩
  | _, _, i + 1, _, .cons _ b, e => by
    obtain ⟨d, h1, h2⟩ := dpAll_get (i := i) b (by simpa using e)
    exact ⟨d, by simpa using h1, h2⟩
theorem dpAll_ints (ns : List Int) : DpAll K H (ns.map V.int) (ns.map PyData.int) := by
  induction ns with
  | nil => exact .nil
  | cons n ns ih => exact .cons (.int n) ih
end

theorem take_snoc {α : Type} : ∀ {l : List α} {i : Nat} {x : α}, l[i]? = some x → l.take (i + 1) = l.take i ++ [x]
  | [], _, _, h => by simp at h
  | y :: l, 0, _, h => by
    simp at h
    subst h
    rfl
  | y :: l, i + 1, _, h => by
    have ih := take_snoc (l := l) (i := i) (by simpa using h)
    rw [List.take_succ_cons, ih, List.take_succ_cons]
    rfl

theorem ifF {c : Bool} {A B : Prop} (h : c = false) (b : B) : if c = true then A else B := by
  rw [h]
  exact iteF b
theorem ifT {c : Bool} {A B : Prop} (h : c = true) (b : A) : if c = true then A else B := by
  rw [h]
  exact iteT b
theorem upd_comm {H : Hp} {a b : Addr} {o u : HO} (h : a ≠ b) : upd (upd H a o) b u = upd (upd H b u) a o := by
  funext c
  by_cases ca : c = a
  · rw [ca, upd_ne h, upd_same, upd_same]
  · by_cases cb : c = b
    · rw [cb, upd_same, upd_ne (Ne.symm h), upd_same]
    · rw [upd_ne cb, upd_ne ca, upd_ne ca, upd_ne cb]
theorem upd_self {H : Hp} {a : Addr} {o : HO} (h : H a = some o) : upd H a o = H := by
  funext c
  by_cases ca : c = a
  · rw [ca, upd_same, h]
  · rw [upd_ne ca]

theorem cut1 (xs : List V) : cutV xs (some 1) none = xs.drop 1 := by
  unfold cutV
  have e1 : HT.sIx xs.length 0 (some 1) = min 1 xs.length := HT.sIx_nat xs.length 0 1
  rw [e1, HT.sIx_none]
  cases xs with
  | nil => rfl
  | cons x xs =>
    rw [show min 1 (x :: xs).length = 1 by simp only [List.length_cons]; omega]
    exact List.take_of_length_le (by rw [List.length_drop]; omega)

/-- a new object beside a list under construction at D -/
theorem new_under {G : Hp} {D p : Addr} {u o : HO} (gD : G D = none) (h : upd G D u p = none) : upd (upd G D u) p o = upd (upd G p o) D u ∧ G p = none ∧ upd G p o D = none := by
  have ne : p ≠ D := fun e => by
    rw [e, upd_same] at h
    cases h
  exact ⟨upd_comm (Ne.symm ne), (upd_ne ne).symm.trans h, (upd_ne (Ne.symm ne)).trans gD⟩

/-! ### tuples stay, whatever is written elsewhere -/
def IsT : HO → Prop
  | .tup _ => True
  | .frz _ u => IsT u
  | _ => False
def KT (H H' : Hp) : Prop := ∀ b o, H b = some o → IsT o → H' b = some o
theorem KT.refl (H : Hp) : KT H H := fun _ _ h _ => h
theorem KT.trans {H H1 H2 : Hp} (a : KT H H1) (b : KT H1 H2) : KT H H2 := fun c o h k => b c o (a c o h k) k
theorem KT.of {H H' : Hp} (e : Same H H') : KT H H' := fun b o h _ => e b o h
theorem KT.put {H : Hp} {a : Addr} {u : HO} (h : ∀ o, H a = some o → ¬ IsT o) : KT H (upd H a u) := fun b o e k => by
  have ne : b ≠ a := fun z => h o (z ▸ e) k
  rw [upd_ne ne]
  exact e
theorem KT.lst {H : Hp} {a : Addr} {xs : List V} {u : HO} (h : H a = some (.lst xs)) : KT H (upd H a u) := KT.put fun o e k => by
  rw [h] at e
  cases e
  exact k
theorem KT.ins {H : Hp} {a C dx : Addr} {fs : List (Str × V)} {u : HO} (h : H a = some (.ins C dx fs)) : KT H (upd H a u) := KT.put fun o e k => by
  rw [h] at e
  cases e
  exact k
theorem KT.new {H : Hp} {a : Addr} {u : HO} (h : H a = none) : KT H (upd H a u) := KT.of (Same.new h)
theorem KT.tupS {K : PySem.W.Frag} {H H' : Hp} {a : Addr} {xs : List V} (e : KT H H') (h : SqT K H a xs) : SqT K H' a xs := by
  rcases h with (h | ⟨o, h⟩) | h
  · exact .inl (.inl (e _ _ h True.intro))
  · exact .inl (.inr ⟨o, e _ _ h True.intro⟩)
  · exact .inr h
mutual
/-- no list, no dict within -/
def noL : PyData → Bool
  | .none => true
  | .bool _ => true
  | .int _ => true
  | .str _ => true
  | .list _ => false
  | .dict _ => false
  | .tuple ds => noLs ds
def noLs : List PyData → Bool
  | [] => true
  | d :: ds => noL d && noLs ds
end
mutual
theorem dp_keep {K : PySem.W.Frag} {H H' : Hp} (e : KT H H') : ∀ {d : PyData} {v : V}, noL d = true → Dp K H v d → Dp K H' v d
  | .none, _, _, h => by cases h; exact .non
  | .bool b, _, _, h => by cases h; exact .bl b
  | .int i, _, _, h => by cases h; exact .int i
  | .str x, _, _, h => by cases h; exact .str x
  | .list ds, _, n, h => by simp [noL] at n
  | .tuple ds, _, n, h => by
    cases h with
    | tup s q => exact .tup (e.tupS s) (dpAll_keep e (by simpa [noL] using n) q)
  | .dict _, _, _, h => by cases h
theorem dpAll_keep {K : PySem.W.Frag} {H H' : Hp} (e : KT H H') : ∀ {ds : List PyData} {vs : List V}, noLs ds = true → DpAll K H vs ds → DpAll K H' vs ds
  | [], _, _, h => by cases h; exact .nil
  | d :: ds, _, n, h => by
    cases h with
    | cons a b =>
      have n2 : noL d = true ∧ noLs ds = true := by simpa [noLs] using n
      exact .cons (dp_keep e n2.1 a) (dpAll_keep e n2.2 b)
end
theorem noLs_of : ∀ {ds : List PyData}, (∀ d ∈ ds, noL d = true) → noLs ds = true
  | [], _ => by simp only [noLs]
  | d :: ds, h => by
    simp only [noLs, h d (List.mem_cons_self ..), noLs_of fun x hx => h x (List.mem_cons_of_mem _ hx), Bool.and_self]
theorem noL_tup {ds : List PyData} (h : ∀ d ∈ ds, noL d = true) : noL (.tuple ds) = true := by
  simp only [noL]
  exact noLs_of h

/-! ### shapes -/
structure Sh (n : Nat) (d : PyData) : Prop where
  lay : d.canLay0 = true
  deep : d.depth ≤ n
theorem Sh.up {n m : Nat} {d : PyData} (h : Sh n d) (k : n ≤ m) : Sh m d := ⟨h.lay, Nat.le_trans h.deep k⟩
theorem sh_none : Sh 0 .none := ⟨by simp only [PyData.canLay0], by simp only [PyData.depth]; omega⟩
theorem sh_int (i : Int) : Sh 0 (.int i) := ⟨by simp only [PyData.canLay0], by simp only [PyData.depth]; omega⟩
theorem sh_bool (b : Bool) : Sh 0 (.bool b) := ⟨by simp only [PyData.canLay0], by simp only [PyData.depth]; omega⟩
theorem sh_all {n : Nat} : ∀ {ds : List PyData}, (∀ d ∈ ds, Sh n d) → PyData.canLayAll0 ds = true ∧ PyData.depthAll ds ≤ n
  | [], _ => ⟨by simp only [PyData.canLayAll0], by simp only [PyData.depthAll]; omega⟩
  | d :: ds, h => by
    have h1 := h d (List.mem_cons_self ..)
    obtain ⟨h2, h3⟩ := sh_all (n := n) (ds := ds) fun x hx => h x (List.mem_cons_of_mem _ hx)
    exact ⟨by simp only [PyData.canLayAll0, h1.lay, h2, Bool.and_self], by simp only [PyData.depthAll]; exact Nat.max_le.mpr ⟨h1.deep, h3⟩⟩
theorem sh_tup {n : Nat} {ds : List PyData} (h : ∀ d ∈ ds, Sh n d) : Sh (n + 1) (.tuple ds) := by
  obtain ⟨h1, h2⟩ := sh_all h
  exact ⟨by simp only [PyData.canLay0]; exact h1, by simp only [PyData.depth]; omega⟩
theorem sh_lst {n : Nat} {ds : List PyData} (h : ∀ d ∈ ds, Sh n d) : Sh (n + 1) (.list ds) := by
  obtain ⟨h1, h2⟩ := sh_all h
  exact ⟨by simp only [PyData.canLay0]; exact h1, by simp only [PyData.depth]; omega⟩
theorem Sh.ok {n : Nat} {d : PyData} (h : Sh n d) (k : n ≤ 64 := by decide) : SeqAt.shaped d = true := by
  unfold SeqAt.shaped
  rw [h.lay, decide_eq_true (Nat.le_trans h.deep k)]
  rfl
theorem Sh.refl {n : Nat} {d : PyData} (h : Sh n d) : PyData.eqv d d = true := SeqAt.eqv_refl d h.lay

/-! ### types -/
def tyN : PyData → String
  | .none => "NoneType"
  | .bool _ => "bool"
  | .int _ => "int"
  | .str _ => "str"
  | .list _ => "list"
  | .tuple _ => "tuple"
  | .dict _ => "dict"
theorem tyx {K : PySem.W.Frag} {H : Hp} {v : V} {d : PyData} (h : Dp K H v d) : TyX K H v (.type (tyN d)) := by
  cases h with
  | non => exact .base .non
  | bl b => exact .base (.bl b)
  | int i => exact .base (.int i)
  | str x => exact .base (.str x)
  | lst s _ =>
    rcases s with (s | ⟨o, s⟩) | s
    · exact .base (.lst s)
    · exact .base (.frz s)
    · obtain ⟨o, _, _, h1, h2, _⟩ := s
      exact .kList h1 h2
  | tup s _ =>
    rcases s with (s | ⟨o, s⟩) | s
    · exact .base (.tup s)
    · exact .fTuple s
    · obtain ⟨o, _, _, h1, h2, _⟩ := s
      exact .kTuple h1 h2

/-! ### isinstance over data -/
def isInt : PyData → Bool
  | .int _ => true
  | .bool _ => true
  | _ => false
def isBool : PyData → Bool
  | .bool _ => true
  | _ => false
def isTup : PyData → Bool
  | .tuple _ => true
  | _ => false
def isLst : PyData → Bool
  | .list _ => true
  | _ => false
def kits (c : String) : List (Option Bool) := ["NoneType", "bool", "int", "str", "list", "tuple", "dict"].map fun t => kitB t c
theorem kits_at {c : String} {b0 b1 b2 b3 b4 b5 b6 : Bool} (h : kits c = [some b0, some b1, some b2, some b3, some b4, some b5, some b6]) (d : PyData) :
    kitB (tyN d) c = some (match d with | .none => b0 | .bool _ => b1 | .int _ => b2 | .str _ => b3 | .list _ => b4 | .tuple _ => b5 | .dict _ => b6) := by
  simp only [kits, List.map_cons, List.map_nil, List.cons.injEq, and_true] at h
  obtain ⟨h0, h1, h2, h3, h4, h5, h6⟩ := h
  cases d
  · exact h0
  · exact h1
  · exact h2
  · exact h3
  · exact h4
  · exact h5
  · exact h6
section
variable {K : PySem.W.Frag}
theorem kit_int (d : PyData) : PySem.W.kitOne K (.type (tyN d)) (.type "int") = some (isInt d) := by
  refine (kit_ty (kits_at (by decide +kernel : kits "int" = [some false, some true, some true, some false, some false, some false, some false]) d)).trans ?_
  cases d <;> rfl
theorem kit_bool (d : PyData) : PySem.W.kitOne K (.type (tyN d)) (.type "bool") = some (isBool d) := by
  refine (kit_ty (kits_at (by decide +kernel : kits "bool" = [some false, some true, some false, some false, some false, some false, some false]) d)).trans ?_
  cases d <;> rfl
theorem kit_tup (d : PyData) : PySem.W.kitOne K (.type (tyN d)) (.type "tuple") = some (isTup d) := by
  refine (kit_ty (kits_at (by decide +kernel : kits "tuple" = [some false, some false, some false, some false, some false, some true, some false]) d)).trans ?_
  cases d <;> rfl
theorem kit_lst (d : PyData) : PySem.W.kitOne K (.type (tyN d)) (.type "list") = some (isLst d) := by
  refine (kit_ty (kits_at (by decide +kernel : kits "list" = [some false, some false, some false, some false, some true, some false, some false]) d)).trans ?_
  cases d <;> rfl
end
end Dk
/-! An own error class over ValueError that is made without an argument and keeps no field: C(), its __init__ walked as a def. -/
namespace Ek
open PySem PySem.Spec PyProof.Rows L2
section
variable {X : Cx} {a C : Addr} {p pos : Pos}

/-- behind C(): the error at a is let go, nothing else of the heap has changed its tracking -/
theorem let_go {pins : List (Addr × Obj)} {σ : L2.St} {H1 H2 : Hp} {u v w2 : Heap} {gA gB : Array GenState} {dA dB : Drawn} {tA tB : Nat} {oA oB : OsState}
    (I1 : Inv X pins σ H1 ⟨u, gA, dA, tA, oA⟩) (ha : u.objs.size ≤ a) (kp : ∀ b o, u.get? b = some o → v.get? b = some o)
    (un : Un (frs X.stack) [] (upd H1 a (exo a C none)) H2 v w2) (ok2 : HOk X.prog X.w H2 w2) (eo : oB = oA) (bare : AllBare gB) (ea : H2 a = some (exo a C none)) :
    ∃ (t0 : Addr) (G : Heap), Inv X pins σ (del H2 a) ⟨G, gB, dB, tB, oB⟩ ∧ (∀ b o, G.get? b = some o → w2.get? b = some o) ∧ G.get? a = none ∧
      w2.get? a = some ({ cls := .ref C, dict := none, data := .fields #[.ref t0, .none, .none, .none, .bool false, .none] } : Obj) := by
  obtain ⟨t0, he⟩ := exo_at ok2 ea
  have hn : H1 a = none := I1.hok.fresh ha
  obtain ⟨G, gIn, gOut⟩ := restrict w2 (fun b => decide (b ≠ a))
  have same : ∀ b, b ≠ a → G.get? b = w2.get? b := fun b hb => gIn b (decide_eq_true hb)
  have gone : G.get? a = none := gOut a (by simp)
  have old : ∀ {b : Addr} {o : Obj}, u.get? b = some o → b ≠ a := fun {b o} z => Nat.ne_of_lt (Nat.lt_of_lt_of_le (Heap.lt_size z) ha)
  have up : ∀ {b : Addr}, b ≠ a → H1 b = none → upd H1 a (exo a C none) b = none := fun {b} hb n => (upd_ne hb).trans n
  have U : Un (frs X.stack) [] H1 (del H2 a) u G :=
    { keep := fun b o z n hf hx => (same b (old z)).trans (un.keep b o (kp b o z) (up (old z) n) hf hx)
      slot := fun b o z n hf hx => by
        obtain ⟨sl, e⟩ := un.slot b o (kp b o z) (up (old z) n) hf hx
        exact ⟨sl, (same b (old z)).trans e⟩
      free := fun b o z n hx => (del_ne (old z)).trans (un.free b o (kp b o z) (up (old z) n) hx)
      there := fun b o z hx => by
        obtain ⟨o2, e⟩ := un.there b o (kp b o z) hx
        exact ⟨o2, (same b (old z)).trans e⟩
      tups := fun b xs z => (del_ne (ne_of_none z hn)).trans (un.tups b xs ((upd_ne (ne_of_none z hn)).trans z))
      frzs := fun b o y z => (del_ne (ne_of_none z hn)).trans (un.frzs b o y ((upd_ne (ne_of_none z hn)).trans z))
      tbls := fun b ps z => by
        obtain ⟨more, e⟩ := un.tbls b ps ((upd_ne (ne_of_none z hn)).trans z)
        exact ⟨more, (del_ne (ne_of_none z hn)).trans e⟩ }
  have noa : ∀ {b c : Addr}, H2 c = some (.own b) → c ≠ a := fun {b c} hc => at_ne ea hc exo_own
  have ok3 : HOk X.prog X.w (del H2 a) G := fun b o z => by
    have hba : b ≠ a := fun e => by
      rw [e, del_same] at z
      cases z
    rw [del_ne hba] at z
    refine (ok2 b o z).stay (fun c y hc q => ?_) (fun c hc => (del_ne (noa hc)).trans hc) (fun c xs hc => (del_ne (at_ne ea hc exo_tup)).trans hc)
    have hca : c ≠ a := by
      rcases hc with hc | hc
      · exact hc ▸ hba
      · exact noa hc
    exact (same c hca).trans q
  refine ⟨t0, G, I1.call' (ch := []) eo U ok3 bare (fun b z => absurd z (by simp)), fun b o z => ?_, gone, he⟩
  by_cases hba : b = a
  · rw [hba, gone] at z
    cases z
  · exact (same b hba).symm.trans z

/-- C(), where __init__ sets nothing -/
def tMk0 (C : Addr) (sp : Sp) : L2.St → Hp → XK → Prop := fun _ H Q => ∀ a, H a = none →
  sp [.ref a] (upd H a (exo a C none)) (fun v H2 => v = .non ∧ H2 a = some (exo a C none) ∧ Q (.ref C) none (del H2 a)) (fun _ _ _ => False)
theorem mk_exc0 {CX : CXT} {x : Str} {C fI : Addr} {k : Nat} {fd : FuncData} {ps : List Str} {sp : Sp} (T : OexC X.K C)
    (iC : PySem.W.findIn X.K (.ref C) "__init__" = some (some (.ref fI))) (tI : PySem.W.typeIn X.K (.ref fI) = some (.type "function"))
    (F1 : FnOk X.prog X.w X.K X.mg X.base CX k fI fd ps sp) (hr : Room (k + 1) X.A) (hb : Binds X.K fd ps []) (hx : Passes CX X (fun _ _ _ => False))
    (hg : Gl X x) (hm : X.mg x = some (.ref C)) (hdb : (x == ("__debug__" : Str)) = false := by decide) :
    PMk X (.Call (.Name x p) [] [] pos) (tMk0 C sp) := by
  intro pins s σ H Q I h
  obtain ⟨nm, q, N, bs, bm, sn, sub, ab, col, dd, k0, k1, k2, k3, k5, hC, hbm⟩ := T.cls
  refine wpAny_Call_Name_kw (ld_glob I hg hm ?_ hdb)
  refine PySem.W.callWith_K0 I.kIn T.kC ?_
  show wpAny _ _ (call (.ref C) []) _ _ _
  obtain ⟨hp, g, dr, tk, os⟩ := s
  have hsz : hp.objs.size ≤ hp.objs.size + 1 := Nat.le_succ _
  have hn : H (hp.objs.size + 1) = none := I.hok.fresh hsz
  have want := h (hp.objs.size + 1) hn
  have keep2 : ∀ b o, hp.get? b = some o → ((hp.push (PySem.W.kdv_tup [])).push (PySem.HandSPX.excO C hp.objs.size)).get? b = some o :=
    fun b o e => Heap.get?_push_of_some _ (Heap.get?_push_of_some _ e)
  have atE : ((hp.push (PySem.W.kdv_tup [])).push (PySem.HandSPX.excO C hp.objs.size)).get? (hp.objs.size + 1) = some (PySem.HandSPX.excO C hp.objs.size) := by heap_get
  have I2 : Inv X pins σ (upd H (hp.objs.size + 1) (exo (hp.objs.size + 1) C none)) ⟨(hp.push (PySem.W.kdv_tup [])).push (PySem.HandSPX.excO C hp.objs.size), g, dr, tk, os⟩ :=
    I.laid (t' := tk) (a := hp.objs.size + 1) (o := exo (hp.objs.size + 1) C none) (h' := (hp.push (PySem.W.kdv_tup [])).push (PySem.HandSPX.excO C hp.objs.size)) keep2 hsz (exo_ok atE)
  have r2 : Vals [V.ref (hp.objs.size + 1)] [Value.ref (hp.objs.size + 1)] := .cons rfl .nil
  have len1 : ([Value.ref (hp.objs.size + 1)] : List Value).length = ps.length := by
    have e := r2.length
    rw [F1.len _ _ _ _ want] at e
    exact e.symm
  refine wpAny_call (PySem.HandSPX.call_own (rest := []) F.excBase_ValueError (fun Y => PySem.HandSPX.refsVE_contains Y bm hbm) (I.kIn _ _ hC) (PySem.W.looks_findIn I.kIn iC)
    (fun self => PySem.W.bind_fn I.kIn self tI) (Nat.zero_le _) (codeAny_mono (F1.run _ X.stack _ _ ⟨[Value.ref (hp.objs.size + 1)], []⟩ [Value.ref (hp.objs.size + 1)] _ _ (fun _ _ _ => False)
      (hr.make C [] []) (I2.env0.make C [] []) (hb _ [Value.ref (hp.objs.size + 1)] I2.kIn len1) r2 want) fun r s2 back => ?_))
  cases r with
  | error er => exact hx pins σ _ _ er s2 I2 back
  | ok fl =>
    cases fl with
    | ret y =>
      obtain ⟨v, H2, os2, bare2, un2, hok2, rv, ev, ea, wish⟩ := back
      subst ev
      obtain ⟨h2, g2, d2, t2, o2⟩ := s2
      obtain ⟨t0, G, J, kG, gone, there⟩ := let_go (dB := d2) (tB := t2) I hsz keep2 un2 hok2 os2 bare2 ea
      exact ⟨rv, ⟨_, _, _, ⟨G, g2, d2, t2, o2⟩, _, .ref C, none, rfl, J, kG, gone, there, ⟨rfl, rfl⟩, rfl, rfl, del_same, rfl, bare2, raises_own T.exC T.tyC, wish⟩⟩
    | next => exact back.elim
    | brk => exact back.elim
    | cont => exact back.elim
end

section
variable {X : Cx} {CX : CXT} {k : Nat} {f C : Addr} {fd : FuncData} {ps : List Str} {sp : Sp} {E : L2.St → XK} {m : Str} {apos pos : Pos} {e o : Expr} {es : List Expr} {ta : TE} {t : TA}
/-- o.m(e, ..), where what is raised is wished for at the caller's slots -/
def tMethW (C : Addr) (m : Str) (sp : Sp) (E : L2.St → XK) (ta : TE) (t : TA) : TE := fun σ H Q => ta σ H fun x H1 =>
  ∃ a dx fs, x = .ref a ∧ H1 a = some (.ins C dx fs) ∧ fs.lookup m = none ∧ t σ H1 fun vs H2 => sp (x :: vs) H2 Q (E σ)
theorem pe_methW {pl : Sem Bool} (he : PE X o ta) (c : Cls X.K C) (hm : Meth X.K C m f) (F : FnOk X.prog X.w X.K X.mg X.base CX k f fd ps sp) (hr : Room k X.A) (hb : Binds X.K fd ps [])
    (hx : ∀ σ, PassesAt CX X σ (E σ)) (ha : PA X (e :: es) t)
    (hst : starEach (e :: es) X.env = (false, eval e X.env) :: starEach es X.env := by rfl) (hpl : (backTo pos (starEach es X.env)).any (·.1) = false := by rfl)
    (ht : eval (.Call (.Attribute o m apos) (e :: es) [] pos) X.env = (do
      let ov ← eval o X.env
      standAt apos.atName
      let fr ← holding [ov] (getMethod ov m pl)
      callWith pos fr.1 fr.2 (backTo pos (starEach (e :: es) X.env)) (backToKw pos (keywordEach [] X.env))) := by rfl) :
    PE X (.Call (.Attribute o m apos) (e :: es) [] pos) (tMethW C m sp E ta t) := by
  refine ⟨fun pins s σ H Q I h => ?_⟩
  refine PySem.W.methodCall_KW (pl := pl) (thn (he.run pins s σ H _ I h) fun u s1 ⟨x, H1, I1, rx, a, dx, fs, ex, ea, l, q⟩ => ?_) ht
  subst ex
  obtain rfl : u = Value.ref a := rx
  refine getmeth_ok I1 ea c hm l ?_
  refine PySem.W.callWith_K (first := [.ref a]) (h₀ := X.base) I.ok.mod.kin hm.kp (thn (ha.run pos pins s1 σ H1 _ I1 q) fun us s2 ⟨vs, H2, I2, r, q2⟩ => ⟨I2.kIn, ?_⟩) hst hpl
  exact run_fnS (us := .ref a :: us) (vs := .ref a :: vs) F hr hb (hx σ) I2 (.cons rfl r) q2
end

theorem hu65 {k : Nat} {A : Around} (hr : Room k A) : A.units + 65 < cLine := by
  have := hr.un
  omega
/-- a module's constant -/
theorem pe_con {X : Cx} {x : Str} {pos : Pos} {v : V} (hg : Gl X x) (h : ∃ u, X.mg x = some u ∧ RelV v u) (hdb : (x == ("__debug__" : Str)) = false := by decide) : PE X (.Name x pos) (tC v) := by
  obtain ⟨u, h1, h2⟩ := h
  exact pe_glob hg h1 h2 hdb
/-- a statement and what follows it, joined by a word of one's own: what follows is read once, whatever way led there -/
def tMid (t u : TS) : TS := fun D σ H => ∃ M : L2.St → Hp → Prop, t { D with nx := M } σ H ∧ ∀ σ2 H2, M σ2 H2 → u D σ2 H2
theorem pss_mid {X : Cx} {st : Stmt} {more : List Stmt} {t u : TS} (hs : PS X st t) (hm : PSs X more u) : PSs X (st :: more) (tMid t u) := ⟨fun pins s σ H D I ⟨M, hM, hu⟩ =>
  wpAny_execs_cons (thn (hs.run pins s σ H { D with nx := M } I hM) fun f s2 back => by
    cases f with
    | next =>
      obtain ⟨σ2, H2, I2, y⟩ := back
      exact hm.run pins s2 σ2 H2 D I2 (hu σ2 H2 y)
    | ret v => exact back
    | brk => exact back
    | cont => exact back)⟩
/-- a block that is walked under a condition which its reading brings -/
theorem pss_under {X : Cx} {sts : List Stmt} {P : Prop} {t : TS} (h : P → PSs X sts t) : PSs X sts (fun D σ H => P ∧ t D σ H) :=
  ⟨fun pins s σ H D I q => (h q.1).run pins s σ H D I q.2⟩
section
variable {X : Cx} {CX : CXT} {k : Nat} {f C : Addr} {fd : FuncData} {ps : List Str} {sp : Sp} {E : L2.St → XK} {x : Str} {p pos : Pos} {e : Expr} {es : List Expr} {t : TA}
/-- C(e, ..), where what is raised is wished for at the caller's slots -/
def tMakeW (C : Addr) (sp : Sp) (E : L2.St → XK) (t : TA) : TE := fun σ H Q => t σ H fun vs H1 => ∀ x dx, H1 x = none → H1 dx = none → dx ≠ x → sp (.ref x :: vs) (upd (upd H1 dx (.own x)) x (.ins C dx [])) (fun v H2 => v = .non ∧ Q (.ref x) H2) (E σ)
theorem run_makeW {pins : List (Addr × Obj)} {σ : L2.St} {H : Hp} {s : Shared} {Q : VK} {us : List Value} {vs : List V} (M : Mk X.K C f) (F : FnOk X.prog X.w X.K X.mg X.base CX k f fd ps sp) (hr : Room (k + 1) X.A) (hb : Binds X.K fd ps [])
    (hx : PassesAt CX X σ (E σ)) (I : Inv X pins σ H s) (r : Vals vs us)
    (h : ∀ x dx, H x = none → H dx = none → dx ≠ x → sp (.ref x :: vs) (upd (upd H dx (.own x)) x (.ins C dx [])) (fun v H2 => v = .non ∧ Q (.ref x) H2) (E σ)) :
    wpAny (model X.prog X.w) X.A (call (.ref C) us) (EP X pins σ Q) X.xe s := by
  have hq := h (s.heap.objs.size + 1) s.heap.objs.size (I.hok.fresh (Nat.le_succ _)) (I.hok.fresh (Nat.le_refl _)) (Nat.ne_of_lt (Nat.lt_succ_self _))
  have I2 := Inv.made (C := C) I
  have r2 : Vals (V.ref (s.heap.objs.size + 1) :: vs) (Value.ref (s.heap.objs.size + 1) :: us) := .cons rfl r
  have hl : (Value.ref (s.heap.objs.size + 1) :: us).length = ps.length := by
    have e := r2.length
    rw [F.len _ _ _ _ hq] at e
    exact e.symm
  have b := hb ((⟨_, s.gens, s.drawn, s.toks, s.os⟩ : Shared)) (Value.ref (s.heap.objs.size + 1) :: us) I2.kIn (by rw [List.append_nil]; exact hl)
  rw [List.append_nil] at b
  refine wpAny_call (make_map (f := f) I.kIn M.makes M.init (beq_iff_eq.mp M.fn) (codeAny_mono (F.run _ X.stack _ _ ⟨Value.ref (s.heap.objs.size + 1) :: us, []⟩ (Value.ref (s.heap.objs.size + 1) :: us) _ _ (E σ) (hr.make C us [])
    (I2.env0.make C us []) b r2 hq) fun r s' hq' => ?_))
  cases r with
  | error e => exact hx pins _ _ e s' I2 hq'
  | ok fl =>
    cases fl with
    | ret u =>
      obtain ⟨v, H', I3, rv, ev, q3⟩ := I2.after hq'
      subst ev
      exact ⟨rv, ⟨V.ref (s.heap.objs.size + 1), H', I3, rfl, q3⟩⟩
    | next => exact False.elim hq'
    | brk => exact False.elim hq'
    | cont => exact False.elim hq'
theorem pe_makeW (M : Mk X.K C f) (F : FnOk X.prog X.w X.K X.mg X.base CX k f fd ps sp) (hr : Room (k + 1) X.A) (hg : Gl X x) (hm : X.mg x = some (.ref C)) (hb : Binds X.K fd ps []) (hx : ∀ σ, PassesAt CX X σ (E σ))
    (ha : PA X (e :: es) t) (hdb : (x == ("__debug__" : Str)) = false := by decide) (he : starEach (e :: es) X.env = (false, eval e X.env) :: starEach es X.env := by rfl) (hpl : (backTo pos (starEach es X.env)).any (·.1) = false := by rfl) :
    PE X (.Call (.Name x p) (e :: es) [] pos) (tMakeW C sp E t) := by
  refine ⟨fun pins s σ H Q I h => ?_⟩
  refine wpAny_Call_Name_kw (ld_glob I hg hm ?_ hdb)
  refine PySem.W.callWith_K (h₀ := X.base) I.ok.mod.kin M.kp (thn (ha.run pos pins s σ H _ I h) fun us s1 ⟨vs, H1, I1, r, q⟩ => ⟨I1.kIn, ?_⟩) he hpl
  exact run_makeW M F hr hb (hx σ) I1 r q
end
end Ek
/-! Buffers' entries: tuples (space, page, frame, writable) in the heap; pairs; x not in a list or tuple of data; table words. -/
namespace Nk
open PySem PySem.Spec PyProof.Rows L2 Dk

/-- all but the object at b is as it was -/
def SameBut (b : Addr) (H H' : Hp) : Prop := ∀ x o, x ≠ b → H x = some o → H' x = some o
theorem Same.but {b : Addr} {H H' : Hp} (e : Same H H') : SameBut b H H' := fun x o _ h => e x o h
theorem SameBut.trans {b : Addr} {H H1 H2 : Hp} (e : SameBut b H H1) (f : SameBut b H1 H2) : SameBut b H H2 := fun x o n h => f x o n (e x o n h)
theorem SameBut.put {b p : Addr} {H H' : Hp} {o : HO} (e : SameBut b H H') (h : H p = none) : SameBut b H (upd H' p o) := fun x u n k => (upd_ne (ne_of_none k h)).trans (e x u n k)
theorem SameBut.own {b : Addr} {H H' : Hp} {o : HO} (e : SameBut b H H') : SameBut b H (upd H' b o) := fun x u n k => (upd_ne n).trans (e x u n k)
/-- tuples stay where the object at b is none -/
theorem SameBut.kt {b C dx : Addr} {fs : List (Str × V)} {H H' : Hp} (e : SameBut b H H') (h : H b = some (.ins C dx fs)) : KT H H' := fun x o k t => e x o (fun z => by
  rw [z, h] at k
  cases k
  exact t) k

structure En where
  (s p f : Int)
  w : Bool
def eV (e : En) : List V := [.int e.s, .int e.p, .int e.f, .bl e.w]
def eD (e : En) : PyData := .tuple [.int e.s, .int e.p, .int e.f, .bool e.w]
def aV (z : Addr × En) : V := .ref z.1
def EnAll (H : Hp) (zs : List (Addr × En)) : Prop := ∀ z ∈ zs, H z.1 = some (.tup (eV z.2))
theorem EnAll.kt {H H' : Hp} {zs : List (Addr × En)} (h : EnAll H zs) (e : KT H H') : EnAll H' zs := fun z hz => e _ _ (h z hz) True.intro
theorem EnAll.nil (H : Hp) : EnAll H [] := fun _ h => absurd h List.not_mem_nil
theorem EnAll.app {H : Hp} {zs ys : List (Addr × En)} (h : EnAll H zs) (k : EnAll H ys) : EnAll H (zs ++ ys) := fun z hz => (List.mem_append.mp hz).elim (h z) (k z)
theorem EnAll.one {H : Hp} {t : Addr} {e : En} (h : H t = some (.tup (eV e))) : EnAll H [(t, e)] := fun z hz => by
  rw [List.mem_singleton.mp hz]
  exact h
theorem EnAll.filter {H : Hp} {zs : List (Addr × En)} (h : EnAll H zs) (c : Addr × En → Bool) : EnAll H (zs.filter c) := fun z hz => h z (List.mem_filter.mp hz).1
theorem EnAll.drop {H : Hp} {zs : List (Addr × En)} (h : EnAll H zs) (n : Nat) : EnAll H (zs.drop n) := fun z hz => h z (List.mem_of_mem_drop hz)
theorem EnAll.dp {K : PySem.W.Frag} {H : Hp} : ∀ {zs : List (Addr × En)}, EnAll H zs → DpAll K H (zs.map aV) ((zs.map Prod.snd).map eD)
  | [], _ => .nil
  | z :: zs, h => .cons (.tup (SqT.of (h z (List.mem_cons_self ..))) (.cons (.int _) (.cons (.int _) (.cons (.int _) (.cons (.bl _) .nil))))) (EnAll.dp fun y hy => h y (List.mem_cons_of_mem _ hy))
theorem shE (e : En) : Sh 1 (eD e) := sh_tup fun d hd => by
  simp only [List.mem_cons, List.not_mem_nil, or_false] at hd
  rcases hd with rfl | rfl | rfl | rfl
  · exact sh_int _
  · exact sh_int _
  · exact sh_int _
  · exact sh_bool _
theorem shEs (es : List En) : Sh 2 (.list (es.map eD)) := sh_lst fun d hd => by
  obtain ⟨e, _, rfl⟩ := List.mem_map.mp hd
  exact shE e
theorem map_get {α β : Type} {f : α → β} {l : List α} {i : Nat} {y : β} (h : (l.map f)[i]? = some y) : ∃ x, l[i]? = some x ∧ y = f x := by
  rw [List.getElem?_map] at h
  cases e : l[i]? with
  | none =>
    rw [e] at h
    cases h
  | some x =>
    rw [e] at h
    exact ⟨x, rfl, (Option.some.inj h).symm⟩
theorem mem_of_get {α : Type} {l : List α} {i : Nat} {x : α} (h : l[i]? = some x) : x ∈ l := by
  obtain ⟨hi, e⟩ := List.getElem?_eq_some_iff.mp h
  exact e ▸ List.getElem_mem hi

/-! ### pairs -/
def pD (q : Int × Int) : PyData := .tuple [.int q.1, .int q.2]
theorem eqv_pD (q r : Int × Int) : PyData.eqv (pD q) (pD r) = decide (q = r) := by
  obtain ⟨a, b⟩ := q
  obtain ⟨c, d⟩ := r
  simp only [pD, PyData.eqv, PyData.eqvAll, Bool.and_true, Prod.mk.injEq]
  by_cases h1 : a = c
  · by_cases h2 : b = d
    · simp [h1, h2]
    · simp [h1, h2]
  · simp [h1]
theorem shP (q : Int × Int) : Sh 1 (pD q) := sh_tup fun d hd => by
  simp only [List.mem_cons, List.not_mem_nil, or_false] at hd
  rcases hd with rfl | rfl
  · exact sh_int _
  · exact sh_int _
theorem shPs (ps : List (Int × Int)) : Sh 2 (.list (ps.map pD)) := sh_lst fun d hd => by
  obtain ⟨e, _, rfl⟩ := List.mem_map.mp hd
  exact shP e
def keep (ps : List (Int × Int)) (e : En) : Bool := !ps.any fun q => decide (q = (e.s, e.p))
theorem any_pD (ps : List (Int × Int)) (e : En) : (!(ps.map pD).any fun d => PyData.eqv d (pD (e.s, e.p))) = keep ps e := by
  unfold keep
  rw [List.any_map]
  congr 2
  funext q
  exact eqv_pD q (e.s, e.p)

theorem filter_snd (c : En → Bool) : ∀ zs : List (Addr × En), (zs.filter fun z => c z.2).map Prod.snd = (zs.map Prod.snd).filter c
  | [] => rfl
  | z :: zs => by
    have ih := filter_snd c zs
    rw [List.filter_cons, List.map_cons, List.filter_cons]
    by_cases h : c z.2 = true
    · rw [if_pos h, if_pos h, List.map_cons, ih]
    · rw [if_neg h, if_neg h, ih]

/-! ### x not in y, y a list or a tuple of data -/
def rNiD (K : PySem.W.Frag) : R2 := fun x y H Q => ∃ d ds, Dp K H x d ∧ (Dp K H y (.list ds) ∨ Dp K H y (.tuple ds)) ∧ SeqAt.shaped d = true ∧ SeqAt.shaped (.list ds) = true ∧ Q (.bl (!ds.any fun z => PyData.eqv z d)) H
theorem op_niD {X : Cx} (hu : X.A.units + 65 < cLine) : OpR X (compareOp .NotIn) (rNiD X.K) := by
  intro pins s σ H x y v u Q I rx ry h
  obtain ⟨d, ds, hd, he, sd, se, q⟩ := h
  obtain ⟨as, r1⟩ := Dp.reads I d x v hd rx
  have c1 := SeqAt.canLay_of_shaped se
  have c2 := SeqAt.canLay_of_shaped sd
  have d2 := SeqAt.depth_of_shaped sd
  have room : X.A.units + 1 + min (PyData.depthAll ds) d.depth < cLine := by
    have := Nat.min_le_right (PyData.depthAll ds) d.depth
    omega
  rcases he with he | he
  · obtain ⟨bs, r2⟩ := Dp.reads I (.list ds) y u he ry
    exact SeqAt.notIn_list_reads r2 r1 (by simpa only [PyData.canLay0] using c1) c2 room ⟨.bl _, H, I, rfl, q⟩
  · obtain ⟨bs, r2⟩ := Dp.reads I (.tuple ds) y u he ry
    exact SeqAt.notIn_tuple_reads r2 r1 (by simpa only [PyData.canLay0] using c1) c2 room ⟨.bl _, H, I, rfl, q⟩

/-! ### table words of the law, the buffer's mirror -/
inductive Wd where
  | frame (f : Int) (w : Bool)
  | non
  | swap (n : Int)
  | file
  | held
def Wd.leads : Wd → Bool
  | .frame _ _ => true
  | _ => false
def wD : Wd → PyData
  | .frame f w => .tuple [.str "frame", .int f, .bool w]
  | .non => .none
  | .swap n => .tuple [.str "swap", .int n]
  | .file => .tuple [.str "file", .int 1, .int 2]
  | .held => .tuple [.str "held"]
def last2 (es : List En) : List En := if 2 < es.length then es.drop 1 else es
def putM (s p : Int) (x : Wd) (es : List En) : List En := match x with
  | .frame f w => last2 (es.filter (keep [(s, p)]) ++ [⟨s, p, f, w⟩])
  | _ => es.filter (keep [(s, p)])
theorem cut_last2 (xs : List V) : cutV xs (some (-2)) none = xs.drop (xs.length - 2) := by
  unfold cutV
  have e1 : HT.sIx xs.length 0 (some (-2)) = xs.length - 2 := by
    show (if (-2 : Int) < 0 then ((-2 : Int) + (xs.length : Int)).toNat else min (-2 : Int).toNat xs.length) = _
    rw [if_pos (by decide)]
    omega
  rw [e1, HT.sIx_none]
  refine List.take_of_length_le ?_
  rw [List.length_drop]
  omega
theorem last2_drop (es : List En) (e : En) {n : Nat} (hn : n = es.length + 1 ∧ es.length ≤ 2) : (es ++ [e]).drop (n - 2) = last2 (es ++ [e]) := by
  unfold last2
  rw [List.length_append, List.length_singleton]
  by_cases h : 2 < es.length + 1
  · rw [if_pos h, show n - 2 = 1 by omega]
  · rw [if_neg h, show n - 2 = 0 by omega]
    rfl
def midM (s p : Int) (x : Wd) (es : List En) : List En := match x with
  | .frame f w => es.filter (keep [(s, p)]) ++ [⟨s, p, f, w⟩]
  | _ => es.filter (keep [(s, p)])
theorem last2_mid (s p : Int) (x : Wd) {es : List En} (h : es.length ≤ 2) : last2 (midM s p x es) = putM s p x es := by
  have l : (es.filter (keep [(s, p)])).length ≤ 2 := Nat.le_trans (List.length_filter_le _ _) h
  cases x with
  | frame f w => rfl
  | _ => exact if_neg (by show ¬ 2 < (es.filter (keep [(s, p)])).length; omega)
theorem putM_len (s p : Int) (x : Wd) {es : List En} (h : es.length ≤ 2) : (putM s p x es).length ≤ 2 := by
  have l : (es.filter (keep [(s, p)])).length ≤ 2 := Nat.le_trans (List.length_filter_le _ _) h
  cases x with
  | frame f w =>
    show (last2 _).length ≤ 2
    unfold last2
    split
    · rw [List.length_drop, List.length_append, List.length_singleton]
      omega
    · omega
  | _ => exact l
theorem midM_len (s p : Int) (x : Wd) {es : List En} (h : es.length ≤ 2) : (midM s p x es).length ≤ 3 := by
  have l : (es.filter (keep [(s, p)])).length ≤ 2 := Nat.le_trans (List.length_filter_le _ _) h
  cases x with
  | frame f w =>
    show (_ ++ [_]).length ≤ 3
    rw [List.length_append, List.length_singleton]
    omega
  | _ => exact Nat.le_trans l (by decide)
theorem keep_one (s p : Int) (e : En) : keep [(s, p)] e = !decide ((e.s, e.p) = (s, p)) := by
  unfold keep
  simp only [List.any_cons, List.any_nil, Bool.or_false]
  by_cases h : (s, p) = (e.s, e.p)
  · rw [decide_eq_true h, decide_eq_true h.symm]
  · rw [decide_eq_false h, decide_eq_false (fun z => h z.symm)]
def fits (s p : Int) (wr : Bool) (e : En) : Bool := decide ((e.s, e.p) = (s, p)) && (e.w || !wr)
def frameM (s p : Int) (wr : Bool) (es : List En) : Option Int := (es.find? (fits s p wr)).map (·.f)
def optV : Option Int → V
  | none => .non
  | some i => .int i
theorem find_at {es : List En} {c : En → Bool} : ∀ {i : Nat} {e : En}, es[i]? = some e → (∀ y ∈ es.take i, c y = false) → c e = true → es.find? c = some e := by
  induction es with
  | nil => intro i e h _ _; simp at h
  | cons x es ih =>
    intro i e h hn hc
    cases i with
    | zero =>
      simp at h
      subst h
      simp [hc]
    | succ i =>
      have hx : c x = false := hn x (by simp)
      rw [List.find?_cons, hx]
      exact ih (i := i) (by simpa using h) (fun y hy => hn y (by simp [hy])) hc
theorem find_no {es : List En} {c : En → Bool} (h : ∀ y ∈ es, c y = false) : es.find? c = none := List.find?_eq_none.mpr fun y hy => by simp [h y hy]
end Nk
/-! Tests of data (whole numbers, tuples, words), the sizes' fields, promises that several laws share. -/
namespace Wk
open PySem PySem.Spec PyProof.Rows L2 Dk Ek Nk
/-! ### tests of data -/
def wholeD : PyData → Bool
  | .int _ => true
  | _ => false
def belowD (d : PyData) (n : Int) : Bool := match d with
  | .int i => decide (0 ≤ i) && decide (i < n)
  | _ => false
def tupD (d : PyData) (n : Int) : Bool := match d with
  | .tuple ds => decide ((ds.length : Int) = n)
  | _ => false
theorem tup2 {d : PyData} (h : tupD d 2 = true) : ∃ x y, d = .tuple [x, y] := by
  cases d with
  | tuple ds =>
    match ds, h with
    | [x, y], _ => exact ⟨x, y, rfl⟩
    | [], h => simp [tupD] at h
    | [x], h => simp [tupD] at h
    | x :: y :: z :: r, h =>
      simp only [tupD, List.length_cons, decide_eq_true_eq] at h
      omega
  | _ => simp [tupD] at h
theorem tup3 {d : PyData} (h : tupD d 3 = true) : ∃ x y z, d = .tuple [x, y, z] := by
  cases d with
  | tuple ds =>
    match ds, h with
    | [x, y, z], _ => exact ⟨x, y, z, rfl⟩
    | [], h => simp [tupD] at h
    | [x], h => simp [tupD] at h
    | [x, y], h => simp [tupD] at h
    | x :: y :: z :: u :: r, h =>
      simp only [tupD, List.length_cons, decide_eq_true_eq] at h
      omega
  | _ => simp [tupD] at h
/-- the value is the text z -/
def isS (d : PyData) (z : Str) : Bool := match d with
  | .str y => y == z
  | _ => false
theorem eqv_str (d : PyData) (z : Str) : PyData.eqv d (.str z) = isS d z := by
  cases d <;> simp [PyData.eqv, isS]
theorem isS_iff {d : PyData} {z : Str} : isS d z = true ↔ d = .str z := by
  cases d <;> simp [isS]
theorem Sh.elem {n : Nat} {ds : List PyData} {d : PyData} (h : Sh n (.tuple ds)) (m : d ∈ ds) : Sh n d := by
  have l := h.lay
  have e := h.deep
  simp only [PyData.canLay0] at l
  simp only [PyData.depth] at e
  have key : ∀ es : List PyData, d ∈ es → PyData.canLayAll0 es = true → d.canLay0 = true ∧ d.depth ≤ PyData.depthAll es := by
    intro es
    induction es with
    | nil => intro m _; exact absurd m List.not_mem_nil
    | cons x es ih =>
      intro m k
      simp only [PyData.canLayAll0, Bool.and_eq_true] at k
      simp only [PyData.depthAll]
      rcases List.mem_cons.mp m with rfl | m
      · exact ⟨k.1, Nat.le_max_left _ _⟩
      · obtain ⟨h1, h2⟩ := ih m k.2
        exact ⟨h1, Nat.le_trans h2 (Nat.le_max_right _ _)⟩
  obtain ⟨h1, h2⟩ := key ds m l
  exact ⟨h1, by omega⟩
theorem sh_str (s : Str) (h : PyData.canLay0 (.str s) = true) : Sh 0 (.str s) := ⟨h, by simp only [PyData.depth]; omega⟩
/-! ### promises of the small tests -/
def spNop (K : PySem.W.Frag) : Sp := fun vs H Q _ => ∃ (a C : Addr), vs = [.ref a] ∧ OexC K C ∧ H a = some (exo a C none) ∧ Q .non H
def spWhole (K : PySem.W.Frag) : Sp := fun vs H Q _ => ∃ (v : V) (d : PyData), vs = [v] ∧ Dp K H v d ∧ Q (.bl (wholeD d)) H
def spBelow (K : PySem.W.Frag) : Sp := fun vs H Q _ => ∃ (v : V) (d : PyData) (n : Int), vs = [v, .int n] ∧ Dp K H v d ∧ Q (.bl (belowD d n)) H
def spTupOf (K : PySem.W.Frag) : Sp := fun vs H Q _ => ∃ (v : V) (d : PyData) (n : Int), vs = [v, .int n] ∧ Dp K H v d ∧ Q (.bl (tupD d n)) H
def spBetween : Sp := fun vs H Q _ => ∃ v l m : Int, vs = [.int v, .int l, .int m] ∧ Q (.bl (decide (l ≤ v) && decide (v ≤ m))) H
/-! ### words that lead to frames -/
def leadsD : PyData → Bool
  | .tuple [x, _, _] => isS x "frame"
  | _ => false
theorem leads_no {d : PyData} (h : tupD d 3 = false) : leadsD d = false := by
  unfold leadsD
  split
  · simp [tupD] at h
  · rfl
theorem leads_yes {d : PyData} (h : leadsD d = true) : ∃ f w, d = .tuple [.str "frame", f, w] := by
  unfold leadsD at h
  split at h
  · rename_i x f w
    rw [isS_iff] at h
    exact ⟨f, w, by rw [h]⟩
  · cases h
def spLeads (K : PySem.W.Frag) : Sp := fun vs H Q _ => ∃ (y : V) (d : PyData), vs = [y] ∧ Dp K H y d ∧ Sh 60 d ∧ Q (.bl (leadsD d)) H
/-! ### the sizes -/
def szF (p f b : Int) : List (Str × V) := [("processors", .int p), ("frames", .int f), ("blocks", .int b), ("_acknowledges", .int 1), ("_words", .int (1 + p)), ("_frame_cells", .int (1 + p + 4 * 8)),
  ("_swap_blocks", .int (1 + p + 4 * 8 + 2 * f)), ("_file_blocks", .int (1 + p + 4 * 8 + 2 * f + b))]
def okSz (p f b : Int) : Bool := decide (1 ≤ p) && decide (p ≤ 3) && (decide (2 ≤ f) && decide (f ≤ 12)) && (decide (0 ≤ b) && decide (b ≤ 12))
def spSizesInit (C N : Addr) : Sp := fun vs H Q E => ∃ (z dx : Addr) (p f b : Int), vs = [.ref z, .int p, .int f, .int b] ∧ H z = some (.ins C dx []) ∧
  (okSz p f b = true → ∀ H', SameBut z H H' → H' z = some (.ins C dx (szF p f b)) → Q .non H') ∧ (okSz p f b = false → ∀ H', Same H H' → E (.ref N) none H')
/-! ### table words -/
def isStr : PyData → Bool
  | .str _ => true
  | _ => false
theorem kit_str {K : PySem.W.Frag} (d : PyData) : PySem.W.kitOne K (.type (tyN d)) (.type "str") = some (isStr d) := by
  refine (kit_ty (kits_at (by decide +kernel : kits "str" = [some false, some false, some false, some true, some false, some false, some false]) d)).trans ?_
  cases d <;> rfl
def frB (F : Int) : List PyData → Bool
  | [x, y] => belowD x F && isBool y
  | _ => false
def swB (B : Int) : List PyData → Bool
  | [x] => belowD x B
  | _ => false
def flB : List PyData → Bool
  | [x, y] => belowD x 2 && belowD y 4
  | _ => false
def wordB (F B : Int) (x : PyData) (r : List PyData) : Bool :=
  if isS x "frame" = true then frB F r else if isS x "swap" = true then swB B r else if isS x "file" = true then flB r else isS x "held" && r.isEmpty
def wordM (F B : Int) : PyData → Bool
  | .none => true
  | .tuple (x :: r) => wordB F B x r
  | _ => false
theorem frB_no {F : Int} {r : List PyData} (h : r.length ≠ 2) : frB F r = false := by
  unfold frB
  split
  · exact absurd rfl h
  · rfl
theorem swB_no {F : Int} {r : List PyData} (h : r.length ≠ 1) : swB F r = false := by
  unfold swB
  split
  · exact absurd rfl h
  · rfl
theorem flB_no {r : List PyData} (h : r.length ≠ 2) : flB r = false := by
  unfold flB
  split
  · exact absurd rfl h
  · rfl
theorem len2 {r : List PyData} (h : r.length = 2) : ∃ x y, r = [x, y] := by
  match r, h with
  | [x, y], _ => exact ⟨x, y, rfl⟩
theorem len1 {r : List PyData} (h : r.length = 1) : ∃ x, r = [x] := by
  match r, h with
  | [x], _ => exact ⟨x, rfl⟩
theorem isS_ne {d : PyData} {y z : Str} (h : isS d y = true) (n : (y == z) = false) : isS d z = false := by
  rw [isS_iff] at h
  subst h
  exact n
/-- the words whose numbers exist -/
inductive W2 where
  | frame (f : Int) (w : Bool)
  | non
  | swap (n : Int)
  | file (f p : Int)
  | held
def w2D : W2 → PyData
  | .frame f w => .tuple [.str "frame", .int f, .bool w]
  | .non => .none
  | .swap n => .tuple [.str "swap", .int n]
  | .file f p => .tuple [.str "file", .int f, .int p]
  | .held => .tuple [.str "held"]
theorem below_int {d : PyData} {n : Int} (h : belowD d n = true) : ∃ i, d = .int i := by
  cases d with
  | int i => exact ⟨i, rfl⟩
  | _ => simp [belowD] at h
theorem bool_of {d : PyData} (h : isBool d = true) : ∃ b, d = .bool b := by
  cases d with
  | bool b => exact ⟨b, rfl⟩
  | _ => simp [isBool] at h
theorem w2_of {F B : Int} {d : PyData} (h : wordM F B d = true) : ∃ x, d = w2D x := by
  unfold wordM at h
  split at h
  · exact ⟨.non, rfl⟩
  · rename_i x r
    unfold wordB at h
    split at h
    · rename_i e
      rw [isS_iff] at e
      unfold frB at h
      split at h
      · rename_i u v
        rw [Bool.and_eq_true] at h
        obtain ⟨i, rfl⟩ := below_int h.1
        obtain ⟨b, rfl⟩ := bool_of h.2
        exact ⟨.frame i b, by rw [e]; rfl⟩
      · cases h
    · split at h
      · rename_i e
        rw [isS_iff] at e
        unfold swB at h
        split at h
        · obtain ⟨i, rfl⟩ := below_int h
          exact ⟨.swap i, by rw [e]; rfl⟩
        · cases h
      · split at h
        · rename_i e
          rw [isS_iff] at e
          unfold flB at h
          split at h
          · rw [Bool.and_eq_true] at h
            obtain ⟨i, rfl⟩ := below_int h.1
            obtain ⟨j, rfl⟩ := below_int h.2
            exact ⟨.file i j, by rw [e]; rfl⟩
          · cases h
        · rw [Bool.and_eq_true, isS_iff] at h
          obtain ⟨e, e2⟩ := h
          exact ⟨.held, by rw [e, List.isEmpty_iff.mp e2]; rfl⟩
  · cases h
def W2.frame? : W2 → Option Int
  | .frame f _ => some f
  | _ => none
def W2.block? : W2 → Option Int
  | .swap n => some n
  | _ => none
def W2.wr : W2 → Bool
  | .frame _ w => w
  | _ => false
def W2.less : W2 → W2
  | .frame f _ => .frame f false
  | x => x
def W2.leads : W2 → Bool
  | .frame _ _ => true
  | _ => false
theorem leads_w2 (x : W2) : leadsD (w2D x) = x.leads := by
  cases x with
  | frame f w => rfl
  | file f p => exact (by decide : isS (.str "file") "frame" = false)
  | _ => rfl
theorem sh_c {n : Nat} {d : PyData} {ds : List PyData} (h : Sh n d) (k : ∀ x ∈ ds, Sh n x) : ∀ x ∈ d :: ds, Sh n x := fun x hx => (List.mem_cons.mp hx).elim (fun e => e ▸ h) (k x)
theorem sh_n {n : Nat} : ∀ x ∈ ([] : List PyData), Sh n x := fun _ h => absurd h List.not_mem_nil
theorem sh_w2 (x : W2) : Sh 1 (w2D x) := by
  have sF : Sh 0 (.str "frame") := sh_str _ (by decide +kernel)
  have sS : Sh 0 (.str "swap") := sh_str _ (by decide +kernel)
  have sL : Sh 0 (.str "file") := sh_str _ (by decide +kernel)
  have sH : Sh 0 (.str "held") := sh_str _ (by decide +kernel)
  cases x with
  | non => exact sh_none.up (by decide)
  | frame f w => exact sh_tup (sh_c sF (sh_c (sh_int _) (sh_c (sh_bool _) sh_n)))
  | swap n => exact sh_tup (sh_c sS (sh_c (sh_int _) sh_n))
  | file f p => exact sh_tup (sh_c sL (sh_c (sh_int _) (sh_c (sh_int _) sh_n)))
  | held => exact sh_tup (sh_c sH sh_n)
def spIsWord (K : PySem.W.Frag) (C : Addr) : Sp := fun vs H Q _ => ∃ (y : V) (d : PyData) (z dx : Addr) (p f b : Int), vs = [y, .ref z] ∧ Dp K H y d ∧ Sh 60 d ∧ H z = some (.ins C dx (szF p f b)) ∧ ∀ H', Same H H' → Q (.bl (wordM f b d)) H'
def spFrameOf (K : PySem.W.Frag) : Sp := fun vs H Q _ => ∃ (y : V) (x : W2), vs = [y] ∧ Dp K H y (w2D x) ∧ Q (optV x.frame?) H
def spBlockOf (K : PySem.W.Frag) : Sp := fun vs H Q _ => ∃ (y : V) (x : W2), vs = [y] ∧ Dp K H y (w2D x) ∧ Q (optV x.block?) H
def spIsWr (K : PySem.W.Frag) : Sp := fun vs H Q _ => ∃ (y : V) (x : W2), vs = [y] ∧ Dp K H y (w2D x) ∧ Q (.bl x.wr) H
def spReadOnly (K : PySem.W.Frag) : Sp := fun vs H Q _ => ∃ (y : V) (x : W2), vs = [y] ∧ Dp K H y (w2D x) ∧ ∀ y' H', Same H H' → Dp K H' y' (w2D x.less) → Q y' H'
end Wk
/-! Loops and comprehensions over enumerate(list), zip of two tuples. -/
namespace Lk
open PySem PySem.Spec PyProof.Rows L2 RZ
theorem for_enum {K : PySem.W.Frag} {a : Addr} {xs : List V} {g : TG} {tb : TS} {D : Ends} {σ : L2.St} {H : Hp} (Pv : Nat → L2.St → Hp → Prop) (h0 : Pv 0 σ H) (hq : ∀ i σ H, Pv i σ H → SqL K H a xs)
    (hs : ∀ (i : Nat) (x : V) (T : Addr) (σ : L2.St) (H : Hp), xs[i]? = some x → Pv i σ H → H T = none → g (.ref T) σ (upd H T (.tup [.int (i : Nat), x])) fun σ2 H2 => tb { D with nx := Pv (i + 1), ct := Pv (i + 1), bk := D.nx } σ2 H2) (hd : ∀ σ H, Pv xs.length σ H → D.nx σ H) :
    ∃ W : Nat → Nat → L2.St → Hp → Prop, (∃ m, W 0 m σ H) ∧ ∀ i m σ H, W i m σ H →
      ((Ite K a).stop i H ∧ D.nx σ H) ∨ ((Ite K a).go i H ∧ ∃ N : L2.St → Hp → Prop, (∀ σ' H', N σ' H' → ∃ m', m' < m ∧ W (i + 1) m' σ' H') ∧ ∀ v H', (Ite K a).yld i H v H' → g v σ H' fun σ2 H2 => tb { D with nx := N, ct := N, bk := D.nx } σ2 H2) := by
  refine ⟨fun i m σ H => m = xs.length - i ∧ i ≤ xs.length ∧ Pv i σ H, ⟨xs.length, rfl, Nat.zero_le _, h0⟩, ?_⟩
  rintro i m σ H ⟨rfl, hi, p⟩
  have qx := hq i σ H p
  by_cases hlt : i < xs.length
  · have hx : xs[i]? = some xs[i] := List.getElem?_eq_getElem hlt
    refine .inr ⟨⟨xs, _, qx, hx⟩, Pv (i + 1), fun σ' H' p' => ⟨xs.length - (i + 1), by omega, rfl, hlt, p'⟩, fun v H' y => ?_⟩
    obtain ⟨T, x', rfl, hT, rfl, f1⟩ := y
    exact hs i x' T σ H (f1 xs qx) p hT
  · have e : i = xs.length := by omega
    subst e
    exact .inl ⟨⟨xs, qx, Nat.le_refl _⟩, hd σ H p⟩
theorem lc_enum {K : PySem.W.Frag} {a : Addr} {xs : List V} {g : TG} {tt : TT} {te : TE} {vs : List Nat} {σ : L2.St} {H1 : Hp} {D : Addr} {Qd : Hp → Prop} (Pv : Nat → Hp → Prop) (h0 : Pv 0 (upd H1 D (.lst []))) (hl : ∀ i H, i ≤ xs.length → Pv i H → SqL K H a xs)
    (hs : ∀ (i : Nat) (x : V) (T : Addr) (H : Hp), xs[i]? = some x → Pv i H → H T = none → g (.ref T) (wipe σ vs) (upd H T (.tup [.int (i : Nat), x])) fun σ2 H2 => wipe σ2 vs = wipe σ vs ∧ tt σ2 H2 fun b H3 =>
      if b = true then te σ2 H3 fun y H4 => ∃ acc, H4 D = some (.lst acc) ∧ acc.length < sizeLine ∧ Pv (i + 1) (upd H4 D (.lst (acc ++ [y]))) else Pv (i + 1) H3) (hd : ∀ H, Pv xs.length H → Qd H) :
    ∃ W : Nat → Nat → Hp → Prop, (∃ m, W 0 m (upd H1 D (.lst []))) ∧ ∀ i m H, W i m H →
      ((Ite K a).stop i H ∧ Qd H) ∨ ((Ite K a).go i H ∧ ∃ Nx : Hp → Prop, (∀ H', Nx H' → ∃ m', m' < m ∧ W (i + 1) m' H') ∧ ∀ x H', (Ite K a).yld i H x H' → g x (wipe σ vs) H' fun σ2 H2 => wipe σ2 vs = wipe σ vs ∧ tt σ2 H2 fun b H3 =>
        if b = true then te σ2 H3 fun y H4 => ∃ acc, H4 D = some (.lst acc) ∧ acc.length < sizeLine ∧ Nx (upd H4 D (.lst (acc ++ [y]))) else Nx H3) := by
  refine ⟨fun i m H => m = xs.length - i ∧ i ≤ xs.length ∧ Pv i H, ⟨xs.length, by simp, Nat.zero_le _, h0⟩, ?_⟩
  rintro i m H ⟨rfl, hi, p⟩
  have q := hl i H hi p
  by_cases hlt : i < xs.length
  · refine .inr ⟨⟨xs, xs[i], q, by simp [hlt]⟩, Pv (i + 1), fun H' p' => ⟨xs.length - (i + 1), by omega, rfl, hlt, p'⟩, fun x H' y => ?_⟩
    obtain ⟨T, x', rfl, hT, rfl, f1⟩ := y
    exact hs i x' T _ (f1 xs q) p hT
  · have e : i = xs.length := by omega
    subst e
    exact .inl ⟨⟨xs, q, Nat.le_refl _⟩, hd H p⟩
theorem lc_zipT {K : PySem.W.Frag} {a b : Addr} {xs ys : List V} {g : TG} {tt : TT} {te : TE} {vs : List Nat} {σ : L2.St} {H1 : Hp} {D : Addr} {Qd : Hp → Prop} (he : xs.length = ys.length) (Pv : Nat → Hp → Prop) (h0 : Pv 0 (upd H1 D (.lst []))) (hl : ∀ i H, i ≤ xs.length → Pv i H → SqT K H a xs ∧ SqT K H b ys)
    (hs : ∀ (i : Nat) (x y : V) (T : Addr) (H : Hp), xs[i]? = some x → ys[i]? = some y → Pv i H → H T = none → g (.ref T) (wipe σ vs) (upd H T (.tup [x, y])) fun σ2 H2 => wipe σ2 vs = wipe σ vs ∧ tt σ2 H2 fun b H3 =>
      if b = true then te σ2 H3 fun y H4 => ∃ acc, H4 D = some (.lst acc) ∧ acc.length < sizeLine ∧ Pv (i + 1) (upd H4 D (.lst (acc ++ [y]))) else Pv (i + 1) H3) (hd : ∀ H, Pv xs.length H → Qd H) :
    ∃ W : Nat → Nat → Hp → Prop, (∃ m, W 0 m (upd H1 D (.lst []))) ∧ ∀ i m H, W i m H →
      ((ItzT K a b).stop i H ∧ Qd H) ∨ ((ItzT K a b).go i H ∧ ∃ Nx : Hp → Prop, (∀ H', Nx H' → ∃ m', m' < m ∧ W (i + 1) m' H') ∧ ∀ x H', (ItzT K a b).yld i H x H' → g x (wipe σ vs) H' fun σ2 H2 => wipe σ2 vs = wipe σ vs ∧ tt σ2 H2 fun b H3 =>
        if b = true then te σ2 H3 fun y H4 => ∃ acc, H4 D = some (.lst acc) ∧ acc.length < sizeLine ∧ Nx (upd H4 D (.lst (acc ++ [y]))) else Nx H3) := by
  refine ⟨fun i m H => m = xs.length - i ∧ i ≤ xs.length ∧ Pv i H, ⟨xs.length, by simp, Nat.zero_le _, h0⟩, ?_⟩
  rintro i m H ⟨rfl, hi, p⟩
  obtain ⟨qx, qy⟩ := hl i H hi p
  by_cases hlt : i < xs.length
  · have hlt2 : i < ys.length := by omega
    refine .inr ⟨⟨xs, ys, xs[i], ys[i], qx, qy, by simp [hlt], by simp [hlt2]⟩, Pv (i + 1), fun H' p' => ⟨xs.length - (i + 1), by omega, rfl, hlt, p'⟩, fun x H' y => ?_⟩
    obtain ⟨T, x', y', rfl, hT, rfl, f1, f2⟩ := y
    exact hs i x' y' T _ (f1 xs qx) (f2 ys qy) p hT
  · have e : i = xs.length := by omega
    subst e
    exact .inl ⟨⟨xs, ys, qx, qy, Or.inl (Nat.le_refl _)⟩, hd H p⟩
theorem at_nat {xs : List V} {n : Nat} {x : V} (h : xs[n]? = some x) : atI xs (n : Int) = some x := at_of (j := n) rfl h
theorem ixN_nat {len n : Nat} (h : n < len) : ixN len (n : Int) = some n := by
  unfold ixN
  simp [seqIndex?]
  omega
end Lk
/-! Owners of frames and blocks: lists of tuples within a list; the held flags; list.remove over data. -/
namespace Fk
open PySem PySem.Spec PyProof.Rows L2 Dk Ek Nk Wk

/-! ### list.remove over data -/
def rRemD (K : PySem.W.Frag) : V → List V → Hp → VK → Prop := fun x xs H Q => ∃ (l : Addr) (vs : List V) (y : V) (d : PyData) (ds : List PyData) (j : Nat) (z : PyData), x = .ref l ∧ xs = [y] ∧ H l = some (.lst vs) ∧ DpAll K H vs ds ∧ Dp K H y d ∧
  SeqAt.shaped (.list ds) = true ∧ SeqAt.shaped d = true ∧ ds[j]? = some z ∧ PyData.eqv z d = true ∧ (∀ (m : Nat) (z' : PyData), m < j → ds[m]? = some z' → PyData.eqv z' d = false) ∧ Q .non (upd H l (.lst (vs.eraseIdx j)))
theorem vals_erase : ∀ {xs : List V} {us : List Value} (j : Nat), Vals xs us → Vals (xs.eraseIdx j) (us.eraseIdx j)
  | _, _, _, .nil => .nil
  | _, _, 0, .cons _ r => r
  | _, _, j + 1, .cons a r => .cons a (vals_erase j r)
section
variable {X : Cx}
theorem mt_removeD (hu : X.A.units + 65 < cLine) : MtM X "list.remove" (rRemD X.K) := by
  intro pins s σ H x xs v us Q I rx rxs h
  obtain ⟨l, vs, y, d, ds, j, z, rfl, rfl, hl, ha, hy, sl, sd, hz, hzj, hno, q⟩ := h
  cases rx
  cases rxs with
  | cons ry rt =>
    rename_i uy ut
    cases rt
    obtain ⟨bs, r1⟩ := Dp.reads I d y uy hy ry
    have hxs : PyData.canLayAll0 ds = true := SeqAt.canLay_of_shaped sl
    have d2 := SeqAt.depth_of_shaped sd
    have hroom : X.A.units + 1 + min (PyData.depthAll ds) d.depth < cLine := by
      have := Nat.min_le_right (PyData.depthAll ds) d.depth
      omega
    obtain ⟨z9, its, n, rv, hlen, ho⟩ := I.lstM hl
    obtain ⟨as, h4⟩ := Dp.readsAll I ds _ its ha rv
    have hn : its.length = ds.length := SeqAt.ReadsAll.length ds its as h4
    have hmap : its.map (SeqAt.readOf s.heap) = ds := SeqAt.readsAll_map ds its as hxs h4
    have hsl := sizeLine_eq
    obtain ⟨hjd, _⟩ := List.getElem?_eq_some_iff.mp hz
    have hjl : j < its.length := by omega
    have hj : j < its.toArray.size := by simpa using hjl
    have at_ : ∀ (m : Nat) (hm : m < its.toArray.size) (z' : PyData), ds[m]? = some z' → SeqAt.readOf s.heap its.toArray[m] = z' := by
      intro m hm z' hz'
      have hml : m < its.length := by simpa using hm
      rw [← hmap, List.getElem?_map, List.getElem?_eq_getElem hml] at hz'
      have e1 : SeqAt.readOf s.heap its[m] = z' := Option.some.inj (show some (SeqAt.readOf s.heap its[m]) = some z' from hz')
      simpa using e1
    refine call_meets PySem.F.slot_list_remove ⟨_, ho, rfl⟩ PySem.F.entry_list_remove (PySem.F.args_list_remove_2 _ _)
      (SeqAt.list_removeAt l its.toArray n none #[] uy (fun u => PyData.eqv (SeqAt.readOf s.heap u) d) j hj ?_ ?_ (by rw [List.size_toArray]; omega)) ⟨ho, SeqAt.items_eqAt (vs := its.toArray) (show ReadsAll s.heap its.toArray.toList ds as from h4) r1 hxs (SeqAt.canLay_of_shaped sd) hroom, ?_⟩
    · show PyData.eqv (SeqAt.readOf s.heap its.toArray[j]) d = true
      rw [at_ j hj z hz]
      exact hzj
    · intro m hm hmj
      have hmd : m < ds.length := by omega
      have hz' : ds[m]? = some ds[m] := List.getElem?_eq_getElem hmd
      show PyData.eqv (SeqAt.readOf s.heap its.toArray[m]) d = false
      rw [at_ m hm _ hz']
      exact hno m _ hmj hz'
    · refine ⟨.non, _, I.lset (its' := its.eraseIdx j) (t' := s.toks) hl ho ?_ (vals_erase j rv) ?_, rfl, q⟩
      · show its.toArray.eraseIdxIfInBounds j = (its.eraseIdx j).toArray
        rw [List.eraseIdxIfInBounds_toArray]
      · have := List.length_eraseIdx_le vs j
        omega
end

/-! ### owners -/
inductive Ow where
  | pr (s p : Int)
  | fl (f p : Int)
  deriving DecidableEq
def oV : Ow → List V
  | .pr s p => [.int s, .int p]
  | .fl f p => [.str "file", .int f, .int p]
def oD : Ow → PyData
  | .pr s p => .tuple [.int s, .int p]
  | .fl f p => .tuple [.str "file", .int f, .int p]
theorem shO (o : Ow) : Sh 1 (oD o) := by
  have sL : Sh 0 (.str "file") := sh_str _ (by decide +kernel)
  cases o with
  | pr s p => exact sh_tup (sh_c (sh_int _) (sh_c (sh_int _) sh_n))
  | fl f p => exact sh_tup (sh_c sL (sh_c (sh_int _) (sh_c (sh_int _) sh_n)))
theorem eqv_oD (a b : Ow) : PyData.eqv (oD a) (oD b) = decide (a = b) := by
  rw [Bool.eq_iff_iff]
  cases a <;> cases b <;> simp [oD, PyData.eqv, PyData.eqvAll]
def wV (z : Addr × Ow) : V := .ref z.1
def OAll (H : Hp) (c : List (Addr × Ow)) : Prop := ∀ z ∈ c, H z.1 = some (.tup (oV z.2))
theorem o_dp {K : PySem.W.Frag} {H : Hp} {t : Addr} {o : Ow} (h : H t = some (.tup (oV o))) : Dp K H (.ref t) (oD o) := by
  cases o with
  | pr s p => exact .tup (SqT.of h) (.cons (.int _) (.cons (.int _) .nil))
  | fl f p => exact .tup (SqT.of h) (.cons (.str _) (.cons (.int _) (.cons (.int _) .nil)))
theorem OAll.dp {K : PySem.W.Frag} {H : Hp} : ∀ {c : List (Addr × Ow)}, OAll H c → DpAll K H (c.map wV) ((c.map Prod.snd).map oD)
  | [], _ => .nil
  | z :: c, h => .cons (o_dp (h z (List.mem_cons_self ..))) (OAll.dp fun y hy => h y (List.mem_cons_of_mem _ hy))
theorem OAll.kt {H H' : Hp} {c : List (Addr × Ow)} (h : OAll H c) (e : KT H H') : OAll H' c := fun z hz => e _ _ (h z hz) True.intro
theorem shOs (os : List Ow) : Sh 2 (.list (os.map oD)) := sh_lst fun d hd => by
  obtain ⟨e, _, rfl⟩ := List.mem_map.mp hd
  exact shO e
theorem any_oD (os : List Ow) (o : Ow) : ((os.map oD).any fun z => PyData.eqv z (oD o)) = decide (o ∈ os) := by
  rw [List.any_map]
  induction os with
  | nil => rfl
  | cons a os ih =>
    simp only [List.any_cons, List.mem_cons, Function.comp] at ih ⊢
    rw [ih, eqv_oD]
    by_cases h : o = a
    · simp [h]
    · have h2 : ¬ a = o := fun z => h z.symm
      simp [h, h2]
theorem any_intD (ns : List Int) (n : Int) : ((ns.map PyData.int).any fun z => PyData.eqv z (.int n)) = decide (n ∈ ns) := by
  rw [List.any_map]
  induction ns with
  | nil => rfl
  | cons a ns ih =>
    simp only [List.any_cons, List.mem_cons, Function.comp] at ih ⊢
    rw [ih]
    by_cases h : n = a
    · simp [h, PyData.eqv]
    · have : ¬ a = n := fun z => h z.symm
      simp [h, this, PyData.eqv]
theorem shInts (ns : List Int) : Sh 1 (.list (ns.map PyData.int)) := sh_lst fun d hd => by
  obtain ⟨e, _, rfl⟩ := List.mem_map.mp hd
  exact sh_int e
theorem ints_dp {K : PySem.W.Frag} {H : Hp} {t : Addr} {ns : List Int} (h : SqL K H t (ns.map V.int)) : Dp K H (.ref t) (.list (ns.map PyData.int)) := .lst h (dpAll_ints ns)
theorem eqv_nilD (ds : List PyData) : PyData.eqv (.list ds) (.list []) = ds.isEmpty := by
  cases ds <;> simp [PyData.eqv, PyData.eqvAll]
theorem shNil : Sh 1 (.list []) := sh_lst sh_n

/-! ### what a call may change -/
def Keep (F : List Addr) (H H' : Hp) : Prop := ∀ a o, a ∉ F → H a = some o → H' a = some o
theorem Keep.same {F : List Addr} {H H' : Hp} (e : Same H H') : Keep F H H' := fun a o _ h => e a o h
theorem Keep.trans {F : List Addr} {H H1 H2 : Hp} (e : Keep F H H1) (f : Keep F H1 H2) : Keep F H H2 := fun a o n h => f a o n (e a o n h)
theorem Keep.put {F : List Addr} {H : Hp} {a : Addr} {o : HO} (h : a ∈ F) : Keep F H (upd H a o) := fun x u n k => (upd_ne (by rintro rfl; exact n h)).trans k
theorem Keep.up {F G : List Addr} {H H' : Hp} (e : Keep F H H') (s : ∀ a ∈ F, a ∈ G) : Keep G H H' := fun a o n h => e a o (fun z => n (s a z)) h

theorem nodup_at {α : Type} : ∀ {l : List α}, l.Nodup → ∀ {i j : Nat} (hi : i < l.length) (hj : j < l.length), l[i] = l[j] → i = j
  | [], _, i, j, hi, _, _ => absurd hi (Nat.not_lt_zero _)
  | x :: l, h, 0, 0, _, _, _ => rfl
  | x :: l, h, 0, j + 1, _, hj, e => by
    have := (List.nodup_cons.mp h).1
    simp only [List.getElem_cons_zero, List.getElem_cons_succ] at e
    exact absurd (e ▸ List.getElem_mem _) this
  | x :: l, h, i + 1, 0, hi, _, e => by
    have := (List.nodup_cons.mp h).1
    simp only [List.getElem_cons_zero, List.getElem_cons_succ] at e
    exact absurd (e ▸ List.getElem_mem _) this
  | x :: l, h, i + 1, j + 1, hi, hj, e => congrArg (· + 1) (nodup_at (List.nodup_cons.mp h).2 (Nat.lt_of_succ_lt_succ hi) (Nat.lt_of_succ_lt_succ hj) (by simpa only [List.getElem_cons_succ] using e))
/-! ### the owners of frames or blocks -/
/-- rows of owners: lists at the addresses as, what they hold is cs -/
structure Rows (H : Hp) (as : List Addr) (cs : List (List (Addr × Ow))) : Prop where
  len : as.length = cs.length
  row : ∀ (j : Nat) (p : Addr) (c : List (Addr × Ow)), as[j]? = some p → cs[j]? = some c → H p = some (.lst (c.map wV))
  tup : ∀ c ∈ cs, OAll H c
theorem Rows.same {H H' : Hp} {as : List Addr} {cs : List (List (Addr × Ow))} (h : Rows H as cs) (e : Same H H') : Rows H' as cs :=
  ⟨h.len, fun j p c h1 h2 => e _ _ (h.row j p c h1 h2), fun c hc z hz => e _ _ (h.tup c hc z hz)⟩
theorem Rows.keep {H H' : Hp} {as F : List Addr} {cs : List (List (Addr × Ow))} (h : Rows H as cs) (e : Keep F H H') (n : ∀ p ∈ as, p ∉ F) (k : KT H H') : Rows H' as cs :=
  ⟨h.len, fun j p c h1 h2 => e _ _ (n p (mem_of_get h1)) (h.row j p c h1 h2), fun c hc => (h.tup c hc).kt k⟩
/-- one row is written -/
theorem Rows.put {H : Hp} {as : List Addr} {cs : List (List (Addr × Ow))} {j : Nat} {p : Addr} {c : List (Addr × Ow)} (h : Rows H as cs) (nd : as.Nodup) (hp : as[j]? = some p) (ho : OAll H c) :
    Rows (upd H p (.lst (c.map wV))) as (cs.set j c) := by
  have hj : j < as.length := (List.getElem?_eq_some_iff.mp hp).1
  have hc0 : ∃ c0, cs[j]? = some c0 := ⟨cs[j]'(by rw [← h.len]; exact hj), List.getElem?_eq_getElem _⟩
  obtain ⟨c0, hc0⟩ := hc0
  have kt : KT H (upd H p (.lst (c.map wV))) := KT.lst (h.row j p c0 hp hc0)
  refine ⟨by rw [List.length_set]; exact h.len, fun i q e h1 h2 => ?_, fun e he => ?_⟩
  · by_cases ij : i = j
    · subst ij
      rw [h1] at hp
      cases hp
      rw [List.getElem?_set_self (by rw [← h.len]; exact hj)] at h2
      cases h2
      exact upd_same
    · rw [List.getElem?_set_ne (Ne.symm ij)] at h2
      have ne : q ≠ p := fun z => ij (by
        obtain ⟨hi, e1⟩ := List.getElem?_eq_some_iff.mp h1
        obtain ⟨_, e2⟩ := List.getElem?_eq_some_iff.mp hp
        exact nodup_at nd hi _ (by rw [e1, e2, z]))
      rw [upd_ne ne]
      exact h.row i q e h1 h2
  · rcases List.mem_or_eq_of_mem_set he with he | rfl
    · exact (h.tup e he).kt kt
    · exact ho.kt kt
structure OwnAt (C : Addr) (H : Hp) (o dx L M : Addr) (as : List Addr) (cs : List (List (Addr × Ow))) (hs : List Bool) : Prop where
  ins : H o = some (.ins C dx [("_owners", .ref L), ("_held", .ref M)])
  own : H L = some (.lst (as.map V.ref))
  rows : Rows H as cs
  held : H M = some (.lst (hs.map V.bl))
  lenH : hs.length = cs.length
  nd : (L :: M :: as).Nodup
  few : cs.length ≤ 100
  thin : ∀ c ∈ cs, c.length ≤ 1000
theorem OwnAt.same {C o dx L M : Addr} {H H' : Hp} {as : List Addr} {cs : List (List (Addr × Ow))} {hs : List Bool} (h : OwnAt C H o dx L M as cs hs) (e : Same H H') : OwnAt C H' o dx L M as cs hs :=
  ⟨e _ _ h.ins, e _ _ h.own, h.rows.same e, e _ _ h.held, h.lenH, h.nd, h.few, h.thin⟩
/-- what another call leaves -/
theorem OwnAt.keep {C o dx L M : Addr} {H H' : Hp} {as F : List Addr} {cs : List (List (Addr × Ow))} {hs : List Bool} (h : OwnAt C H o dx L M as cs hs) (e : Keep F H H') (n : ∀ p ∈ o :: L :: M :: as, p ∉ F) (k : KT H H') : OwnAt C H' o dx L M as cs hs :=
  ⟨e _ _ (n _ (by simp)) h.ins, e _ _ (n _ (by simp)) h.own, h.rows.keep e (fun p hp => n p (by simp [hp])) k, e _ _ (n _ (by simp)) h.held, h.lenH, h.nd, h.few, h.thin⟩
theorem OwnAt.row {C o dx L M : Addr} {H : Hp} {as : List Addr} {cs : List (List (Addr × Ow))} {hs : List Bool} (h : OwnAt C H o dx L M as cs hs) {j : Nat} (hj : j < cs.length) :
    ∃ p, as[j]? = some p ∧ (as.map V.ref)[j]? = some (.ref p) ∧ H p = some (.lst (cs[j].map wV)) ∧ OAll H cs[j] ∧ p ∈ as := by
  have hj2 : j < as.length := by rw [h.rows.len]; exact hj
  refine ⟨as[j], List.getElem?_eq_getElem hj2, by rw [List.getElem?_map, List.getElem?_eq_getElem hj2]; rfl, h.rows.row j _ _ (List.getElem?_eq_getElem hj2) (List.getElem?_eq_getElem hj), h.rows.tup _ (List.getElem_mem hj), List.getElem_mem hj2⟩
theorem OwnAt.flag {C o dx L M : Addr} {H : Hp} {as : List Addr} {cs : List (List (Addr × Ow))} {hs : List Bool} (h : OwnAt C H o dx L M as cs hs) {j : Nat} (hj : j < cs.length) : (hs.map V.bl)[j]? = some (.bl (hs[j]'(by rw [h.lenH]; exact hj))) := by
  rw [List.getElem?_map, List.getElem?_eq_getElem (by rw [h.lenH]; exact hj)]
  rfl
/-- a flag is written -/
theorem OwnAt.setH {C o dx L M : Addr} {H : Hp} {as : List Addr} {cs : List (List (Addr × Ow))} {hs : List Bool} (h : OwnAt C H o dx L M as cs hs) (j : Nat) (b : Bool) :
    OwnAt C (upd H M (.lst ((hs.set j b).map V.bl))) o dx L M as cs (hs.set j b) := by
  have nM := h.nd
  simp only [List.nodup_cons, List.mem_cons, not_or] at nM
  refine ⟨(upd_ne (ne_of h.ins h.held (fun z => nomatch z))).trans h.ins, (upd_ne nM.1.1).trans h.own, h.rows.keep (F := [M]) (Keep.put (by simp)) (fun p hp z => nM.2.1 (List.mem_singleton.mp z ▸ hp)) (KT.lst h.held), upd_same, by rw [List.length_set]; exact h.lenH, h.nd, h.few, h.thin⟩
/-- a row is written -/
theorem OwnAt.setR {C o dx L M : Addr} {H : Hp} {as : List Addr} {cs : List (List (Addr × Ow))} {hs : List Bool} (h : OwnAt C H o dx L M as cs hs) {j : Nat} {p : Addr} {c : List (Addr × Ow)} (hp : as[j]? = some p) (ho : OAll H c) (hl : c.length ≤ 1000) :
    OwnAt C (upd H p (.lst (c.map wV))) o dx L M as (cs.set j c) hs := by
  have nM := h.nd
  simp only [List.nodup_cons, List.mem_cons, not_or] at nM
  have pm := mem_of_get hp
  have hj : j < cs.length := by rw [← h.rows.len]; exact (List.getElem?_eq_some_iff.mp hp).1
  have hr := h.rows.row j p cs[j] hp (List.getElem?_eq_getElem hj)
  refine ⟨(upd_ne (ne_of h.ins hr (fun z => nomatch z))).trans h.ins, (upd_ne (fun z : L = p => nM.1.2 (z.symm ▸ pm))).trans h.own, h.rows.put nM.2.2 hp ho, (upd_ne (fun z : M = p => nM.2.1 (z.symm ▸ pm))).trans h.held, by rw [List.length_set]; exact h.lenH, h.nd, by rw [List.length_set]; exact h.few, fun e he => ?_⟩
  rcases List.mem_or_eq_of_mem_set he with he | rfl
  · exact h.thin e he
  · exact hl

/-! ### mirrors -/
def freeB (cs : List (List (Addr × Ow))) (hs : List Bool) (n : Nat) : Bool := match cs[n]?, hs[n]? with
  | some c, some b => c.isEmpty && !b
  | _, _ => false
def freeL (cs : List (List (Addr × Ow))) (hs : List Bool) : List Nat := (List.range cs.length).filter (freeB cs hs)
def heldL (hs : List Bool) : List Nat := (List.range hs.length).filter fun n => hs[n]?.getD false
def owns (o : Ow) (c : List (Addr × Ow)) : Bool := decide (o ∈ c.map Prod.snd)
def placeM (cs : List (List (Addr × Ow))) (o : Ow) : Option Nat := cs.findIdx? (owns o)
def natV : Option Nat → V
  | none => .non
  | some n => .int n
def nInt (ns : List Nat) : List V := ns.map fun n => V.int (n : Nat)
/-- the victim, from the place on -/
def vicM (cs : List (List (Addr × Ow))) (ps : List Int) (pl : Int) (many : Nat) : Option Nat :=
  ((List.range many).map fun d => ((pl + (d : Nat)) % (many : Int)).toNat).find? fun n => !((cs[n]?.getD []).isEmpty) && !decide ((n : Int) ∈ ps)
theorem freeB_at {cs : List (List (Addr × Ow))} {hs : List Bool} {n : Nat} (h1 : n < cs.length) (h2 : n < hs.length) : freeB cs hs n = (cs[n].isEmpty && !hs[n]) := by
  unfold freeB
  rw [List.getElem?_eq_getElem h1, List.getElem?_eq_getElem h2]

/-! ### promises -/
def inR (n : Int) (m : Nat) : Prop := 0 ≤ n ∧ n < (m : Int)
def spOwnInit (C : Addr) : Sp := fun vs H Q _ => ∃ (o dx : Addr) (many : Nat), vs = [.ref o, .int (many : Nat)] ∧ H o = some (.ins C dx []) ∧ many ≤ 100 ∧
  ∀ H' L M as, SameBut o H H' → H L = none → H M = none → (∀ p ∈ as, H p = none) → OwnAt C H' o dx L M as (List.replicate many []) (List.replicate many false) → Q .non H'
def spCheck (C N : Addr) : Sp := fun vs H Q E => ∃ (o dx L M : Addr) (as : List Addr) (cs : List (List (Addr × Ow))) (hs : List Bool) (n : Int), vs = [.ref o, .int n] ∧ OwnAt C H o dx L M as cs hs ∧
  (inR n cs.length → Q .non H) ∧ (¬ inR n cs.length → ∀ H', Same H H' → E (.ref N) none H')
def spIsFree (C : Addr) : Sp := fun vs H Q _ => ∃ (o dx L M : Addr) (as : List Addr) (cs : List (List (Addr × Ow))) (hs : List Bool) (n : Nat), vs = [.ref o, .int (n : Nat)] ∧ OwnAt C H o dx L M as cs hs ∧ n < cs.length ∧ Q (.bl (freeB cs hs n)) H
def spFree (C : Addr) : Sp := fun vs H Q _ => ∃ (o dx L M : Addr) (as : List Addr) (cs : List (List (Addr × Ow))) (hs : List Bool), vs = [.ref o] ∧ OwnAt C H o dx L M as cs hs ∧
  ∀ H' p, Same H H' → H p = none → H' p = some (.lst (nInt (freeL cs hs))) → Q (.ref p) H'
def spHands (C : Addr) : Sp := fun vs H Q _ => ∃ (o dx L M : Addr) (as : List Addr) (cs : List (List (Addr × Ow))) (hs : List Bool), vs = [.ref o] ∧ OwnAt C H o dx L M as cs hs ∧
  ∀ H' p, Same H H' → H p = none → H' p = some (.lst (nInt (heldL hs))) → Q (.ref p) H'
def spTake (C : Addr) : Sp := fun vs H Q _ => ∃ (o dx L M : Addr) (as : List Addr) (cs : List (List (Addr × Ow))) (hs : List Bool), vs = [.ref o] ∧ OwnAt C H o dx L M as cs hs ∧
  ((freeL cs hs)[0]? = none → ∀ H', Same H H' → Q .non H') ∧ (∀ j, (freeL cs hs)[0]? = some j → ∀ H', Keep [M] H H' → KT H H' → OwnAt C H' o dx L M as cs (hs.set j true) → Q (.int (j : Nat)) H')
def spPlaceOf (K : PySem.W.Frag) (C : Addr) : Sp := fun vs H Q _ => ∃ (o dx L M : Addr) (as : List Addr) (cs : List (List (Addr × Ow))) (hs : List Bool) (t : Addr) (w : Ow), vs = [.ref o, .ref t] ∧ OwnAt C H o dx L M as cs hs ∧ H t = some (.tup (oV w)) ∧
  ∀ H', Same H H' → Q (natV (placeM cs w)) H'
def spOwnersOf (C N : Addr) : Sp := fun vs H Q E => ∃ (o dx L M : Addr) (as : List Addr) (cs : List (List (Addr × Ow))) (hs : List Bool) (n : Int), vs = [.ref o, .int n] ∧ OwnAt C H o dx L M as cs hs ∧
  (∀ j : Nat, n = (j : Int) → ∀ c, cs[j]? = some c → ∀ p, H p = none → Q (.ref p) (upd H p (.lst (c.map wV)))) ∧ (¬ inR n cs.length → ∀ H', Same H H' → E (.ref N) none H')
def spGive (C N : Addr) : Sp := fun vs H Q E => ∃ (o dx L M : Addr) (as : List Addr) (cs : List (List (Addr × Ow))) (hs : List Bool) (n : Int), vs = [.ref o, .int n] ∧ OwnAt C H o dx L M as cs hs ∧
  (∀ j : Nat, n = (j : Int) → hs[j]? = some true → ∀ H', Keep [M] H H' → KT H H' → OwnAt C H' o dx L M as cs (hs.set j false) → Q .non H') ∧
  ((∀ j : Nat, n = (j : Int) → hs[j]? ≠ some true) → ∀ H', Same H H' → E (.ref N) none H')
def spHold (C N : Addr) : Sp := fun vs H Q E => ∃ (o dx L M : Addr) (as : List Addr) (cs : List (List (Addr × Ow))) (hs : List Bool) (n : Int), vs = [.ref o, .int n] ∧ OwnAt C H o dx L M as cs hs ∧
  (∀ j : Nat, n = (j : Int) → freeB cs hs j = true → ∀ H', Keep [M] H H' → KT H H' → OwnAt C H' o dx L M as cs (hs.set j true) → Q .non H') ∧
  ((∀ j : Nat, n = (j : Int) → freeB cs hs j = false) → ∀ H', Same H H' → E (.ref N) none H')
def spAdd (K : PySem.W.Frag) (C N : Addr) : Sp := fun vs H Q E => ∃ (o dx L M : Addr) (as : List Addr) (cs : List (List (Addr × Ow))) (hs : List Bool) (n : Int) (t : Addr) (w : Ow), vs = [.ref o, .int n, .ref t] ∧ OwnAt C H o dx L M as cs hs ∧ H t = some (.tup (oV w)) ∧ (∀ c ∈ cs, c.length ≤ 900) ∧
  (∀ j : Nat, n = (j : Int) → ∀ c, cs[j]? = some c → freeB cs hs j = false → placeM cs w = none → ∀ H', Keep (M :: as) H H' → KT H H' → OwnAt C H' o dx L M as (cs.set j (c ++ [(t, w)])) (hs.set j false) → Q .non H') ∧
  ((∀ j : Nat, n = (j : Int) → j < cs.length → freeB cs hs j = true ∨ placeM cs w ≠ none) → ∀ H', Same H H' → E (.ref N) none H')
/-- where the owner stands -/
def atOw (w : Ow) (c : List (Addr × Ow)) : Option Nat := c.findIdx? fun z => decide (z.2 = w)
theorem map_eraseIdxO {α β : Type} (f : α → β) : ∀ (l : List α) (j : Nat), (l.map f).eraseIdx j = (l.eraseIdx j).map f
  | [], _ => rfl
  | _ :: _, 0 => rfl
  | x :: l, j + 1 => by
    show f x :: (l.map f).eraseIdx j = f x :: (l.eraseIdx j).map f
    rw [map_eraseIdxO f l j]
theorem at_ow {w : Ow} {c : List (Addr × Ow)} (h : w ∈ c.map Prod.snd) : ∃ i, atOw w c = some i := by
  unfold atOw
  cases e : c.findIdx? fun z => decide (z.2 = w) with
  | some i => exact ⟨i, rfl⟩
  | none =>
    rw [List.findIdx?_eq_none_iff] at e
    obtain ⟨z, hz, hw⟩ := List.mem_map.mp h
    have := e z hz
    simp [hw] at this
theorem at_ow_spec {w : Ow} {c : List (Addr × Ow)} {i : Nat} (h : atOw w c = some i) : ((c.map Prod.snd).map oD)[i]? = some (oD w) ∧
    (∀ (m : Nat) (z' : PyData), m < i → ((c.map Prod.snd).map oD)[m]? = some z' → PyData.eqv z' (oD w) = false) ∧ ∀ f : Addr × Ow → V, (c.map f).eraseIdx i = (c.eraseIdx i).map f := by
  unfold atOw at h
  rw [List.findIdx?_eq_some_iff_getElem] at h
  obtain ⟨hi, h1, h2⟩ := h
  refine ⟨?_, fun m z' hm hz => ?_, fun f => map_eraseIdxO f c i⟩
  · rw [List.getElem?_map, List.getElem?_map, List.getElem?_eq_getElem hi]
    simp [of_decide_eq_true h1]
  · have hm2 : m < c.length := by omega
    rw [List.getElem?_map, List.getElem?_map, List.getElem?_eq_getElem hm2] at hz
    have e := Option.some.inj hz
    rw [← e, eqv_oD]
    have := h2 m hm
    simpa using this
def spRemove (K : PySem.W.Frag) (C N : Addr) : Sp := fun vs H Q E => ∃ (o dx L M : Addr) (as : List Addr) (cs : List (List (Addr × Ow))) (hs : List Bool) (n : Int) (t : Addr) (w : Ow), vs = [.ref o, .int n, .ref t] ∧ OwnAt C H o dx L M as cs hs ∧ H t = some (.tup (oV w)) ∧
  (∀ j : Nat, n = (j : Int) → ∀ c, cs[j]? = some c → ∀ i, atOw w c = some i → ∀ H', Keep (M :: as) H H' → KT H H' → OwnAt C H' o dx L M as (cs.set j (c.eraseIdx i)) hs → Q .non H') ∧
  ((∀ j : Nat, n = (j : Int) → ∀ c, cs[j]? = some c → owns w c = false) → ∀ H', Same H H' → E (.ref N) none H')
structure HandAt (C : Addr) (H : Hp) (h dx : Addr) (many : Nat) (pl : Int) : Prop where
  ins : H h = some (.ins C dx [("_many", .int (many : Nat)), ("_frame", .int pl)])
def spHandInit (C : Addr) : Sp := fun vs H Q _ => ∃ (o dx : Addr) (many : Nat), vs = [.ref o, .int (many : Nat)] ∧ H o = some (.ins C dx []) ∧ ∀ H', SameBut o H H' → HandAt C H' o dx many 0 → Q .non H'
def spVictim (K : PySem.W.Frag) (Co C : Addr) : Sp := fun vs H Q _ => ∃ (h hx o dx L M r : Addr) (as : List Addr) (cs : List (List (Addr × Ow))) (hs : List Bool) (pl : Int) (ps : List Int), vs = [.ref h, .ref o, .ref r] ∧ OwnAt Co H o dx L M as cs hs ∧ HandAt C H h hx cs.length pl ∧
  SqL K H r (ps.map V.int) ∧ ps.length ≤ 1000 ∧ 0 ≤ pl ∧ (vicM cs ps pl cs.length = none → ∀ H', Same H H' → Q .non H') ∧
  (∀ j, vicM cs ps pl cs.length = some j → ∀ H', SameBut h H H' → HandAt C H' h hx cs.length (((j : Nat) + 1) % (cs.length : Int)) → Q (.int (j : Nat)) H')
def spPoints (C : Addr) : Sp := fun vs H Q _ => ∃ (h hx : Addr) (many : Nat) (pl : Int), vs = [.ref h] ∧ HandAt C H h hx many pl ∧ Q (.int pl) H
end Fk
/-! Memory: sizes, buffers, boxes, cells, log as they stand in the heap; what an access does. -/
namespace Mk
open PySem PySem.Spec PyProof.Rows L2 Dk Ek Nk Wk Lk Fk
theorem kit_of_sub {K : PySem.W.Frag} {C : Addr} {T : String} {v : Bool} (hm : PySem.W.kitMeta T = true) (h : PySem.W.subIn K (.ref C) (.type T) = some v) : PySem.W.kitOne K (.ref C) (.type T) = some v := by
  unfold PySem.W.kitOne
  rw [if_neg (by intro h; have := beq_iff_eq.mp h; cases this)]
  show (if PySem.W.kitMeta T = true then PySem.W.subIn K (.ref C) (.type T) else none) = some v
  rw [if_pos hm]
  exact h
/-! ### sizes -/
def spSz (C : Addr) (args : List Int) (val : Int → Int → Int → Int) : Addr → Addr → Int → Int → Int → List V → Hp → VK → Prop := fun z dx p f b vs H Q => vs = .ref z :: args.map V.int ∧ H z = some (.ins C dx (szF p f b)) ∧ Q (.int (val p f b)) H
def spLock (C : Addr) : Sp := fun vs H Q _ => ∃ (z dx : Addr) (p f b : Int), vs = [.ref z] ∧ H z = some (.ins C dx (szF p f b)) ∧ Q (.int 0) H
def spAck (C : Addr) : Sp := fun vs H Q _ => ∃ (z dx : Addr) (p f b i : Int), vs = [.ref z, .int i] ∧ H z = some (.ins C dx (szF p f b)) ∧ Q (.int (1 + i)) H
def spWordC (C : Addr) : Sp := fun vs H Q _ => ∃ (z dx : Addr) (p f b s g : Int), vs = [.ref z, .int s, .int g] ∧ H z = some (.ins C dx (szF p f b)) ∧ Q (.int (1 + p + 8 * s + g)) H
def spFrameC (C : Addr) : Sp := fun vs H Q _ => ∃ (z dx : Addr) (p f b s g : Int), vs = [.ref z, .int s, .int g] ∧ H z = some (.ins C dx (szF p f b)) ∧ -(2 ^ 64) < s ∧ s < 2 ^ 64 ∧ Q (.int (1 + p + 4 * 8 + 2 * s + g)) H
def spSwapC (C : Addr) : Sp := fun vs H Q _ => ∃ (z dx : Addr) (p f b i : Int), vs = [.ref z, .int i] ∧ H z = some (.ins C dx (szF p f b)) ∧ Q (.int (1 + p + 4 * 8 + 2 * f + i)) H
def spFileC (C : Addr) : Sp := fun vs H Q _ => ∃ (z dx : Addr) (p f b s g : Int), vs = [.ref z, .int s, .int g] ∧ H z = some (.ins C dx (szF p f b)) ∧ Q (.int (1 + p + 4 * 8 + 2 * f + b + 4 * s + g)) H
def cellsN (p f b : Int) : Int := 1 + p + 4 * 8 + 2 * f + b + 2 * 4
def spCells (C : Addr) : Sp := fun vs H Q _ => ∃ (z dx : Addr) (p f b : Int), vs = [.ref z] ∧ H z = some (.ins C dx (szF p f b)) ∧ Q (.int (cellsN p f b)) H
/-! ### first values -/
def firstD (p f b : Int) : List PyData := List.replicate (1 + p).toNat (.int 0) ++ List.replicate 32 .none ++ List.replicate (2 * f).toNat (.int 0) ++ List.replicate (b + 8).toNat (.tuple [.int 0, .int 0])
def firstV (p f b : Int) (t : Addr) : List V := List.replicate (1 + p).toNat (.int 0) ++ List.replicate 32 .non ++ List.replicate (2 * f).toNat (.int 0) ++ List.replicate (b + 8).toNat (.ref t)
def spFirst (C : Addr) : Sp := fun vs H Q _ => ∃ (z dx : Addr) (p f b : Int), vs = [.ref z] ∧ H z = some (.ins C dx (szF p f b)) ∧ okSz p f b = true ∧ ∀ H' t l, Same H H' → H l = none → H' t = some (.tup [.int 0, .int 0]) → H' l = some (.lst (firstV p f b t)) → Q (.ref l) H'
theorem dp_rep {K : PySem.W.Frag} {H : Hp} {v : V} {d : PyData} (h : Dp K H v d) : ∀ n, DpAll K H (List.replicate n v) (List.replicate n d)
  | 0 => .nil
  | n + 1 => .cons h (dp_rep h n)
theorem first_dp {K : PySem.W.Frag} {H : Hp} {t : Addr} (p f b : Int) (h : H t = some (.tup [.int 0, .int 0])) : DpAll K H (firstV p f b t) (firstD p f b) :=
  dpAll_app (dpAll_app (dpAll_app (dp_rep (.int 0) _) (dp_rep .non _)) (dp_rep (.int 0) _)) (dp_rep (.tup (SqT.of h) (.cons (.int 0) (.cons (.int 0) .nil))) _)
theorem first_len {p f b : Int} (h : okSz p f b = true) : ((firstD p f b).length : Int) = cellsN p f b := by
  simp only [okSz, Bool.and_eq_true, decide_eq_true_eq] at h
  simp only [firstD, List.length_append, List.length_replicate, cellsN]
  omega
theorem okSz_at {p f b : Int} (h : okSz p f b = true) : (1 ≤ p ∧ p ≤ 3) ∧ (2 ≤ f ∧ f ≤ 12) ∧ (0 ≤ b ∧ b ≤ 12) := by
  simp only [okSz, Bool.and_eq_true, decide_eq_true_eq] at h
  exact ⟨h.1.1, h.1.2, h.2⟩
/-! ### buffers -/
structure BufAt (C : Addr) (H : Hp) (b dx l : Addr) (vs : List V) : Prop where
  ins : H b = some (.ins C dx [("_entries", .ref l)])
  lst : H l = some (.lst vs)
theorem BufAt.same {C b dx l : Addr} {H H' : Hp} {vs : List V} (h : BufAt C H b dx l vs) (e : Same H H') : BufAt C H' b dx l vs := ⟨e _ _ h.ins, e _ _ h.lst⟩
def spBufInit (C : Addr) : Sp := fun vs H Q _ => ∃ (x dx : Addr), vs = [.ref x] ∧ H x = some (.ins C dx []) ∧ ∀ H' l, SameBut x H H' → H l = none → BufAt C H' x dx l [] → Q .non H'
def spEntries (C : Addr) : Sp := fun vs H Q _ => ∃ (b dx l : Addr) (zs : List V), vs = [.ref b] ∧ BufAt C H b dx l zs ∧ ∀ p, H p = none → Q (.ref p) (upd H p (.lst zs))
structure BoxAt (C : Addr) (H : Hp) (b dx l : Addr) (vs : List V) : Prop where
  ins : H b = some (.ins C dx [("_letters", .ref l)])
  lst : H l = some (.lst vs)
theorem BoxAt.same {C b dx l : Addr} {H H' : Hp} {vs : List V} (h : BoxAt C H b dx l vs) (e : Same H H') : BoxAt C H' b dx l vs := ⟨e _ _ h.ins, e _ _ h.lst⟩
def spBoxInit (C : Addr) : Sp := fun vs H Q _ => ∃ (x dx : Addr), vs = [.ref x] ∧ H x = some (.ins C dx []) ∧ ∀ H' l, SameBut x H H' → H l = none → BoxAt C H' x dx l [] → Q .non H'
def spLetters (C : Addr) : Sp := fun vs H Q _ => ∃ (b dx l : Addr) (zs : List V), vs = [.ref b] ∧ BoxAt C H b dx l zs ∧ ∀ p, H p = none → Q (.ref p) (upd H p (.lst zs))
/-! ### the memory -/
/-- what does not change of a memory -/
structure MX where
  (m dx z dz bl xl cl lg : Addr)
  (p f b : Int)
  (bs : List (Addr × Addr))
  (xs : List (Addr × Addr × Addr))
/-- what changes -/
structure MS where
  n : Nat
  cells : List PyData
  bufs : List (List En)
  boxes : List (List PyData)
  log : List PyData
structure Cl4 where
  (Cm Cs Cb Cx : Addr)
def Shs (ds : List PyData) : Prop := ∀ d ∈ ds, noL d = true ∧ Sh 20 d
structure MemAt (K : PySem.W.Frag) (C : Cl4) (H : Hp) (x : MX) (s : MS) : Prop where
  ins : H x.m = some (.ins C.Cm x.dx [("sizes", .ref x.z), ("count", .int (s.n : Nat)), ("buffers", .ref x.bl), ("boxes", .ref x.xl), ("_cells", .ref x.cl), ("_log", .ref x.lg)])
  sz : H x.z = some (.ins C.Cs x.dz (szF x.p x.f x.b))
  okS : okSz x.p x.f x.b = true
  bl : H x.bl = some (.lst (x.bs.map fun y => V.ref y.1))
  xl : H x.xl = some (.lst (x.xs.map fun y => V.ref y.1))
  cells : ∃ vs, H x.cl = some (.lst vs) ∧ DpAll K H vs s.cells
  log : ∃ vs, H x.lg = some (.lst vs) ∧ DpAll K H vs s.log
  buf : ∀ (i : Nat) (y : Addr × Addr) (es : List En), x.bs[i]? = some y → s.bufs[i]? = some es → ∃ l zs, BufAt C.Cb H y.1 y.2 l (zs.map aV) ∧ EnAll H zs ∧ zs.map Prod.snd = es
  box : ∀ (i : Nat) (y : Addr × Addr × Addr) (ls : List PyData), x.xs[i]? = some y → s.boxes[i]? = some ls → ∃ vs, BoxAt C.Cx H y.1 y.2.1 y.2.2 vs ∧ DpAll K H vs ls
  lenC : (s.cells.length : Int) = cellsN x.p x.f x.b
  lenB : (x.bs.length : Int) = x.p ∧ s.bufs.length = x.bs.length
  lenX : (x.xs.length : Int) = x.p ∧ s.boxes.length = x.xs.length
  lenL : s.log.length = s.n
  shC : Shs s.cells
  shL : Shs s.log
  shX : ∀ ls ∈ s.boxes, Shs ls
  lim : ∀ es ∈ s.bufs, es.length ≤ 2
  ndL : (x.bl :: x.xl :: x.cl :: x.lg :: x.xs.map fun y => y.2.2).Nodup
  ndB : (x.bs.map fun y => y.1).Nodup
  ndI : ∀ y ∈ x.bs, y.1 ≠ x.m
def MX.foot (x : MX) : List Addr := x.m :: x.cl :: x.lg :: ((x.bs.map fun y => y.1) ++ x.xs.map fun y => y.2.2)
theorem Shs.no {ds : List PyData} (h : Shs ds) : noLs ds = true := noLs_of fun d hd => (h d hd).1
theorem MemAt.same {K : PySem.W.Frag} {C : Cl4} {H H' : Hp} {x : MX} {s : MS} (h : MemAt K C H x s) (e : Same H H') : MemAt K C H' x s where
  ins := e _ _ h.ins
  sz := e _ _ h.sz
  okS := h.okS
  bl := e _ _ h.bl
  xl := e _ _ h.xl
  cells := by
    obtain ⟨vs, h1, h2⟩ := h.cells
    exact ⟨vs, e _ _ h1, dpAll_mono e h2⟩
  log := by
    obtain ⟨vs, h1, h2⟩ := h.log
    exact ⟨vs, e _ _ h1, dpAll_mono e h2⟩
  buf := fun i y es h1 h2 => by
    obtain ⟨l, zs, h3, h4, h5⟩ := h.buf i y es h1 h2
    exact ⟨l, zs, h3.same e, h4.kt (KT.of e), h5⟩
  box := fun i y ls h1 h2 => by
    obtain ⟨vs, h3, h4⟩ := h.box i y ls h1 h2
    exact ⟨vs, h3.same e, dpAll_mono e h4⟩
  lenC := h.lenC
  lenB := h.lenB
  lenX := h.lenX
  lenL := h.lenL
  shC := h.shC
  shL := h.shL
  shX := h.shX
  lim := h.lim
  ndL := h.ndL
  ndB := h.ndB
  ndI := h.ndI
def initS (p f b : Int) : MS := ⟨0, firstD p f b, List.replicate p.toNat [], List.replicate p.toNat [], []⟩
def spMemInit (K : PySem.W.Frag) (C : Cl4) : Sp := fun vs H Q _ => ∃ (m dx z dz : Addr) (p f b : Int), vs = [.ref m, .ref z] ∧ H m = some (.ins C.Cm dx []) ∧ H z = some (.ins C.Cs dz (szF p f b)) ∧ okSz p f b = true ∧
  ∀ H' x, x.m = m → x.dx = dx → x.z = z → x.dz = dz → x.p = p → x.f = f → x.b = b → SameBut m H H' → (∀ a ∈ x.bl :: x.xl :: x.cl :: x.lg :: ((x.bs.map fun y => y.1) ++ x.xs.map fun y => y.2.2), H a = none) → MemAt K C H' x (initS p f b) → Q .non H'
def spPeek (K : PySem.W.Frag) (C : Cl4) (N : Addr) : Sp := fun vs H Q E => ∃ (x : MX) (s : MS) (c : Int), vs = [.ref x.m, .int c] ∧ MemAt K C H x s ∧
  (∀ j : Nat, c = (j : Int) → ∀ v d, s.cells[j]? = some d → Dp K H v d → Q v H) ∧ (¬ (0 ≤ c ∧ c < cellsN x.p x.f x.b) → ∀ H', Same H H' → E (.ref N) none H')
def spLog (K : PySem.W.Frag) (C : Cl4) : Sp := fun vs H Q _ => ∃ (x : MX) (s : MS), vs = [.ref x.m] ∧ MemAt K C H x s ∧ ∀ vs p, H p = none → DpAll K H vs s.log → Q (.ref p) (upd H p (.lst vs))
end Mk
namespace K01
open PySem L2 Dk Ek Nk Wk Lk Fk Mk
def top (i : Nat) : Stmt := PySem.Challenge.pw_frametally_k01_sizes.main.body.getD i (.Pass ⟨0, 0, 0, 0⟩)
abbrev s_Buffer_init : Stmt := inClass (top 3) 0
abbrev s_Buffer_entries : Stmt := inClass (top 3) 4
abbrev s_PageError_init : Stmt := inClass (top 5) 0
abbrev s_is_whole : Stmt := top 10
abbrev s_is_number_below : Stmt := top 11
abbrev s_Box_init : Stmt := inClass (top 15) 0
abbrev s_Box_letters : Stmt := inClass (top 15) 3
abbrev s_is_between : Stmt := top 21
abbrev s_Sizes_init : Stmt := inClass (top 23) 0
abbrev s_Sizes_lock : Stmt := inClass (top 23) 1
abbrev s_Sizes_acknowledge : Stmt := inClass (top 23) 2
abbrev s_Sizes_word : Stmt := inClass (top 23) 3
abbrev s_Sizes_frame_cell : Stmt := inClass (top 23) 4
abbrev s_Sizes_swap_block : Stmt := inClass (top 23) 5
abbrev s_Sizes_file_block : Stmt := inClass (top 23) 6
abbrev s_Sizes_cells : Stmt := inClass (top 23) 7
abbrev s_first_values : Stmt := top 24
abbrev s_Memory_init : Stmt := inClass (top 28) 0
abbrev s_Memory_peek : Stmt := inClass (top 28) 2
abbrev s_Memory_log : Stmt := inClass (top 28) 3
abbrev s__law_tape : Stmt := top 30
abbrev s__law_at : Stmt := top 31
abbrev s__law_told : Stmt := top 32
abbrev s__law_listed : Stmt := top 33
abbrev s__law_values : Stmt := top 34
abbrev s_law : Stmt := top 35
theorem sc_Buffer_init : FnScope ["self"] ["self"] (defScope s_Buffer_init) := ⟨rfl, rfl, rfl, by decide +kernel, rfl, by decide +kernel, by decide +kernel⟩
theorem sc_Buffer_entries : FnScope ["self"] ["self"] (defScope s_Buffer_entries) := ⟨rfl, rfl, rfl, by decide +kernel, rfl, by decide +kernel, by decide +kernel⟩
theorem sc_PageError_init : FnScope ["self"] ["self"] (defScope s_PageError_init) := ⟨rfl, rfl, rfl, by decide +kernel, rfl, by decide +kernel, by decide +kernel⟩
theorem sc_is_whole : FnScope ["value"] ["value"] (defScope s_is_whole) := ⟨rfl, rfl, rfl, by decide +kernel, rfl, by decide +kernel, by decide +kernel⟩
theorem sc_is_number_below : FnScope ["value", "many"] ["value", "many"] (defScope s_is_number_below) := ⟨rfl, rfl, rfl, by decide +kernel, rfl, by decide +kernel, by decide +kernel⟩
theorem sc_Box_init : FnScope ["self"] ["self"] (defScope s_Box_init) := ⟨rfl, rfl, rfl, by decide +kernel, rfl, by decide +kernel, by decide +kernel⟩
theorem sc_Box_letters : FnScope ["self"] ["self"] (defScope s_Box_letters) := ⟨rfl, rfl, rfl, by decide +kernel, rfl, by decide +kernel, by decide +kernel⟩
theorem sc_is_between : FnScope ["value", "least", "most"] ["value", "least", "most"] (defScope s_is_between) := ⟨rfl, rfl, rfl, by decide +kernel, rfl, by decide +kernel, by decide +kernel⟩
theorem sc_Sizes_init : FnScope ["self", "processors", "frames", "blocks"] ["self", "processors", "frames", "blocks"] (defScope s_Sizes_init) := ⟨rfl, rfl, rfl, by decide +kernel, rfl, by decide +kernel, by decide +kernel⟩
theorem sc_Sizes_lock : FnScope ["self"] ["self"] (defScope s_Sizes_lock) := ⟨rfl, rfl, rfl, by decide +kernel, rfl, by decide +kernel, by decide +kernel⟩
theorem sc_Sizes_acknowledge : FnScope ["self", "processor"] ["self", "processor"] (defScope s_Sizes_acknowledge) := ⟨rfl, rfl, rfl, by decide +kernel, rfl, by decide +kernel, by decide +kernel⟩
theorem sc_Sizes_word : FnScope ["self", "space", "page"] ["self", "space", "page"] (defScope s_Sizes_word) := ⟨rfl, rfl, rfl, by decide +kernel, rfl, by decide +kernel, by decide +kernel⟩
theorem sc_Sizes_frame_cell : FnScope ["self", "frame", "index"] ["self", "frame", "index"] (defScope s_Sizes_frame_cell) := ⟨rfl, rfl, rfl, by decide +kernel, rfl, by decide +kernel, by decide +kernel⟩
theorem sc_Sizes_swap_block : FnScope ["self", "block"] ["self", "block"] (defScope s_Sizes_swap_block) := ⟨rfl, rfl, rfl, by decide +kernel, rfl, by decide +kernel, by decide +kernel⟩
theorem sc_Sizes_file_block : FnScope ["self", "file", "page"] ["self", "file", "page"] (defScope s_Sizes_file_block) := ⟨rfl, rfl, rfl, by decide +kernel, rfl, by decide +kernel, by decide +kernel⟩
theorem sc_Sizes_cells : FnScope ["self"] ["self"] (defScope s_Sizes_cells) := ⟨rfl, rfl, rfl, by decide +kernel, rfl, by decide +kernel, by decide +kernel⟩
theorem sc_first_values : FnScope ["sizes", "lock_and_acknowledges", "words", "frames", "blocks"] ["sizes"] (defScope s_first_values) := ⟨rfl, rfl, rfl, by decide +kernel, rfl, by decide +kernel, by decide +kernel⟩
theorem sc_Memory_init : FnScope ["self", "sizes", "_"] ["self", "sizes"] (defScope s_Memory_init) := ⟨rfl, rfl, rfl, by decide +kernel, rfl, by decide +kernel, by decide +kernel⟩
theorem sc_Memory_peek : FnScope ["self", "cell"] ["self", "cell"] (defScope s_Memory_peek) := ⟨rfl, rfl, rfl, by decide +kernel, rfl, by decide +kernel, by decide +kernel⟩
theorem sc_Memory_log : FnScope ["self"] ["self"] (defScope s_Memory_log) := ⟨rfl, rfl, rfl, by decide +kernel, rfl, by decide +kernel, by decide +kernel⟩
theorem sc__law_tape : FnScope ["script", "tape", "k", "value", "step"] ["script"] (defScope s__law_tape) := ⟨rfl, rfl, rfl, by decide +kernel, rfl, by decide +kernel, by decide +kernel⟩
theorem sc__law_at : FnScope ["tape", "k"] ["tape", "k"] (defScope s__law_at) := ⟨rfl, rfl, rfl, by decide +kernel, rfl, by decide +kernel, by decide +kernel⟩
theorem sc__law_told : FnScope ["processors", "frames", "blocks", "e"] ["processors", "frames", "blocks"] (defScope s__law_told) := ⟨rfl, rfl, rfl, by decide +kernel, rfl, by decide +kernel, by decide +kernel⟩
theorem sc__law_listed : FnScope ["sizes", "cells", "space", "frame", "file", "k", "page", "block"] ["sizes"] (defScope s__law_listed) := ⟨rfl, rfl, rfl, by decide +kernel, rfl, by decide +kernel, by decide +kernel⟩
theorem sc__law_values : FnScope ["sizes", "zeros"] ["sizes"] (defScope s__law_values) := ⟨rfl, rfl, rfl, by decide +kernel, rfl, by decide +kernel, by decide +kernel⟩
theorem sc_law : FnScope ["script", "tape", "processors", "frames", "blocks", "sizes", "many", "memory", "due", "cell", "told", "k"] ["script"] (defScope s_law) := ⟨rfl, rfl, rfl, by decide +kernel, rfl, by decide +kernel, by decide +kernel⟩
structure Ad where
  (C_Buffer C_PageError C_NotValid C_Box C_Sizes C_Memory f_Buffer_init f_Buffer_entries f_PageError_init f_is_whole f_is_number_below f_Box_init f_Box_letters f_is_between f_Sizes_init f_Sizes_lock f_Sizes_acknowledge f_Sizes_word f_Sizes_frame_cell f_Sizes_swap_block f_Sizes_file_block f_Sizes_cells f_first_values f_Memory_init f_Memory_peek f_Memory_log f__law_tape f__law_at f__law_told f__law_listed f__law_values f_law : Addr)
  (d_Buffer_init d_Buffer_entries d_PageError_init d_is_whole d_is_number_below d_Box_init d_Box_letters d_is_between d_Sizes_init d_Sizes_lock d_Sizes_acknowledge d_Sizes_word d_Sizes_frame_cell d_Sizes_swap_block d_Sizes_file_block d_Sizes_cells d_first_values d_Memory_init d_Memory_peek d_Memory_log d__law_tape d__law_at d__law_told d__law_listed d__law_values d_law : FuncData)
structure Txt (K : PySem.W.Frag) (mg : Str → Option Value) (a : Ad) : Prop where
  m_Buffer : mg "Buffer" = some (.ref a.C_Buffer)
  m_PageError : mg "PageError" = some (.ref a.C_PageError)
  m_NotValid : mg "NotValid" = some (.ref a.C_NotValid)
  m_Box : mg "Box" = some (.ref a.C_Box)
  m_Sizes : mg "Sizes" = some (.ref a.C_Sizes)
  m_Memory : mg "Memory" = some (.ref a.C_Memory)
  F_Buffer_init : Fun K "__init__" "Buffer.__init__" s_Buffer_init a.f_Buffer_init a.d_Buffer_init
  B_Buffer_init : Binds K a.d_Buffer_init ["self"] []
  F_Buffer_entries : Fun K "entries" "Buffer.entries" s_Buffer_entries a.f_Buffer_entries a.d_Buffer_entries
  B_Buffer_entries : Binds K a.d_Buffer_entries ["self"] []
  M_Buffer_entries : Meth K a.C_Buffer "entries" a.f_Buffer_entries
  F_PageError_init : Fun K "__init__" "PageError.__init__" s_PageError_init a.f_PageError_init a.d_PageError_init
  B_PageError_init : Binds K a.d_PageError_init ["self"] []
  F_is_whole : Fun K "is_whole" "is_whole" s_is_whole a.f_is_whole a.d_is_whole
  B_is_whole : Binds K a.d_is_whole ["value"] []
  m_is_whole : mg "is_whole" = some (.ref a.f_is_whole)
  F_is_number_below : Fun K "is_number_below" "is_number_below" s_is_number_below a.f_is_number_below a.d_is_number_below
  B_is_number_below : Binds K a.d_is_number_below ["value", "many"] []
  m_is_number_below : mg "is_number_below" = some (.ref a.f_is_number_below)
  F_Box_init : Fun K "__init__" "Box.__init__" s_Box_init a.f_Box_init a.d_Box_init
  B_Box_init : Binds K a.d_Box_init ["self"] []
  F_Box_letters : Fun K "letters" "Box.letters" s_Box_letters a.f_Box_letters a.d_Box_letters
  B_Box_letters : Binds K a.d_Box_letters ["self"] []
  M_Box_letters : Meth K a.C_Box "letters" a.f_Box_letters
  F_is_between : Fun K "is_between" "is_between" s_is_between a.f_is_between a.d_is_between
  B_is_between : Binds K a.d_is_between ["value", "least", "most"] []
  m_is_between : mg "is_between" = some (.ref a.f_is_between)
  F_Sizes_init : Fun K "__init__" "Sizes.__init__" s_Sizes_init a.f_Sizes_init a.d_Sizes_init
  B_Sizes_init : Binds K a.d_Sizes_init ["self", "processors", "frames", "blocks"] []
  F_Sizes_lock : Fun K "lock" "Sizes.lock" s_Sizes_lock a.f_Sizes_lock a.d_Sizes_lock
  B_Sizes_lock : Binds K a.d_Sizes_lock ["self"] []
  M_Sizes_lock : Meth K a.C_Sizes "lock" a.f_Sizes_lock
  F_Sizes_acknowledge : Fun K "acknowledge" "Sizes.acknowledge" s_Sizes_acknowledge a.f_Sizes_acknowledge a.d_Sizes_acknowledge
  B_Sizes_acknowledge : Binds K a.d_Sizes_acknowledge ["self", "processor"] []
  M_Sizes_acknowledge : Meth K a.C_Sizes "acknowledge" a.f_Sizes_acknowledge
  F_Sizes_word : Fun K "word" "Sizes.word" s_Sizes_word a.f_Sizes_word a.d_Sizes_word
  B_Sizes_word : Binds K a.d_Sizes_word ["self", "space", "page"] []
  M_Sizes_word : Meth K a.C_Sizes "word" a.f_Sizes_word
  F_Sizes_frame_cell : Fun K "frame_cell" "Sizes.frame_cell" s_Sizes_frame_cell a.f_Sizes_frame_cell a.d_Sizes_frame_cell
  B_Sizes_frame_cell : Binds K a.d_Sizes_frame_cell ["self", "frame", "index"] []
  M_Sizes_frame_cell : Meth K a.C_Sizes "frame_cell" a.f_Sizes_frame_cell
  F_Sizes_swap_block : Fun K "swap_block" "Sizes.swap_block" s_Sizes_swap_block a.f_Sizes_swap_block a.d_Sizes_swap_block
  B_Sizes_swap_block : Binds K a.d_Sizes_swap_block ["self", "block"] []
  M_Sizes_swap_block : Meth K a.C_Sizes "swap_block" a.f_Sizes_swap_block
  F_Sizes_file_block : Fun K "file_block" "Sizes.file_block" s_Sizes_file_block a.f_Sizes_file_block a.d_Sizes_file_block
  B_Sizes_file_block : Binds K a.d_Sizes_file_block ["self", "file", "page"] []
  M_Sizes_file_block : Meth K a.C_Sizes "file_block" a.f_Sizes_file_block
  F_Sizes_cells : Fun K "cells" "Sizes.cells" s_Sizes_cells a.f_Sizes_cells a.d_Sizes_cells
  B_Sizes_cells : Binds K a.d_Sizes_cells ["self"] []
  M_Sizes_cells : Meth K a.C_Sizes "cells" a.f_Sizes_cells
  F_first_values : Fun K "first_values" "first_values" s_first_values a.f_first_values a.d_first_values
  B_first_values : Binds K a.d_first_values ["sizes"] []
  m_first_values : mg "first_values" = some (.ref a.f_first_values)
  F_Memory_init : Fun K "__init__" "Memory.__init__" s_Memory_init a.f_Memory_init a.d_Memory_init
  B_Memory_init : Binds K a.d_Memory_init ["self", "sizes"] []
  F_Memory_peek : Fun K "peek" "Memory.peek" s_Memory_peek a.f_Memory_peek a.d_Memory_peek
  B_Memory_peek : Binds K a.d_Memory_peek ["self", "cell"] []
  M_Memory_peek : Meth K a.C_Memory "peek" a.f_Memory_peek
  F_Memory_log : Fun K "log" "Memory.log" s_Memory_log a.f_Memory_log a.d_Memory_log
  B_Memory_log : Binds K a.d_Memory_log ["self"] []
  M_Memory_log : Meth K a.C_Memory "log" a.f_Memory_log
  F__law_tape : Fun K "_law_tape" "_law_tape" s__law_tape a.f__law_tape a.d__law_tape
  B__law_tape : Binds K a.d__law_tape ["script"] []
  m__law_tape : mg "_law_tape" = some (.ref a.f__law_tape)
  F__law_at : Fun K "_law_at" "_law_at" s__law_at a.f__law_at a.d__law_at
  B__law_at : Binds K a.d__law_at ["tape", "k"] []
  m__law_at : mg "_law_at" = some (.ref a.f__law_at)
  F__law_told : Fun K "_law_told" "_law_told" s__law_told a.f__law_told a.d__law_told
  B__law_told : Binds K a.d__law_told ["processors", "frames", "blocks"] []
  m__law_told : mg "_law_told" = some (.ref a.f__law_told)
  F__law_listed : Fun K "_law_listed" "_law_listed" s__law_listed a.f__law_listed a.d__law_listed
  B__law_listed : Binds K a.d__law_listed ["sizes"] []
  m__law_listed : mg "_law_listed" = some (.ref a.f__law_listed)
  F__law_values : Fun K "_law_values" "_law_values" s__law_values a.f__law_values a.d__law_values
  B__law_values : Binds K a.d__law_values ["sizes"] []
  m__law_values : mg "_law_values" = some (.ref a.f__law_values)
  F_law : Fun K "law" "law" s_law a.f_law a.d_law
  B_law : Binds K a.d_law ["script"] []
  m_law : mg "law" = some (.ref a.f_law)
  c_Buffer : Cls K a.C_Buffer
  mk_Buffer : Mk K a.C_Buffer a.f_Buffer_init
  n_Buffer__entries : NoAttr K a.C_Buffer "_entries"
  c_Box : Cls K a.C_Box
  mk_Box : Mk K a.C_Box a.f_Box_init
  n_Box__letters : NoAttr K a.C_Box "_letters"
  c_Sizes : Cls K a.C_Sizes
  mk_Sizes : Mk K a.C_Sizes a.f_Sizes_init
  n_Sizes_processors : NoAttr K a.C_Sizes "processors"
  n_Sizes_frames : NoAttr K a.C_Sizes "frames"
  n_Sizes_blocks : NoAttr K a.C_Sizes "blocks"
  n_Sizes__acknowledges : NoAttr K a.C_Sizes "_acknowledges"
  n_Sizes__words : NoAttr K a.C_Sizes "_words"
  n_Sizes__frame_cells : NoAttr K a.C_Sizes "_frame_cells"
  n_Sizes__swap_blocks : NoAttr K a.C_Sizes "_swap_blocks"
  n_Sizes__file_blocks : NoAttr K a.C_Sizes "_file_blocks"
  c_Memory : Cls K a.C_Memory
  mk_Memory : Mk K a.C_Memory a.f_Memory_init
  n_Memory_sizes : NoAttr K a.C_Memory "sizes"
  n_Memory_count : NoAttr K a.C_Memory "count"
  n_Memory_buffers : NoAttr K a.C_Memory "buffers"
  n_Memory_boxes : NoAttr K a.C_Memory "boxes"
  n_Memory__cells : NoAttr K a.C_Memory "_cells"
  n_Memory__log : NoAttr K a.C_Memory "_log"
  k_CELLS : ∃ u, mg "CELLS" = some u ∧ RelV (.int 2) u
  k_FILES : ∃ u, mg "FILES" = some u ∧ RelV (.int 2) u
  k_FILE_PAGES : ∃ u, mg "FILE_PAGES" = some u ∧ RelV (.int 4) u
  k_MOST_ENTRIES : ∃ u, mg "MOST_ENTRIES" = some u ∧ RelV (.int 2) u
  k_PAGES : ∃ u, mg "PAGES" = some u ∧ RelV (.int 8) u
  k_SPACES : ∃ u, mg "SPACES" = some u ∧ RelV (.int 4) u
  b_ValueError : mg "ValueError" = none
  b_abs : mg "abs" = none
  b_all : mg "all" = none
  b_bool : mg "bool" = none
  b_int : mg "int" = none
  b_isinstance : mg "isinstance" = none
  b_len : mg "len" = none
  b_list : mg "list" = none
  b_range : mg "range" = none
  b_str : mg "str" = none
  b_tuple : mg "tuple" = none
  b_zip : mg "zip" = none
  vV : PySem.W.findCls K (.type "ValueError") (.type "type") "__init__" = some (.val (.builtin "ValueError.__init__"))
  xi_NotValid : PySem.W.findIn K (.ref a.C_NotValid) "__init__" = some (some (.ref a.f_PageError_init))
  xt_NotValid : PySem.W.typeIn K (.ref a.f_PageError_init) = some (.type "function")
  xs_NotValid : PySem.W.findIn K (.ref a.C_NotValid) "__setattr__" = some (some (.builtin "object.__setattr__"))
  xb_NotValid : PySem.W.subIn K (.ref a.C_NotValid) (.type "BaseException") = some true
  xy_NotValid : PySem.W.typeIn K (.ref a.C_NotValid) = some (.type "type")
  xk_NotValid : PySem.W.keepIn K (.ref a.C_NotValid) = true
  e1 : PySem.W.findIn K (.ref a.C_NotValid) "__getattribute__" = some (some (.builtin "BaseException.__getattribute__"))
  e2 : PySem.W.findIn K (.ref a.C_NotValid) "__getattr__" = some none
  e4 : PySem.W.hasDictIn K a.C_NotValid = true
  e5 : PySem.W.findIn K (.ref a.C_NotValid) "__class__" = some (some (.builtin "object.__class__"))
  e6 : PySem.W.specialIn K (.builtin "object.__class__") "__get__" = some (some (.builtin "getset_descriptor.__get__"))
  e7 : PySem.W.takesIn K (.builtin "object.__class__") = some true
  e8 : PySem.W.mroIn K a.C_NotValid (.type "object") = some true
  p1 : PySem.W.subIn K (.ref a.C_PageError) (.type "BaseException") = some true
  p2 : PySem.W.hasDictIn K a.C_PageError = true
  p3 : PySem.W.typeIn K (.ref a.C_PageError) = some (.type "type")
  p4 : PySem.W.subIn K (.ref a.C_NotValid) (.ref a.C_PageError) = some true
  q4 : PySem.W.kitOne K (.ref a.C_NotValid) (.ref a.C_NotValid) = some true
  ks_Sizes : PySem.W.subIn K (.ref a.C_Sizes) (.type "list") = some false
  ic_Sizes : PySem.W.findIn K (.ref a.C_Sizes) "__class__" = some (some (.builtin "object.__class__"))
  im_Sizes : PySem.W.mroIn K a.C_Sizes (.type "object") = some true
  x_NotValid : OexC K a.C_NotValid
  e_NotValid : ExcC K a.C_NotValid
  kl_Sizes : PySem.W.kitOne K (.ref a.C_Sizes) (.type "list") = some false
/-! ### the tape: what it holds does not matter, only that it holds few numbers from 0 to 999 -/
def Dig (ts : List Int) : Prop := ∀ t ∈ ts, 0 ≤ t ∧ t < 1000
theorem Dig.nil : Dig [] := fun _ h => absurd h List.not_mem_nil
theorem Dig.snoc {ts : List Int} {x : Int} (h : Dig ts) (h0 : 0 ≤ x) (h1 : x < 1000) : Dig (ts ++ [x]) := fun t ht => by
  rcases List.mem_append.mp ht with ht | ht
  · exact h t ht
  · rw [List.mem_singleton.mp ht]
    exact ⟨h0, h1⟩
def spTape (K : PySem.W.Frag) : Sp := fun vs H Q _ => ∃ (p : Addr) (ns : List Int), vs = [.ref p] ∧ SqL K H p (ns.map V.int) ∧ ns.length ≤ 63 ∧
  ∀ (H' : Hp) (t : Addr) (ts : List Int), Same H H' → H t = none → H' t = some (.lst (ts.map V.int)) → Dig ts → ts.length ≤ 3780 → Q (.ref t) H'
def spAt (K : PySem.W.Frag) : Sp := fun vs H Q _ => ∃ (t : Addr) (ts : List Int) (k : Int), vs = [.ref t, .int k] ∧ SqL K H t (ts.map V.int) ∧ 0 ≤ k ∧ Dig ts ∧ ∀ x : Int, 0 ≤ x → x < 1000 → Q (.int x) H
section
variable {P : Program} {w : World} {K : PySem.W.Frag} {mg : Str → Option Value} {base : Heap} {a : Ad}
theorem mod1000 (v : Int) : 0 ≤ v % 1000 ∧ v % 1000 < 1000 := ⟨Int.emod_nonneg _ (by decide), Int.emod_lt_of_pos _ (by decide)⟩
theorem snoc_int (ts : List Int) (x : Int) : ts.map V.int ++ [V.int x] = (ts ++ [x]).map V.int := by rw [List.map_append]; rfl
theorem ok__law_tape (T : Txt K mg a) : FnOk P w K mg base CX0 1 a.f__law_tape a.d__law_tape ["script"] (spTape K) := by
  refine T.F__law_tape.ok sc__law_tape (fun vs H Q E h => ?_) (fun cdv A outer s H vs Q E hr h => ?_)
  · obtain ⟨p, ns, rfl, _⟩ := h
    rfl
  · obtain ⟨sp, ns, rfl, hS, hlen, q⟩ := h
    refine ⟨_, (pss_cons (ps_set (i := 1) sc__law_tape.nd rfl (Or.inl rfl) (pe_lst pa_nil))
    (pss_cons (ps_for PassesOwn.never rfl (pi_range1 rfl T.b_range (pa_cons (pe_callB call_len_seq (by rfl) T.b_len (by decide +kernel) (pa_cons (pv 0) pa_nil)) pa_nil)) (pg_name (i := 2) sc__law_tape.nd rfl (Or.inl rfl))
    (pss_cons (ps_set (i := 3) sc__law_tape.nd rfl (Or.inl rfl) (pe_callB call_abs (by rfl) T.b_abs (by decide +kernel) (pa_cons (pe_callTy call_int1 (by rfl) T.b_int (by decide +kernel) (pa_cons (pe_ix ix_list (pv 0) (pv 2) (fun _ _ => rfl)) pa_nil)) pa_nil)))
    (pss_one (ps_if (pt_cmpR (op_ge) (pv 3) (pe_op op_pow pe_int pe_int) (nomark _)) (pss_one (ps_for PassesOwn.never rfl (pi_range1 rfl T.b_range (pa_cons pe_int pa_nil)) (pg_name (i := 4) sc__law_tape.nd rfl (Or.inl rfl))
    (pss_one (ps_if (pt_cmpR (op_gt) (pv 3) pe_int (nomark _)) (pss_cons (ps_expr (pe_bm PySem.F.plainAttrs_list PySem.F.slot_list_append PySem.F.type_list_append mt_append (pv 1) (pa_cons (pe_op op_mod (pv 3) pe_int) pa_nil)))
    (pss_one (ps_set (i := 3) sc__law_tape.nd rfl (Or.inl rfl) (pe_op op_fdiv (pv 3) pe_int)))) pss_nil)))) (pss_one (ps_for PassesOwn.never rfl (pi_range1 rfl T.b_range (pa_cons pe_int pa_nil)) (pg_name (i := 4) sc__law_tape.nd rfl (Or.inl rfl))
    (pss_cons (ps_set (i := 3) sc__law_tape.nd rfl (Or.inl rfl) (pe_op op_mod (pe_op op_add (pe_op op_add (pe_op op_mul (pv 3) pe_int) (pe_op op_mul pe_int (pe_op op_add (pv 2) pe_int))) (pe_op op_mul pe_int (pv 4))) pe_int))
    (pss_cons (ps_set (i := 3) sc__law_tape.nd rfl (Or.inl rfl) (pe_op op_mod (pe_op op_mul (pv 3) pe_int) pe_int))
    (pss_one (ps_expr (pe_bm PySem.F.plainAttrs_list PySem.F.slot_list_append PySem.F.type_list_append mt_append (pv 1) (pa_cons (pe_op op_mod (pe_op op_fdiv (pv 3) pe_int) pe_int) pa_nil))))))))))))
    (pss_one (ps_ret (pv 1))))), ?_⟩
    have len0 : ((List.length (ns.map V.int) : Nat) : Int) ≤ 63 := by rw [List.length_map]; omega
    refine ⟨Nat.zero_le _, fun p hp => ?_⟩
    refine ⟨_, rfl, sp, _, rfl, .inl ((Same.new hp).seq hS), _, rfl, by omega, by omega,
      for_range (lo := 0) (n := ((List.length (ns.map V.int) : Nat) : Int).toNat)
        (fun i σ H' => ∃ (x2 x3 x4 : Option V) (ts : List Int), σ = [some (.ref sp), some (.ref p), x2, x3, x4] ∧ Same H H' ∧ H' p = some (.lst (ts.map V.int)) ∧ Dig ts ∧ ts.length ≤ 60 * i)
        ⟨none, none, none, [], rfl, Same.new hp, upd_same, Dig.nil, Nat.le_refl _⟩ ?_ ?_⟩
    · rintro i σ H' hi ⟨x2, x3, x4, ts, rfl, eS, hL, dg, hl⟩
      rw [List.length_map] at hi
      have hi2 : i < ns.length := by omega
      refine ⟨_, rfl, _, rfl, _, _, _, .int ns[i], rfl, rfl, eS.seq hS, at_of (j := i) (by omega) (by rw [List.getElem?_map, List.getElem?_eq_getElem hi2]; rfl), ?_⟩
      refine .inl ⟨_, rfl, _, rfl, ?_⟩
      refine ⟨_, rfl, _, _, rfl, rfl, ⟨by decide, by decide, by decide⟩, _, _, rfl, rfl, _, rfl, ?_⟩
      refine ite2 (fun c => ?_) (fun c => ?_)
      · refine ⟨60, rfl, by decide, by decide, for_range (lo := 0) (n := (60 : Int).toNat)
          (fun j σ H' => ∃ (v : Int) (x4 : Option V) (ts : List Int), σ = [some (.ref sp), some (.ref p), some (.int (0 + (i : Int))), some (.int v), x4] ∧ Same H H' ∧ H' p = some (.lst (ts.map V.int)) ∧ Dig ts ∧ ts.length ≤ 60 * i + j)
          ⟨_, _, ts, rfl, eS, hL, dg, hl⟩ ?_ ?_⟩
        · rintro j σ H2 hj ⟨v, x4, ts, rfl, eS, hL, dg, hl⟩
          refine ⟨_, rfl, _, _, rfl, rfl, _, rfl, ?_⟩
          have hj2 : j < 60 := hj
          refine ite2 (fun c2 => ?_) (fun c2 => ?_)
          · obtain ⟨m0, m1⟩ := mod1000 v
            refine ⟨_, rfl, .inl ⟨rfl, _, SqL.of hL⟩, _, rfl, _, _, rfl, rfl, (by show (0 : Int) < 1000; decide), p, _, _, rfl, rfl, hL, ?_, ?_⟩
            · rw [List.length_map]
              exact Nat.lt_of_le_of_lt (by omega : ts.length ≤ 4000) (by decide)
            · refine ⟨_, rfl, _, _, rfl, rfl, ⟨by decide, by decide⟩, ?_⟩
              refine ⟨_, _, ts ++ [v % 1000], rfl, Same.put eS hp, ?_, dg.snoc m0 m1, ?_⟩
              · rw [upd_same, snoc_int]
              · rw [List.length_append, List.length_singleton]
                omega
          · exact ⟨v, _, ts, rfl, eS, hL, dg, by omega⟩
        · rintro σ H2 ⟨v, x4, ts, rfl, eS, hL, dg, hl⟩
          exact ⟨_, _, _, ts, rfl, eS, hL, dg, by simp at hl; omega⟩
      · refine ⟨4, rfl, by decide, by decide, for_range (lo := 0) (n := (4 : Int).toNat)
          (fun j σ H' => ∃ (v : Int) (x4 : Option V) (ts : List Int), σ = [some (.ref sp), some (.ref p), some (.int (0 + (i : Int))), some (.int v), x4] ∧ Same H H' ∧ H' p = some (.lst (ts.map V.int)) ∧ Dig ts ∧ ts.length ≤ 60 * i + j)
          ⟨_, _, ts, rfl, eS, hL, dg, hl⟩ ?_ ?_⟩
        · rintro j σ H2 hj ⟨v, x4, ts, rfl, eS, hL, dg, hl⟩
          have hj2 : j < 4 := hj
          refine ⟨_, rfl, _, _, rfl, rfl, .inr ⟨by decide, by decide⟩, _, rfl, _, _, rfl, rfl, _, _, rfl, rfl, .inl ⟨by decide, by decide⟩, _, _, rfl, rfl, _, rfl, _, _, rfl, rfl, .inl ⟨by decide, by decide⟩,
            _, _, rfl, rfl, _, _, rfl, rfl, (by show (0 : Int) < 2147483647; decide), ?_⟩
          refine ⟨_, rfl, _, _, rfl, rfl, .inr ⟨by decide, by decide⟩, _, _, rfl, rfl, (by show (0 : Int) < 2147483647; decide), ?_⟩
          refine ⟨_, rfl, .inl ⟨rfl, _, SqL.of hL⟩, _, rfl, _, _, rfl, rfl, ⟨by decide, by decide⟩, _, _, rfl, rfl, (by show (0 : Int) < 1000; decide), p, _, _, rfl, rfl, hL, ?_, ?_⟩
          · rw [List.length_map]
            exact Nat.lt_of_le_of_lt (by omega : ts.length ≤ 4000) (by decide)
          · refine ⟨_, _, ts ++ [((v * 48271 + 69621 * (0 + (i : Int) + 1) + 7 * (0 + (j : Int))) % 2147483647 * 16807 % 2147483647 / 1000) % 1000], rfl, Same.put eS hp, ?_, dg.snoc (mod1000 _).1 (mod1000 _).2, ?_⟩
            · rw [upd_same, snoc_int]
            · rw [List.length_append, List.length_singleton]
              omega
        · rintro σ H2 ⟨v, x4, ts, rfl, eS, hL, dg, hl⟩
          exact ⟨_, _, _, ts, rfl, eS, hL, dg, by simp at hl; omega⟩
    · rintro σ H' ⟨x2, x3, x4, ts, rfl, eS, hL, dg, hl⟩
      refine ⟨_, rfl, q H' p ts eS hp hL dg ?_⟩
      omega
theorem ok__law_at (T : Txt K mg a) : FnOk P w K mg base CX0 1 a.f__law_at a.d__law_at ["tape", "k"] (spAt K) := by
  refine T.F__law_at.ok sc__law_at (fun vs H Q E h => ?_) (fun cdv A outer s H vs Q E hr h => ?_)
  · obtain ⟨t, ts, k, rfl, _⟩ := h
    rfl
  · obtain ⟨t, ts, k, rfl, hS, hk, dg, q⟩ := h
    refine ⟨_, (pss_cons (ps_if (pt_cmpR (op_lt) (pv 1) (pe_callB call_len_seq (by rfl) T.b_len (by decide +kernel) (pa_cons (pv 0) pa_nil)) (nomark _)) (pss_one (ps_ret (pe_ix ix_list (pv 0) (pv 1) (fun _ _ => rfl)))) pss_nil)
    (pss_one (ps_ret pe_int))), ?_⟩
    refine ⟨_, rfl, _, rfl, t, _, rfl, .inl hS, _, _, rfl, rfl, _, rfl, ?_⟩
    refine ite2 (fun c => ?_) (fun c => ?_)
    · have hk2 : k.toNat < ts.length := by
        rw [List.length_map] at c
        have c2 := of_decide_eq_true c
        omega
      obtain ⟨h0, h1⟩ := dg ts[k.toNat] (List.getElem_mem _)
      refine ⟨_, rfl, _, rfl, t, _, _, .int ts[k.toNat], rfl, rfl, hS, at_of (j := k.toNat) (by omega) (by rw [List.getElem?_map, List.getElem?_eq_getElem hk2]; rfl), q _ h0 h1⟩
    · exact q 0 (by decide) (by decide)
end

section
variable {P : Program} {w : World} {K : PySem.W.Frag} {mg : Str → Option Value} {base : Heap} {a : Ad}
theorem ok_is_whole (T : Txt K mg a) : FnOk P w K mg base CX0 1 a.f_is_whole a.d_is_whole ["value"] (spWhole K) := by
  refine T.F_is_whole.ok sc_is_whole (fun vs H Q E h => ?_) (fun cdv A outer s H vs Q E hr h => ?_)
  · obtain ⟨v, d, rfl, _⟩ := h
    rfl
  · obtain ⟨v, d, rfl, hd, q⟩ := h
    refine ⟨_, (pss_one (ps_ret (pe_and (pe_callB call_isi (by rfl) T.b_isinstance (by decide +kernel) (pa_cons (pv 0) (pa_cons (pe_bltn (v := .ty "int") rfl T.b_int (by decide +kernel) rfl) pa_nil))) (pe_one (pe_not (pe_callB call_isi (by rfl) T.b_isinstance (by decide +kernel) (pa_cons (pv 0) (pa_cons (pe_bltn (v := .ty "bool") rfl T.b_bool (by decide +kernel) rfl) pa_nil)))))))), ?_⟩
    have ty := tyx hd
    refine ⟨_, rfl, _, _, _, _, _, rfl, .ty _, ty, kit_int d, _, rfl, ?_⟩
    cases d with
    | int i => exact iteT ⟨_, rfl, _, _, _, _, _, rfl, .ty _, ty, kit_bool _, _, rfl, q⟩
    | bool b => exact iteT ⟨_, rfl, _, _, _, _, _, rfl, .ty _, ty, kit_bool _, _, rfl, q⟩
    | none => exact iteF q
    | str x => exact iteF q
    | list xs => exact iteF q
    | tuple xs => exact iteF q
    | dict xs => exact iteF q
theorem ok_is_number_below (T : Txt K mg a) : FnOk P w K mg base CX0 2 a.f_is_number_below a.d_is_number_below ["value", "many"] (spBelow K) := by
  refine T.F_is_number_below.ok sc_is_number_below (fun vs H Q E h => ?_) (fun cdv A outer s H vs Q E hr h => ?_)
  · obtain ⟨v, d, n, rfl, _⟩ := h
    rfl
  · obtain ⟨v, d, n, rfl, hd, q⟩ := h
    refine ⟨_, (pss_one (ps_ret (pe_and (pe_call (ok_is_whole T) (hr.mono (by decide)) rfl T.m_is_whole T.F_is_whole.kp T.B_is_whole .nil pass0 (pa_cons (pv 0) pa_nil)) (pe_one (pe_chain (op_le) (op_lt) pe_int (pv 0) (pv 1)))))), ?_⟩
    refine ⟨_, rfl, _, d, rfl, hd, _, rfl, ?_⟩
    cases d with
    | int i =>
      cases hd
      refine iteT ⟨_, rfl, _, _, rfl, rfl, _, rfl, ?_⟩
      refine ite2 (fun c => ?_) (fun c => ?_)
      · refine ⟨_, rfl, _, _, rfl, rfl, ?_⟩
        have e : belowD (.int i) n = decide (i < n) := by simp only [belowD, c, Bool.true_and]
        rw [e] at q
        exact q
      · have e : belowD (.int i) n = false := by simp only [belowD, Bool.eq_false_iff.mpr c, Bool.false_and]
        rw [e] at q
        exact q
    | bool b => exact iteF q
    | none => exact iteF q
    | str x => exact iteF q
    | list xs => exact iteF q
    | tuple xs => exact iteF q
    | dict xs => exact iteF q

theorem ok_PageError_init (T : Txt K mg a) : FnOk P w K mg base CX0 1 a.f_PageError_init a.d_PageError_init ["self"] (spNop K) := by
  refine T.F_PageError_init.ok sc_PageError_init (fun vs H Q E h => ?_) (fun cdv A outer s H vs Q E hr h => ?_)
  · obtain ⟨x, C, rfl, _⟩ := h
    rfl
  · obtain ⟨x, C, rfl, hC, hx, q⟩ := h
    refine ⟨_, (pss_one (ps_expr (pe_veinit rfl T.b_ValueError T.vV (pa_cons (pv 0) pa_nil)))), ?_⟩
    exact ⟨_, rfl, x, C, [], rfl, Nat.zero_le _, hC, hx, q⟩

theorem ok_is_between (T : Txt K mg a) : FnOk P w K mg base CX0 2 a.f_is_between a.d_is_between ["value", "least", "most"] (spBetween) := by
  refine T.F_is_between.ok sc_is_between (fun vs H Q E h => ?_) (fun cdv A outer s H vs Q E hr h => ?_)
  · obtain ⟨v, l, m, rfl, _⟩ := h
    rfl
  · obtain ⟨v, l, m, rfl, q⟩ := h
    refine ⟨_, (pss_one (ps_ret (pe_and (pe_call (ok_is_whole T) (hr.mono (by decide)) rfl T.m_is_whole T.F_is_whole.kp T.B_is_whole .nil pass0 (pa_cons (pv 0) pa_nil)) (pe_one (pe_chain (op_le) (op_le) (pv 1) (pv 0) (pv 2)))))), ?_⟩
    refine ⟨_, rfl, _, .int v, rfl, .int v, _, rfl, iteT ⟨_, rfl, _, rfl, _, _, rfl, rfl, _, rfl, ?_⟩⟩
    refine ite2 (fun c => ?_) (fun c => ?_)
    · refine ⟨_, rfl, _, _, rfl, rfl, ?_⟩
      rw [c, Bool.true_and] at q
      exact q
    · rw [Bool.eq_false_iff.mpr c, Bool.false_and] at q
      exact q
theorem ok_Sizes_init (T : Txt K mg a) : FnOk P w K mg base (L2.CX P w) 4 a.f_Sizes_init a.d_Sizes_init ["self", "processors", "frames", "blocks"] (spSizesInit a.C_Sizes a.C_NotValid) := by
  refine T.F_Sizes_init.okX sc_Sizes_init (fun vs H Q E h => ?_) (fun cdv A outer s H vs Q E hr h => ?_)
  · obtain ⟨z, dx, p, f, b, rfl, _⟩ := h
    rfl
  · obtain ⟨z, dx, p, f, b, rfl, hz, yes, no⟩ := h
    refine ⟨_, (pss_cons (ps_if (PW.pt (pw_or (pt_not (pt_val (pe_call (ok_is_between T) (hr.mono (by decide)) rfl T.m_is_between T.F_is_between.kp T.B_is_between .nil pass0 (pa_cons (pv 1) (pa_cons pe_int (pa_cons pe_int pa_nil)))))) (pw_or (pt_not (pt_val (pe_call (ok_is_between T) (hr.mono (by decide)) rfl T.m_is_between T.F_is_between.kp T.B_is_between .nil pass0 (pa_cons (pv 2) (pa_cons pe_int (pa_cons pe_int pa_nil)))))) (pw_or1 (pt_not (pt_val (pe_call (ok_is_between T) (hr.mono (by decide)) rfl T.m_is_between T.F_is_between.kp T.B_is_between .nil pass0 (pa_cons (pv 3) (pa_cons pe_int (pa_cons pe_int pa_nil)))))))))) (pss_one (ps_raise rfl (takes_of rfl rfl rfl rfl) (mk_exc0 T.x_NotValid T.xi_NotValid T.xt_NotValid (ok_PageError_init T) (hr.mono (by decide)) T.B_PageError_init pass0 rfl T.m_NotValid))) pss_nil)
    (pss_cons (ps_fld (pv 0) (pv 1) rfl)
    (pss_cons (ps_fld (pv 0) (pv 2) rfl)
    (pss_cons (ps_fld (pv 0) (pv 3) rfl)
    (pss_cons (ps_fld (pv 0) pe_int rfl)
    (pss_cons (ps_fld (pv 0) (pe_op op_add (pe_fld (pv 0) rfl) (pv 1)) rfl)
    (pss_cons (ps_fld (pv 0) (pe_op op_add (pe_fld (pv 0) rfl) (pe_op op_mul (pe_con rfl T.k_SPACES) (pe_con rfl T.k_PAGES))) rfl)
    (pss_cons (ps_fld (pv 0) (pe_op op_add (pe_fld (pv 0) rfl) (pe_op op_mul (pe_con rfl T.k_CELLS) (pv 2))) rfl)
    (pss_one (ps_fld (pv 0) (pe_op op_add (pe_fld (pv 0) rfl) (pv 3)) rfl)))))))))), ?_⟩
    have bad : okSz p f b = false → ∀ x : Addr, H x = none → E (.ref a.C_NotValid) none (del (upd H x (exo x a.C_NotValid none)) x) := fun k x hx => no k _ fun b2 o h2 => by
      have ne := ne_of_none h2 hx
      rw [del_ne ne, upd_ne ne]
      exact h2
    refine ⟨_, rfl, _, _, _, rfl, ?_⟩
    cases e1 : (decide (1 ≤ p) && decide (p ≤ 3)) with
    | false => exact ⟨_, rfl, iteT (iteT fun x hx => ⟨x, a.C_NotValid, rfl, T.x_NotValid, upd_same, rfl, upd_same, bad (by unfold okSz; rw [e1]; rfl) x hx⟩)⟩
    | true =>
    refine ⟨_, rfl, iteF ⟨_, rfl, _, _, _, rfl, ?_⟩⟩
    cases e2 : (decide (2 ≤ f) && decide (f ≤ 12)) with
    | false => exact ⟨_, rfl, iteT (iteT fun x hx => ⟨x, a.C_NotValid, rfl, T.x_NotValid, upd_same, rfl, upd_same, bad (by unfold okSz; rw [e1, e2]; rfl) x hx⟩)⟩
    | true =>
    refine ⟨_, rfl, iteF ⟨_, rfl, _, _, _, rfl, ?_⟩⟩
    cases e3 : (decide (0 ≤ b) && decide (b ≤ 12)) with
    | false => exact ⟨_, rfl, iteT fun x hx => ⟨x, a.C_NotValid, rfl, T.x_NotValid, upd_same, rfl, upd_same, bad (by unfold okSz; rw [e1, e2, e3]; rfl) x hx⟩⟩
    | true =>
      have k : okSz p f b = true := by unfold okSz; rw [e1, e2, e3]; rfl
      refine ⟨_, rfl, iteF ?_⟩
      have s0 : SameBut z H H := fun _ _ _ h => h
      refine ⟨_, rfl, _, rfl, z, a.C_Sizes, dx, _, rfl, hz, T.c_Sizes, T.n_Sizes_processors, (by show 0 < 1000; decide), ?_⟩
      have s1 := s0.own (o := .ins a.C_Sizes dx [("processors", .int p)])
      refine ⟨_, rfl, _, rfl, z, a.C_Sizes, dx, _, rfl, upd_same, T.c_Sizes, T.n_Sizes_frames, (by show 1 < 1000; decide), ?_⟩
      have s2 := s1.own (o := .ins a.C_Sizes dx [("processors", .int p), ("frames", .int f)])
      refine ⟨_, rfl, _, rfl, z, a.C_Sizes, dx, _, rfl, upd_same, T.c_Sizes, T.n_Sizes_blocks, (by show 2 < 1000; decide), ?_⟩
      have s3 := s2.own (o := .ins a.C_Sizes dx [("processors", .int p), ("frames", .int f), ("blocks", .int b)])
      refine ⟨_, rfl, z, a.C_Sizes, dx, _, rfl, upd_same, T.c_Sizes, T.n_Sizes__acknowledges, (by show 3 < 1000; decide), ?_⟩
      have s4 := s3.own (o := .ins a.C_Sizes dx ((szF p f b).take 4))
      refine ⟨_, rfl, z, a.C_Sizes, dx, _, _, rfl, upd_same, T.c_Sizes, T.n_Sizes__acknowledges, rfl, _, rfl, _, _, rfl, rfl, _, rfl, z, a.C_Sizes, dx, _, rfl, upd_same, T.c_Sizes, T.n_Sizes__words, (by show 4 < 1000; decide), ?_⟩
      have s5 := s4.own (o := .ins a.C_Sizes dx ((szF p f b).take 5))
      refine ⟨_, rfl, z, a.C_Sizes, dx, _, _, rfl, upd_same, T.c_Sizes, T.n_Sizes__words, rfl, _, _, rfl, rfl, .inl ⟨by decide, by decide⟩, _, _, rfl, rfl, _, rfl, z, a.C_Sizes, dx, _, rfl, upd_same, T.c_Sizes, T.n_Sizes__frame_cells, (by show 5 < 1000; decide), ?_⟩
      have s6 := s5.own (o := .ins a.C_Sizes dx ((szF p f b).take 6))
      refine ⟨_, rfl, z, a.C_Sizes, dx, _, _, rfl, upd_same, T.c_Sizes, T.n_Sizes__frame_cells, rfl, _, rfl, _, _, rfl, rfl, .inl ⟨by decide, by decide⟩, _, _, rfl, rfl, _, rfl, z, a.C_Sizes, dx, _, rfl, upd_same, T.c_Sizes, T.n_Sizes__swap_blocks, (by show 6 < 1000; decide), ?_⟩
      have s7 := s6.own (o := .ins a.C_Sizes dx ((szF p f b).take 7))
      refine ⟨_, rfl, z, a.C_Sizes, dx, _, _, rfl, upd_same, T.c_Sizes, T.n_Sizes__swap_blocks, rfl, _, rfl, _, _, rfl, rfl, _, rfl, z, a.C_Sizes, dx, _, rfl, upd_same, T.c_Sizes, T.n_Sizes__file_blocks, (by show 7 < 1000; decide), ?_⟩
      exact yes k _ (s7.own (o := .ins a.C_Sizes dx (szF p f b))) upd_same

theorem ok_Buffer_init (T : Txt K mg a) : FnOk P w K mg base CX0 1 a.f_Buffer_init a.d_Buffer_init ["self"] (spBufInit a.C_Buffer) := by
  refine T.F_Buffer_init.ok sc_Buffer_init (fun vs H Q E h => ?_) (fun cdv A outer s H vs Q E hr h => ?_)
  · obtain ⟨x, dx, rfl, _⟩ := h
    rfl
  · obtain ⟨x, dx, rfl, hx, q⟩ := h
    refine ⟨_, (pss_one (ps_fld (pv 0) (pe_lst pa_nil) rfl)), ?_⟩
    refine ⟨Nat.zero_le _, fun l hl => ⟨_, rfl, x, a.C_Buffer, dx, [], rfl, (upd_ne (ne_of_none hx hl)).trans hx, T.c_Buffer, T.n_Buffer__entries, (by show 0 < 1000; decide), ?_⟩⟩
    have nlx : l ≠ x := (ne_of_none hx hl).symm
    exact q _ l (fun y o ny hy => (upd_ne ny).trans ((Same.new hl) _ _ hy)) hl ⟨upd_same, (upd_ne nlx).trans upd_same⟩
theorem ok_Buffer_entries (T : Txt K mg a) : FnOk P w K mg base CX0 1 a.f_Buffer_entries a.d_Buffer_entries ["self"] (spEntries a.C_Buffer) := by
  refine T.F_Buffer_entries.ok sc_Buffer_entries (fun vs H Q E h => ?_) (fun cdv A outer s H vs Q E hr h => ?_)
  · obtain ⟨b, dx, l, zs, rfl, _⟩ := h
    rfl
  · obtain ⟨b, dx, l, zs, rfl, hB, q⟩ := h
    refine ⟨_, (pss_one (ps_ret (pe_callTy call_list_of (by rfl) T.b_list (by decide +kernel) (pa_cons (pe_fld (pv 0) rfl) pa_nil)))), ?_⟩
    exact ⟨_, rfl, b, a.C_Buffer, dx, _, _, rfl, hB.ins, T.c_Buffer, T.n_Buffer__entries, rfl, l, zs, rfl, .inl (SqL.of hB.lst), q⟩
theorem ok_Box_init (T : Txt K mg a) : FnOk P w K mg base CX0 1 a.f_Box_init a.d_Box_init ["self"] (spBoxInit a.C_Box) := by
  refine T.F_Box_init.ok sc_Box_init (fun vs H Q E h => ?_) (fun cdv A outer s H vs Q E hr h => ?_)
  · obtain ⟨x, dx, rfl, _⟩ := h
    rfl
  · obtain ⟨x, dx, rfl, hx, q⟩ := h
    refine ⟨_, (pss_one (ps_fld (pv 0) (pe_lst pa_nil) rfl)), ?_⟩
    refine ⟨Nat.zero_le _, fun l hl => ⟨_, rfl, x, a.C_Box, dx, [], rfl, (upd_ne (ne_of_none hx hl)).trans hx, T.c_Box, T.n_Box__letters, (by show 0 < 1000; decide), ?_⟩⟩
    have nlx : l ≠ x := (ne_of_none hx hl).symm
    exact q _ l (fun y o ny hy => (upd_ne ny).trans ((Same.new hl) _ _ hy)) hl ⟨upd_same, (upd_ne nlx).trans upd_same⟩
theorem ok_Box_letters (T : Txt K mg a) : FnOk P w K mg base CX0 1 a.f_Box_letters a.d_Box_letters ["self"] (spLetters a.C_Box) := by
  refine T.F_Box_letters.ok sc_Box_letters (fun vs H Q E h => ?_) (fun cdv A outer s H vs Q E hr h => ?_)
  · obtain ⟨b, dx, l, zs, rfl, _⟩ := h
    rfl
  · obtain ⟨b, dx, l, zs, rfl, hB, q⟩ := h
    refine ⟨_, (pss_one (ps_ret (pe_callTy call_list_of (by rfl) T.b_list (by decide +kernel) (pa_cons (pe_fld (pv 0) rfl) pa_nil)))), ?_⟩
    exact ⟨_, rfl, b, a.C_Box, dx, _, _, rfl, hB.ins, T.c_Box, T.n_Box__letters, rfl, l, zs, rfl, .inl (SqL.of hB.lst), q⟩
theorem ok_Sizes_cells (T : Txt K mg a) : FnOk P w K mg base CX0 1 a.f_Sizes_cells a.d_Sizes_cells ["self"] (spCells a.C_Sizes) := by
  refine T.F_Sizes_cells.ok sc_Sizes_cells (fun vs H Q E h => ?_) (fun cdv A outer s H vs Q E hr h => ?_)
  · obtain ⟨z, dx, p, f, b, rfl, _⟩ := h
    rfl
  · obtain ⟨z, dx, p, f, b, rfl, hz, q⟩ := h
    refine ⟨_, (pss_one (ps_ret (pe_op op_add (pe_fld (pv 0) rfl) (pe_op op_mul (pe_con rfl T.k_FILES) (pe_con rfl T.k_FILE_PAGES))))), ?_⟩
    exact ⟨_, rfl, z, _, dx, _, _, rfl, hz, T.c_Sizes, T.n_Sizes__file_blocks, rfl, _, _, rfl, rfl, .inl ⟨by decide, by decide⟩, _, _, rfl, rfl, q⟩
theorem ok_first_values (T : Txt K mg a) : FnOk P w K mg base CX0 1 a.f_first_values a.d_first_values ["sizes"] (spFirst a.C_Sizes) := by
  refine T.F_first_values.ok sc_first_values (fun vs H Q E h => ?_) (fun cdv A outer s H vs Q E hr h => ?_)
  · obtain ⟨z, dx, p, f, b, rfl, _⟩ := h
    rfl
  · obtain ⟨z, dx, p, f, b, rfl, hz, okS, q⟩ := h
    refine ⟨_, (pss_cons (ps_set (i := 1) sc_first_values.nd rfl (Or.inl rfl) (pe_op op_rep (pe_lst (pa_cons pe_int pa_nil)) (pe_op op_add pe_int (pe_fld (pv 0) rfl))))
    (pss_cons (ps_set (i := 2) sc_first_values.nd rfl (Or.inl rfl) (pe_op op_rep (pe_lst (pa_cons pe_non pa_nil)) (pe_op op_mul (pe_con rfl T.k_SPACES) (pe_con rfl T.k_PAGES))))
    (pss_cons (ps_set (i := 3) sc_first_values.nd rfl (Or.inl rfl) (pe_op op_rep (pe_lst (pa_cons pe_int pa_nil)) (pe_op op_mul (pe_con rfl T.k_CELLS) (pe_fld (pv 0) rfl))))
    (pss_cons (ps_set (i := 4) sc_first_values.nd rfl (Or.inl rfl) (pe_op op_rep (pe_lst (pa_cons (pe_tup (pa_cons pe_int (pa_cons pe_int pa_nil))) pa_nil)) (pe_op op_add (pe_fld (pv 0) rfl) (pe_op op_mul (pe_con rfl T.k_FILES) (pe_con rfl T.k_FILE_PAGES)))))
    (pss_one (ps_ret (pe_op op_cat (pe_op op_cat (pe_op op_cat (pv 1) (pv 2)) (pv 3)) (pv 4)))))))), ?_⟩
    obtain ⟨⟨p0, p1⟩, ⟨f0, f1⟩, ⟨b0, b1⟩⟩ := okSz_at okS
    have small : ∀ n : Nat, n ≤ 1000 → n ≤ sizeLine := fun n h => Nat.le_trans h (by decide)
    refine ⟨(by show 1 ≤ sizeLine; decide), fun l1 h1 => ?_⟩
    have e1 := Same.new (o := .lst [.int 0]) h1
    refine ⟨_, rfl, z, _, dx, _, _, rfl, e1 _ _ hz, T.c_Sizes, T.n_Sizes_processors, rfl, _, _, rfl, rfl, l1, _, _, rfl, rfl, upd_same, by omega, by omega, small _ (by simp; omega), fun l2 h2 => ?_⟩
    have hz2 := (Same.new (o := .lst (List.replicate (1 + p).toNat [V.int 0]).flatten) h2) _ _ (e1 _ _ hz)
    have hl2 : upd (upd H l1 (.lst [.int 0])) l2 (.lst (List.replicate (1 + p).toNat [V.int 0]).flatten) l2 = some (.lst (List.replicate (1 + p).toNat (V.int 0))) := by rw [upd_same, List.flatten_replicate_singleton]
    have s2 := e1.trans (Same.new (o := .lst (List.replicate (1 + p).toNat [V.int 0]).flatten) h2)
    generalize upd (upd H l1 (.lst [.int 0])) l2 (.lst (List.replicate (1 + p).toNat [V.int 0]).flatten) = H2 at hz2 hl2 s2 ⊢
    refine ⟨(by show 1 ≤ sizeLine; decide), fun l3 h3 => ?_⟩
    have e3 := Same.new (o := .lst [.non]) h3
    refine ⟨_, _, rfl, rfl, .inl ⟨by decide, by decide⟩, l3, _, _, rfl, rfl, upd_same, by decide, by decide, small _ (by simp), fun l4 h4 => ?_⟩
    have e4 := Same.new (o := .lst (List.replicate (4 * 8 : Int).toNat [V.non]).flatten) h4
    have hl4 : upd (upd H2 l3 (.lst [.non])) l4 (.lst (List.replicate (4 * 8 : Int).toNat [V.non]).flatten) l4 = some (.lst (List.replicate 32 V.non)) := by rw [upd_same, List.flatten_replicate_singleton]; rfl
    have s4 := s2.trans (e3.trans e4)
    have hz4 := (e3.trans e4) _ _ hz2
    have hl24 := (e3.trans e4) _ _ hl2
    generalize upd (upd H2 l3 (.lst [.non])) l4 (.lst (List.replicate (4 * 8 : Int).toNat [V.non]).flatten) = H4 at s4 hz4 hl4 hl24 ⊢
    refine ⟨(by show 1 ≤ sizeLine; decide), fun l5 h5 => ?_⟩
    have e5 := Same.new (o := .lst [.int 0]) h5
    refine ⟨_, rfl, z, _, dx, _, _, rfl, e5 _ _ hz4, T.c_Sizes, T.n_Sizes_frames, rfl, _, _, rfl, rfl, .inl ⟨by decide, by decide⟩, l5, _, _, rfl, rfl, upd_same, by omega, by omega, small _ (by simp; omega), fun l6 h6 => ?_⟩
    have e6 := Same.new (o := .lst (List.replicate (2 * f).toNat [V.int 0]).flatten) h6
    have hl6 : upd (upd H4 l5 (.lst [.int 0])) l6 (.lst (List.replicate (2 * f).toNat [V.int 0]).flatten) l6 = some (.lst (List.replicate (2 * f).toNat (V.int 0))) := by rw [upd_same, List.flatten_replicate_singleton]
    have s6 := s4.trans (e5.trans e6)
    have hz6 := (e5.trans e6) _ _ hz4
    have hl26 := (e5.trans e6) _ _ hl24
    have hl46 := (e5.trans e6) _ _ hl4
    generalize upd (upd H4 l5 (.lst [.int 0])) l6 (.lst (List.replicate (2 * f).toNat [V.int 0]).flatten) = H6 at s6 hz6 hl6 hl26 hl46 ⊢
    refine ⟨(by show 2 ≤ sizeLine; decide), fun t ht => ⟨(by show 1 ≤ sizeLine; decide), fun l7 h7 => ?_⟩⟩
    have e7 := (Same.new (o := .tup [.int 0, .int 0]) ht).trans (Same.new (o := .lst [.ref t]) h7)
    have ht7 : upd (upd H6 t (.tup [.int 0, .int 0])) l7 (.lst [.ref t]) t = some (.tup [.int 0, .int 0]) := (Same.new h7) _ _ upd_same
    refine ⟨_, rfl, z, _, dx, _, _, rfl, e7 _ _ hz6, T.c_Sizes, T.n_Sizes_blocks, rfl, _, _, rfl, rfl, .inl ⟨by decide, by decide⟩, _, _, rfl, rfl, l7, _, _, rfl, rfl, upd_same, by omega, by omega, small _ (by simp; omega), fun l8 h8 => ?_⟩
    have e8 := Same.new (o := .lst (List.replicate (b + 2 * 4).toNat [V.ref t]).flatten) h8
    have hl8 : upd (upd (upd H6 t (.tup [.int 0, .int 0])) l7 (.lst [.ref t])) l8 (.lst (List.replicate (b + 2 * 4).toNat [V.ref t]).flatten) l8 = some (.lst (List.replicate (b + 8).toNat (V.ref t))) := by rw [upd_same, List.flatten_replicate_singleton]; rfl
    have s8 := s6.trans (e7.trans e8)
    have hl28 := (e7.trans e8) _ _ hl26
    have hl48 := (e7.trans e8) _ _ hl46
    have hl68 := (e7.trans e8) _ _ hl6
    have ht8 := e8 _ _ ht7
    generalize upd (upd (upd H6 t (.tup [.int 0, .int 0])) l7 (.lst [.ref t])) l8 (.lst (List.replicate (b + 2 * 4).toNat [V.ref t]).flatten) = H8 at s8 hl8 hl28 hl48 hl68 ht8 ⊢
    refine ⟨_, rfl, _, rfl, l2, l4, _, _, rfl, rfl, hl28, hl48, small _ (by simp; omega), fun l9 h9 => ?_⟩
    have e9 := Same.new (o := .lst (List.replicate (1 + p).toNat (V.int 0) ++ List.replicate 32 V.non)) h9
    refine ⟨_, rfl, l9, l6, _, _, rfl, rfl, upd_same, e9 _ _ hl68, small _ (by simp; omega), fun l10 h10 => ?_⟩
    have e10 := Same.new (o := .lst (List.replicate (1 + p).toNat (V.int 0) ++ List.replicate 32 V.non ++ List.replicate (2 * f).toNat (V.int 0))) h10
    refine ⟨_, rfl, l10, l8, _, _, rfl, rfl, upd_same, e10 _ _ (e9 _ _ hl8), small _ (by simp; omega), fun l11 h11 => ?_⟩
    have e11 := Same.new (o := .lst (firstV p f b t)) h11
    exact q _ t l11 ((s8.trans e9).trans (e10.trans e11)) ((s8.trans (e9.trans e10)).free h11) (e11 _ _ (e10 _ _ (e9 _ _ ht8))) upd_same
theorem ok_Memory_peek (T : Txt K mg a) : FnOk P w K mg base (L2.CX P w) 4 a.f_Memory_peek a.d_Memory_peek ["self", "cell"] (spPeek K ⟨a.C_Memory, a.C_Sizes, a.C_Buffer, a.C_Box⟩ a.C_NotValid) := by
  refine T.F_Memory_peek.okX sc_Memory_peek (fun vs H Q E h => ?_) (fun cdv A outer s H vs Q E hr h => ?_)
  · obtain ⟨x, st, c, rfl, _⟩ := h
    rfl
  · obtain ⟨x, st, c, rfl, hM, yes, no⟩ := h
    refine ⟨_, (pss_cons (ps_if (pt_not (pt_val (pe_call (ok_is_number_below T) (hr.mono (by decide)) rfl T.m_is_number_below T.F_is_number_below.kp T.B_is_number_below .nil pass0 (pa_cons (pv 1) (pa_cons (pe_meth0 (pe_fld (pv 0) rfl) T.c_Sizes T.M_Sizes_cells (ok_Sizes_cells T) (hr.mono (by decide)) T.B_Sizes_cells .nil pass0) pa_nil))))) (pss_one (ps_raise rfl (takes_of rfl rfl rfl rfl) (mk_exc0 T.x_NotValid T.xi_NotValid T.xt_NotValid (ok_PageError_init T) (hr.mono (by decide)) T.B_PageError_init pass0 rfl T.m_NotValid))) pss_nil)
    (pss_one (ps_ret (pe_ix ix_list (pe_fld (pv 0) rfl) (pv 1) (fun _ _ => rfl))))), ?_⟩
    obtain ⟨vs, hc, hd⟩ := hM.cells
    refine ⟨_, rfl, _, rfl, x.m, _, x.dx, _, _, rfl, hM.ins, T.c_Memory, T.n_Memory_sizes, rfl, x.z, x.dz, _, rfl, hM.sz, rfl, x.z, x.dz, x.p, x.f, x.b, rfl, hM.sz, _, .int c, _, rfl, .int c, _, rfl, ?_⟩
    by_cases k : 0 ≤ c ∧ c < cellsN x.p x.f x.b
    · have e : belowD (.int c) (cellsN x.p x.f x.b) = true := by simp only [belowD, decide_eq_true k.1, decide_eq_true k.2, Bool.and_self]
      rw [e]
      obtain ⟨j, ej⟩ : ∃ j : Nat, c = (j : Int) := ⟨c.toNat, by omega⟩
      subst ej
      have lc := hM.lenC
      have lv := dpAll_len hd
      have hj : j < vs.length := by omega
      obtain ⟨d, h1, h2⟩ := dpAll_get hd (List.getElem?_eq_getElem hj)
      exact iteF ⟨_, rfl, x.m, _, x.dx, _, _, rfl, hM.ins, T.c_Memory, T.n_Memory__cells, rfl, _, rfl, x.cl, _, _, _, rfl, rfl, SqL.of hc, at_nat (List.getElem?_eq_getElem hj), yes j rfl _ d h1 h2⟩
    · have e : belowD (.int c) (cellsN x.p x.f x.b) = false := by
        simp only [belowD, Bool.and_eq_false_iff, decide_eq_false_iff_not]
        by_cases z : 0 ≤ c
        · exact .inr fun k2 => k ⟨z, k2⟩
        · exact .inl z
      rw [e]
      refine iteT fun y hy => ⟨y, a.C_NotValid, rfl, T.x_NotValid, upd_same, rfl, upd_same, ?_⟩
      refine no k _ fun b2 u h2 => ?_
      have ne := ne_of_none h2 hy
      rw [del_ne ne, upd_ne ne]
      exact h2

theorem ok_Memory_log (T : Txt K mg a) : FnOk P w K mg base CX0 1 a.f_Memory_log a.d_Memory_log ["self"] (spLog K ⟨a.C_Memory, a.C_Sizes, a.C_Buffer, a.C_Box⟩) := by
  refine T.F_Memory_log.ok sc_Memory_log (fun vs H Q E h => ?_) (fun cdv A outer s H vs Q E hr h => ?_)
  · obtain ⟨x, st, rfl, _⟩ := h
    rfl
  · obtain ⟨x, st, rfl, hM, q⟩ := h
    refine ⟨_, (pss_one (ps_ret (pe_callTy call_list_of (by rfl) T.b_list (by decide +kernel) (pa_cons (pe_fld (pv 0) rfl) pa_nil)))), ?_⟩
    obtain ⟨vs, hl, hd⟩ := hM.log
    exact ⟨_, rfl, x.m, _, x.dx, _, _, rfl, hM.ins, T.c_Memory, T.n_Memory__log, rfl, x.lg, vs, rfl, .inl (SqL.of hl), fun p hp => q vs p hp hd⟩

theorem ok_Sizes_lock (T : Txt K mg a) : FnOk P w K mg base CX0 1 a.f_Sizes_lock a.d_Sizes_lock ["self"] (spLock a.C_Sizes) := by
  refine T.F_Sizes_lock.ok sc_Sizes_lock (fun vs H Q E h => ?_) (fun cdv A outer s H vs Q E hr h => ?_)
  · obtain ⟨z, dx, p, f, b, rfl, _⟩ := h
    rfl
  · obtain ⟨z, dx, p, f, b, rfl, hz, q⟩ := h
    exact ⟨_, (pss_one (ps_ret pe_int)), q⟩

theorem ok_Sizes_acknowledge (T : Txt K mg a) : FnOk P w K mg base CX0 1 a.f_Sizes_acknowledge a.d_Sizes_acknowledge ["self", "processor"] (spAck a.C_Sizes) := by
  refine T.F_Sizes_acknowledge.ok sc_Sizes_acknowledge (fun vs H Q E h => ?_) (fun cdv A outer s H vs Q E hr h => ?_)
  · obtain ⟨z, dx, p, f, b, i, rfl, _⟩ := h
    rfl
  · obtain ⟨z, dx, p, f, b, i, rfl, hz, q⟩ := h
    exact ⟨_, (pss_one (ps_ret (pe_op op_add (pe_fld (pv 0) rfl) (pv 1)))), _, rfl, z, _, dx, _, _, rfl, hz, T.c_Sizes, T.n_Sizes__acknowledges, rfl, _, rfl, _, _, rfl, rfl, q⟩
theorem ok_Sizes_word (T : Txt K mg a) : FnOk P w K mg base CX0 1 a.f_Sizes_word a.d_Sizes_word ["self", "space", "page"] (spWordC a.C_Sizes) := by
  refine T.F_Sizes_word.ok sc_Sizes_word (fun vs H Q E h => ?_) (fun cdv A outer s H vs Q E hr h => ?_)
  · obtain ⟨z, dx, p, f, b, i, j, rfl, _⟩ := h
    rfl
  · obtain ⟨z, dx, p, f, b, i, j, rfl, hz, q⟩ := h
    exact ⟨_, (pss_one (ps_ret (pe_op op_add (pe_op op_add (pe_fld (pv 0) rfl) (pe_op op_mul (pe_con rfl T.k_PAGES) (pv 1))) (pv 2)))), _, rfl, z, _, dx, _, _, rfl, hz, T.c_Sizes, T.n_Sizes__words, rfl, _, rfl, _, _, rfl, rfl, .inl ⟨by decide, by decide⟩, _, _, rfl, rfl, _, rfl, _, _, rfl, rfl, q⟩
theorem ok_Sizes_frame_cell (T : Txt K mg a) : FnOk P w K mg base CX0 1 a.f_Sizes_frame_cell a.d_Sizes_frame_cell ["self", "frame", "index"] (spFrameC a.C_Sizes) := by
  refine T.F_Sizes_frame_cell.ok sc_Sizes_frame_cell (fun vs H Q E h => ?_) (fun cdv A outer s H vs Q E hr h => ?_)
  · obtain ⟨z, dx, p, f, b, i, j, rfl, _⟩ := h
    rfl
  · obtain ⟨z, dx, p, f, b, i, j, rfl, hz, i0, i1, q⟩ := h
    exact ⟨_, (pss_one (ps_ret (pe_op op_add (pe_op op_add (pe_fld (pv 0) rfl) (pe_op op_mul (pe_con rfl T.k_CELLS) (pv 1))) (pv 2)))), _, rfl, z, _, dx, _, _, rfl, hz, T.c_Sizes, T.n_Sizes__frame_cells, rfl, _, rfl, _, _, rfl, rfl, .inl ⟨by decide, by decide⟩, _, _, rfl, rfl, _, rfl, _, _, rfl, rfl, q⟩

theorem ok_Sizes_swap_block (T : Txt K mg a) : FnOk P w K mg base CX0 1 a.f_Sizes_swap_block a.d_Sizes_swap_block ["self", "block"] (spSwapC a.C_Sizes) := by
  refine T.F_Sizes_swap_block.ok sc_Sizes_swap_block (fun vs H Q E h => ?_) (fun cdv A outer s H vs Q E hr h => ?_)
  · obtain ⟨z, dx, p, f, b, i, rfl, _⟩ := h
    rfl
  · obtain ⟨z, dx, p, f, b, i, rfl, hz, q⟩ := h
    exact ⟨_, (pss_one (ps_ret (pe_op op_add (pe_fld (pv 0) rfl) (pv 1)))), _, rfl, z, _, dx, _, _, rfl, hz, T.c_Sizes, T.n_Sizes__swap_blocks, rfl, _, rfl, _, _, rfl, rfl, q⟩
theorem ok_Sizes_file_block (T : Txt K mg a) : FnOk P w K mg base CX0 1 a.f_Sizes_file_block a.d_Sizes_file_block ["self", "file", "page"] (spFileC a.C_Sizes) := by
  refine T.F_Sizes_file_block.ok sc_Sizes_file_block (fun vs H Q E h => ?_) (fun cdv A outer s H vs Q E hr h => ?_)
  · obtain ⟨z, dx, p, f, b, i, j, rfl, _⟩ := h
    rfl
  · obtain ⟨z, dx, p, f, b, i, j, rfl, hz, q⟩ := h
    exact ⟨_, (pss_one (ps_ret (pe_op op_add (pe_op op_add (pe_fld (pv 0) rfl) (pe_op op_mul (pe_con rfl T.k_FILE_PAGES) (pv 1))) (pv 2)))), _, rfl, z, _, dx, _, _, rfl, hz, T.c_Sizes, T.n_Sizes__file_blocks, rfl, _, rfl, _, _, rfl, rfl, .inl ⟨by decide, by decide⟩, _, _, rfl, rfl, _, rfl, _, _, rfl, rfl, q⟩

theorem ok_Memory_init (T : Txt K mg a) : FnOk P w K mg base CX0 3 a.f_Memory_init a.d_Memory_init ["self", "sizes"] (spMemInit K ⟨a.C_Memory, a.C_Sizes, a.C_Buffer, a.C_Box⟩) := by
  refine T.F_Memory_init.ok sc_Memory_init (fun vs H Q E h => ?_) (fun cdv A outer s H vs Q E hr h => ?_)
  · obtain ⟨m, dx, z, dz, p, f, b, rfl, _⟩ := h
    rfl
  · obtain ⟨m, dx, z, dz, p, f, b, rfl, hm, hz, okS, q⟩ := h
    refine ⟨_, (pss_cons (ps_fld (pv 0) (pv 1) rfl)
    (pss_cons (ps_fld (pv 0) pe_int rfl)
    (pss_cons (ps_fld (pv 0) (pe_lc (own := [("_", 2)]) (g := gName 2) (tt := tYes) rfl sc_Memory_init.nd (pi_range1 rfl T.b_range (pa_cons (pe_fld (pv 1) rfl) pa_nil)) (blkOk_by (own := [("_", 2)]) (N := ["self", "sizes", "_"]) (sc := defScope s_Memory_init) (by decide +kernel)) (fun _ _ _ _ _ => (pg_name (i := 2) sc_Memory_init.nd rfl (Or.inl rfl))) (fun _ _ _ _ _ => pts_nil) (fun _ _ _ _ _ => (pe_make0 T.mk_Buffer (ok_Buffer_init T) (hr.mono (by decide)) rfl T.m_Buffer T.B_Buffer_init .nil pass0))) rfl)
    (pss_cons (ps_fld (pv 0) (pe_lc (own := [("_", 2)]) (g := gName 2) (tt := tYes) rfl sc_Memory_init.nd (pi_range1 rfl T.b_range (pa_cons (pe_fld (pv 1) rfl) pa_nil)) (blkOk_by (own := [("_", 2)]) (N := ["self", "sizes", "_"]) (sc := defScope s_Memory_init) (by decide +kernel)) (fun _ _ _ _ _ => (pg_name (i := 2) sc_Memory_init.nd rfl (Or.inl rfl))) (fun _ _ _ _ _ => pts_nil) (fun _ _ _ _ _ => (pe_make0 T.mk_Box (ok_Box_init T) (hr.mono (by decide)) rfl T.m_Box T.B_Box_init .nil pass0))) rfl)
    (pss_cons (ps_fld (pv 0) (pe_call (ok_first_values T) (hr.mono (by decide)) rfl T.m_first_values T.F_first_values.kp T.B_first_values .nil pass0 (pa_cons (pv 1) pa_nil)) rfl)
    (pss_one (ps_fld (pv 0) (pe_lst pa_nil) rfl))))))), ?_⟩
    obtain ⟨⟨p0, p1⟩, _, _⟩ := okSz_at okS
    have nzm : z ≠ m := fun e => by
      rw [e, hm] at hz
      injection hz with hz
      injection hz with _ _ hz
      cases hz
    refine ⟨_, rfl, _, rfl, m, a.C_Memory, dx, _, rfl, hm, T.c_Memory, T.n_Memory_sizes, (by show 0 < 1000; decide), ?_⟩
    refine ⟨_, rfl, m, a.C_Memory, dx, _, rfl, upd_same, T.c_Memory, T.n_Memory_count, (by show 1 < 1000; decide), ?_⟩
    have g2 : ∃ H2, H2 = upd (upd H m (.ins a.C_Memory dx [("sizes", .ref z)])) m (.ins a.C_Memory dx [("sizes", .ref z), ("count", .int 0)]) := ⟨_, rfl⟩
    obtain ⟨H2, e2⟩ := g2
    change tSeq _ _ _ _ (upd (upd H m (.ins a.C_Memory dx [("sizes", .ref z)])) m (.ins a.C_Memory dx [("sizes", .ref z), ("count", .int 0)]))
    rw [← e2]
    have hm2 : H2 m = some (.ins a.C_Memory dx [("sizes", .ref z), ("count", .int 0)]) := by rw [e2]; exact upd_same
    have sb2 : SameBut m H H2 := by
      rw [e2]
      exact fun x o nx hx => (upd_ne nx).trans ((upd_ne nx).trans hx)
    have fr2 : ∀ {x : Addr}, H2 x = none → H x = none := fun {x} hx => by
      cases e : H x with
      | none => rfl
      | some u =>
        by_cases xm : x = m
        · rw [xm, hm2] at hx
          cases hx
        · rw [sb2 _ _ xm e] at hx
          cases hx
    have hz2 := sb2 _ _ nzm hz
    clear e2
    -- buffers
    refine ⟨_, rfl, z, _, dz, _, _, rfl, hz2, T.c_Sizes, T.n_Sizes_processors, rfl, _, rfl, by omega, by omega, fun D hD => ?_⟩
    refine lc_range (lo := 0) (n := p.toNat) (fun i H' => ∃ bs : List (Addr × Addr), H' D = some (.lst (bs.map fun y => V.ref y.1)) ∧ Same H2 H' ∧ bs.length = i ∧ (bs.map fun y => y.1).Nodup ∧ i ≤ 3 ∧ ∀ y ∈ bs, H2 y.1 = none ∧ ∃ l, l ≠ D ∧ BufAt a.C_Buffer H' y.1 y.2 l [])
      ⟨[], upd_same, Same.new hD, rfl, List.nodup_nil, Nat.zero_le _, fun _ h => absurd h List.not_mem_nil⟩ ?_ ?_
    · rintro i H' hi ⟨bs, hDD, eS, el, nd, i3, hb⟩
      refine ⟨rfl, fun x dx nx ndx nxd => ⟨x, dx, rfl, upd_same, fun H3 l s3 fl hB => ⟨rfl, bs.map (fun y => V.ref y.1), ?_, ?_, bs ++ [(x, dx)], ?_, ?_, ?_, ?_, by omega, ?_⟩⟩⟩
      all_goals
        have old : ∀ {c : Addr} {u : HO}, H' c = some u → H3 c = some u := fun {c u} h => by
          have n1 : c ≠ x := ne_of_none h nx
          have n2 : c ≠ dx := ne_of_none h ndx
          exact s3 _ _ n1 (by rw [upd_ne n1, upd_ne n2]; exact h)
      · exact old hDD
      · rw [List.length_map, el]
        exact Nat.lt_of_le_of_lt i3 (by decide)
      · rw [upd_same, List.map_append]
        rfl
      · exact fun c u h => by
          have h1 := eS _ _ h
          have nD : c ≠ D := ne_of_none h hD
          rw [upd_ne nD]
          exact old h1
      · rw [List.length_append, List.length_singleton, el]
      · rw [List.map_append]
        refine List.nodup_append.mpr ⟨nd, by simp, fun c hc y hy => ?_⟩
        simp at hy
        subst hy
        obtain ⟨u, hu, rfl⟩ := List.mem_map.mp hc
        obtain ⟨_, l2, _, h2⟩ := hb u hu
        exact ne_of_none h2.ins nx
      · intro y hy
        rcases List.mem_append.mp hy with hy | hy
        · obtain ⟨h1, l2, n2, h2⟩ := hb y hy
          refine ⟨h1, l2, n2, ?_, ?_⟩
          · rw [upd_ne (ne_of h2.ins hDD (fun z => nomatch z))]
            exact old h2.ins
          · rw [upd_ne n2]
            exact old h2.lst
        · rw [List.mem_singleton.mp hy]
          have nxD : x ≠ D := fun z => by rw [z, hDD] at nx; cases nx
          have nlD : l ≠ D := fun z => by
            have nDx : D ≠ x := Ne.symm nxD
            have nDd : D ≠ dx := fun z => by rw [← z, hDD] at ndx; cases ndx
            rw [z, upd_ne nDx, upd_ne nDd, hDD] at fl
            cases fl
          exact ⟨eS.free nx, l, nlD, ⟨(upd_ne nxD).trans hB.ins, (upd_ne nlD).trans hB.lst⟩⟩
    rintro H3 ⟨bs, hDD, eS, el, nd, i3, hb⟩
    have nDm : D ≠ m := fun e => by rw [e, hm2] at hD; cases hD
    refine ⟨_, rfl, m, a.C_Memory, dx, _, rfl, eS _ _ hm2, T.c_Memory, T.n_Memory_buffers, (by show 2 < 1000; decide), ?_⟩
    obtain ⟨H4, e4⟩ : ∃ H4, H4 = upd H3 m (.ins a.C_Memory dx [("sizes", .ref z), ("count", .int 0), ("buffers", .ref D)]) := ⟨_, rfl⟩
    change tSeq _ _ _ _ (upd H3 m (.ins a.C_Memory dx [("sizes", .ref z), ("count", .int 0), ("buffers", .ref D)]))
    rw [← e4]
    have hm4 : H4 m = some (.ins a.C_Memory dx [("sizes", .ref z), ("count", .int 0), ("buffers", .ref D)]) := by rw [e4]; exact upd_same
    have sb4 : SameBut m H2 H4 := by
      rw [e4]
      exact fun x o nx hx => (upd_ne nx).trans (eS _ _ hx)
    have hD4 : H4 D = some (.lst (bs.map fun y => V.ref y.1)) := by rw [e4, upd_ne nDm]; exact hDD
    have hb4 : ∀ y ∈ bs, H2 y.1 = none ∧ y.1 ≠ m ∧ ∃ l, l ≠ D ∧ BufAt a.C_Buffer H4 y.1 y.2 l [] := fun y hy => by
      obtain ⟨h1, l, h2, h3⟩ := hb y hy
      have n1 : y.1 ≠ m := fun e => by rw [e, hm2] at h1; cases h1
      have n2 : l ≠ m := ne_of h3.lst (eS _ _ hm2) (fun z => nomatch z)
      exact ⟨h1, n1, l, h2, ⟨by rw [e4, upd_ne n1]; exact h3.ins, by rw [e4, upd_ne n2]; exact h3.lst⟩⟩
    have hz4 := sb4 _ _ nzm hz2
    have fr4 : ∀ {x : Addr}, H4 x = none → H2 x = none := fun {x} hx => by
      cases e : H2 x with
      | none => rfl
      | some u =>
        by_cases xm : x = m
        · rw [xm, hm4] at hx
          cases hx
        · rw [sb4 _ _ xm e] at hx
          cases hx
    clear e4 hb hDD eS
    -- boxes
    refine ⟨_, rfl, z, _, dz, _, _, rfl, hz4, T.c_Sizes, T.n_Sizes_processors, rfl, _, rfl, by omega, by omega, fun D2 hD2 => ?_⟩
    refine lc_range (lo := 0) (n := p.toNat) (fun i H' => ∃ xs : List (Addr × Addr × Addr), H' D2 = some (.lst (xs.map fun y => V.ref y.1)) ∧ Same H4 H' ∧ xs.length = i ∧ (xs.map fun y => y.2.2).Nodup ∧ i ≤ 3 ∧ ∀ y ∈ xs, H4 y.2.2 = none ∧ y.2.2 ≠ D2 ∧ BoxAt a.C_Box H' y.1 y.2.1 y.2.2 [])
      ⟨[], upd_same, Same.new hD2, rfl, List.nodup_nil, Nat.zero_le _, fun _ h => absurd h List.not_mem_nil⟩ ?_ ?_
    · rintro i H' hi ⟨xs, hDD, eS, el2, nd2, i32, hb⟩
      refine ⟨rfl, fun x dx nx ndx nxd => ⟨x, dx, rfl, upd_same, fun H3 l s3 fl hB => ⟨rfl, xs.map (fun y => V.ref y.1), ?_, ?_, xs ++ [(x, dx, l)], ?_, ?_, ?_, ?_, by omega, ?_⟩⟩⟩
      all_goals
        have old : ∀ {c : Addr} {u : HO}, H' c = some u → H3 c = some u := fun {c u} h => by
          have n1 : c ≠ x := ne_of_none h nx
          have n2 : c ≠ dx := ne_of_none h ndx
          exact s3 _ _ n1 (by rw [upd_ne n1, upd_ne n2]; exact h)
      all_goals
        have nlx : l ≠ x := fun z => by rw [z, upd_same] at fl; cases fl
      all_goals
        have nldx : l ≠ dx := fun z => by rw [z, upd_ne nxd, upd_same] at fl; cases fl
      all_goals
        have flH : H' l = none := by rw [upd_ne nlx, upd_ne nldx] at fl; exact fl
      · exact old hDD
      · rw [List.length_map, el2]
        exact Nat.lt_of_le_of_lt i32 (by decide)
      · rw [upd_same, List.map_append]
        rfl
      · exact fun c u h => by
          have h1 := eS _ _ h
          have nD : c ≠ D2 := ne_of_none h hD2
          rw [upd_ne nD]
          exact old h1
      · rw [List.length_append, List.length_singleton, el2]
      · rw [List.map_append]
        refine List.nodup_append.mpr ⟨nd2, by simp, fun c hc y hy => ?_⟩
        simp at hy
        subst hy
        obtain ⟨u, hu, rfl⟩ := List.mem_map.mp hc
        obtain ⟨_, _, h2⟩ := hb u hu
        exact ne_of_none h2.lst flH
      · intro y hy
        rcases List.mem_append.mp hy with hy | hy
        · obtain ⟨h1, n2, h2⟩ := hb y hy
          refine ⟨h1, n2, ?_, ?_⟩
          · rw [upd_ne (ne_of h2.ins hDD (fun z => nomatch z))]
            exact old h2.ins
          · rw [upd_ne n2]
            exact old h2.lst
        · rw [List.mem_singleton.mp hy]
          have nxD : x ≠ D2 := fun z => by rw [z, hDD] at nx; cases nx
          have nlD : l ≠ D2 := fun z => by rw [z, hDD] at flH; cases flH
          exact ⟨eS.free flH, nlD, ⟨(upd_ne nxD).trans hB.ins, (upd_ne nlD).trans hB.lst⟩⟩
    rintro H5 ⟨xs, hDD2, eS5, el2, nd2, i32, hx5⟩
    have nDm2 : D2 ≠ m := fun e => by rw [e, hm4] at hD2; cases hD2
    have nDD : D ≠ D2 := fun e => by rw [← e, hD4] at hD2; cases hD2
    refine ⟨_, rfl, m, a.C_Memory, dx, _, rfl, eS5 _ _ hm4, T.c_Memory, T.n_Memory_boxes, (by show 3 < 1000; decide), ?_⟩
    obtain ⟨H6, e6⟩ : ∃ H6, H6 = upd H5 m (.ins a.C_Memory dx [("sizes", .ref z), ("count", .int 0), ("buffers", .ref D), ("boxes", .ref D2)]) := ⟨_, rfl⟩
    change tSeq _ _ _ _ (upd H5 m (.ins a.C_Memory dx [("sizes", .ref z), ("count", .int 0), ("buffers", .ref D), ("boxes", .ref D2)]))
    rw [← e6]
    have hm6 : H6 m = some (.ins a.C_Memory dx [("sizes", .ref z), ("count", .int 0), ("buffers", .ref D), ("boxes", .ref D2)]) := by rw [e6]; exact upd_same
    have sb6 : SameBut m H4 H6 := by
      rw [e6]
      exact fun x o nx hx => (upd_ne nx).trans (eS5 _ _ hx)
    have hD6 : H6 D = some (.lst (bs.map fun y => V.ref y.1)) := sb6 _ _ nDm hD4
    have hD26 : H6 D2 = some (.lst (xs.map fun y => V.ref y.1)) := by rw [e6, upd_ne nDm2]; exact hDD2
    have hb6 : ∀ y ∈ bs, H2 y.1 = none ∧ y.1 ≠ m ∧ ∃ l, BufAt a.C_Buffer H6 y.1 y.2 l [] := fun y hy => by
      obtain ⟨h1, n1, l, h2, h3⟩ := hb4 y hy
      have n2 : l ≠ m := ne_of h3.lst hm4 (fun z => nomatch z)
      exact ⟨h1, n1, l, ⟨sb6 _ _ n1 h3.ins, sb6 _ _ n2 h3.lst⟩⟩
    have hx6 : ∀ y ∈ xs, H4 y.2.2 = none ∧ y.2.2 ≠ D2 ∧ BoxAt a.C_Box H6 y.1 y.2.1 y.2.2 [] := fun y hy => by
      obtain ⟨h1, h2, h3⟩ := hx5 y hy
      have n1 : y.1 ≠ m := fun e => by
        have h4 := h3.ins
        rw [e, eS5 _ _ hm4] at h4
        injection h4 with h4
        injection h4 with _ _ h4
        injection h4 with h4 h5
        cases h5
      have n2 : y.2.2 ≠ m := ne_of h3.lst (eS5 _ _ hm4) (fun z => nomatch z)
      exact ⟨h1, h2, ⟨by rw [e6, upd_ne n1]; exact h3.ins, by rw [e6, upd_ne n2]; exact h3.lst⟩⟩
    have hz6 := sb6 _ _ nzm hz4
    have fr6 : ∀ {x : Addr}, H6 x = none → H4 x = none := fun {x} hx => by
      cases e : H4 x with
      | none => rfl
      | some u =>
        by_cases xm : x = m
        · rw [xm, hm6] at hx
          cases hx
        · rw [sb6 _ _ xm e] at hx
          cases hx
    clear e6 hx5 hDD2 eS5 hb4
    -- cells
    refine ⟨_, rfl, z, dz, p, f, b, rfl, hz6, okS, fun H7 t cl e7 fcl ht7 hcl => ?_⟩
    have nclm : cl ≠ m := fun e => by rw [e, hm6] at fcl; cases fcl
    refine ⟨_, rfl, m, a.C_Memory, dx, _, rfl, e7 _ _ hm6, T.c_Memory, T.n_Memory__cells, (by show 4 < 1000; decide), ?_⟩
    have hm8 : upd H7 m (.ins a.C_Memory dx [("sizes", .ref z), ("count", .int 0), ("buffers", .ref D), ("boxes", .ref D2), ("_cells", .ref cl)]) m = some (.ins a.C_Memory dx [("sizes", .ref z), ("count", .int 0), ("buffers", .ref D), ("boxes", .ref D2), ("_cells", .ref cl)]) := upd_same
    refine ⟨Nat.zero_le _, fun lg hlg => ?_⟩
    change upd H7 m (.ins a.C_Memory dx [("sizes", .ref z), ("count", .int 0), ("buffers", .ref D), ("boxes", .ref D2), ("_cells", .ref cl)]) lg = none at hlg
    have nlgm : m ≠ lg := ne_of_none hm8 hlg
    have hlg7 : H7 lg = none := (upd_ne (Ne.symm nlgm)).symm.trans hlg
    refine ⟨_, rfl, m, a.C_Memory, dx, _, rfl, (upd_ne nlgm).trans hm8, T.c_Memory, T.n_Memory__log, (by show 5 < 1000; decide), ?_⟩
    have keep : ∀ {c : Addr} {u : HO}, c ≠ m → H6 c = some u → upd (upd (upd H7 m (.ins a.C_Memory dx [("sizes", .ref z), ("count", .int 0), ("buffers", .ref D), ("boxes", .ref D2), ("_cells", .ref cl)])) lg (.lst [])) m
        (.ins a.C_Memory dx [("sizes", .ref z), ("count", .int 0), ("buffers", .ref D), ("boxes", .ref D2), ("_cells", .ref cl), ("_log", .ref lg)]) c = some u := fun {c u} nc h => by
      have h7 := e7 _ _ h
      rw [upd_ne nc, upd_ne (ne_of_none h7 hlg7), upd_ne nc]
      exact h7
    have lD : D ≠ m := nDm
    have ncl : H6 cl = none := fcl
    have nlg6 : H6 lg = none := e7.free hlg7
    have nTm : t ≠ m := fun e => by
      have := e7 _ _ hm6
      rw [← e, ht7] at this
      cases this
    have nclg : cl ≠ lg := fun e => by rw [← e, hcl] at hlg7; cases hlg7
    have ntlg : t ≠ lg := fun e => by rw [← e, ht7] at hlg7; cases hlg7
    have tT : upd (upd (upd H7 m (.ins a.C_Memory dx [("sizes", .ref z), ("count", .int 0), ("buffers", .ref D), ("boxes", .ref D2), ("_cells", .ref cl)])) lg (.lst [])) m
        (.ins a.C_Memory dx [("sizes", .ref z), ("count", .int 0), ("buffers", .ref D), ("boxes", .ref D2), ("_cells", .ref cl), ("_log", .ref lg)]) t = some (.tup [.int 0, .int 0]) := by
      rw [upd_ne nTm, upd_ne ntlg, upd_ne nTm]
      exact ht7
    have clL : upd (upd (upd H7 m (.ins a.C_Memory dx [("sizes", .ref z), ("count", .int 0), ("buffers", .ref D), ("boxes", .ref D2), ("_cells", .ref cl)])) lg (.lst [])) m
        (.ins a.C_Memory dx [("sizes", .ref z), ("count", .int 0), ("buffers", .ref D), ("boxes", .ref D2), ("_cells", .ref cl), ("_log", .ref lg)]) cl = some (.lst (firstV p f b t)) := by
      rw [upd_ne nclm, upd_ne nclg, upd_ne nclm]
      exact hcl
    have pn : p.toNat = bs.length := el.symm
    have pn2 : p.toNat = xs.length := el2.symm
    refine q _ ⟨m, dx, z, dz, D, D2, cl, lg, p, f, b, bs, xs⟩ rfl rfl rfl rfl rfl rfl rfl (fun c u nc h => keep nc (sb6 _ _ nc (sb4 _ _ nc (sb2 _ _ nc h)))) ?_ ?_
    · intro c hc
      rcases List.mem_cons.mp hc with e | hc
      · rw [e]; exact fr2 hD
      rcases List.mem_cons.mp hc with e | hc
      · rw [e]; exact fr2 (fr4 hD2)
      rcases List.mem_cons.mp hc with e | hc
      · rw [e]; exact fr2 (fr4 (fr6 fcl))
      rcases List.mem_cons.mp hc with e | hc
      · rw [e]; exact fr2 (fr4 (fr6 nlg6))
      rcases List.mem_append.mp hc with hc | hc
      · obtain ⟨y, hy, rfl⟩ := List.mem_map.mp hc
        exact fr2 (hb6 y hy).1
      · obtain ⟨y, hy, rfl⟩ := List.mem_map.mp hc
        exact fr2 (fr4 (hx6 y hy).1)
    · exact {
        ins := upd_same
        sz := keep nzm hz6
        okS := okS
        bl := keep nDm hD6
        xl := keep nDm2 hD26
        cells := ⟨_, clL, first_dp p f b tT⟩
        log := ⟨[], by rw [upd_ne (Ne.symm nlgm)]; exact upd_same, .nil⟩
        buf := fun i y es h1 h2 => by
          have ee : es = [] := List.eq_of_mem_replicate (mem_of_get h2)
          subst ee
          obtain ⟨_, n1, l, h3⟩ := hb6 y (mem_of_get h1)
          exact ⟨l, [], ⟨keep n1 h3.ins, keep (ne_of h3.lst hm6 (fun z => nomatch z)) h3.lst⟩, .nil _, rfl⟩
        box := fun i y ls h1 h2 => by
          have ee : ls = [] := List.eq_of_mem_replicate (mem_of_get h2)
          subst ee
          obtain ⟨_, _, h3⟩ := hx6 y (mem_of_get h1)
          refine ⟨[], ⟨keep (fun e => ?_) h3.ins, keep (ne_of h3.lst hm6 (fun z => nomatch z)) h3.lst⟩, .nil⟩
          have h4 := h3.ins
          rw [e, hm6] at h4
          injection h4 with h4
          injection h4 with _ _ h4
          injection h4 with h4 h5
          cases h5
        lenC := first_len okS
        lenB := ⟨by show (bs.length : Int) = p; omega, by show (List.replicate p.toNat []).length = bs.length; rw [List.length_replicate]; exact pn⟩
        lenX := ⟨by show (xs.length : Int) = p; omega, by show (List.replicate p.toNat []).length = xs.length; rw [List.length_replicate]; exact pn2⟩
        lenL := rfl
        shC := fun d hd => by
          have hd2 : d ∈ firstD p f b := hd
          unfold firstD at hd2
          rcases List.mem_append.mp hd2 with hd2 | hd2
          · rcases List.mem_append.mp hd2 with hd2 | hd2
            · rcases List.mem_append.mp hd2 with hd2 | hd2
              · rw [List.eq_of_mem_replicate hd2]
                exact ⟨by simp [noL], (sh_int _).up (by decide)⟩
              · rw [List.eq_of_mem_replicate hd2]
                exact ⟨by simp [noL], sh_none.up (by decide)⟩
            · rw [List.eq_of_mem_replicate hd2]
              exact ⟨by simp [noL], (sh_int _).up (by decide)⟩
          · rw [List.eq_of_mem_replicate hd2]
            exact ⟨by simp [noL, noLs], (sh_tup (sh_c (sh_int _) (sh_c (sh_int _) sh_n))).up (by decide)⟩
        shL := fun _ h => absurd h List.not_mem_nil
        shX := fun ls h => by
          rw [List.eq_of_mem_replicate h]
          exact fun _ h => absurd h List.not_mem_nil
        lim := fun es h => by
          rw [List.eq_of_mem_replicate h]
          exact Nat.zero_le _
        ndL := by
          have n1 : D ∉ xs.map fun y => y.2.2 := fun h => by
            obtain ⟨y, hy, e⟩ := List.mem_map.mp h
            have := (hx6 y hy).1
            rw [e, hD4] at this
            cases this
          have n2 : D2 ∉ xs.map fun y => y.2.2 := fun h => by
            obtain ⟨y, hy, e⟩ := List.mem_map.mp h
            exact (hx6 y hy).2.1 e
          have n3 : ∀ {c : Addr}, H6 c = none → c ∉ xs.map fun y => y.2.2 := fun {c} hc h => by
            obtain ⟨y, hy, e⟩ := List.mem_map.mp h
            have := (hx6 y hy).2.2.lst
            rw [e, hc] at this
            cases this
          have n4 : ∀ {c : Addr}, H6 c = none → D ≠ c ∧ D2 ≠ c := fun {c} hc => ⟨fun e => (by rw [← e, hD6] at hc; cases hc), fun e => (by rw [← e, hD26] at hc; cases hc)⟩
          show (D :: D2 :: cl :: lg :: xs.map fun y => y.2.2).Nodup
          simp only [List.nodup_cons, List.mem_cons, not_or]
          exact ⟨⟨nDD, (n4 fcl).1, (n4 nlg6).1, n1⟩, ⟨(n4 fcl).2, (n4 nlg6).2, n2⟩, ⟨nclg, n3 fcl⟩, n3 nlg6, nd2⟩
        ndB := nd
        ndI := fun y hy => (hb6 y hy).2.1 }

end
def upto (n : Nat) : List V := (List.range n).map fun k : Nat => V.int (k : Int)
theorem upto_cat (n k : Nat) : upto n ++ ((List.range k).map fun j : Nat => V.int ((n : Int) + (j : Int))) = upto (n + k) := by
  induction k with
  | zero => simp [upto]
  | succ k ih =>
    rw [List.range_succ, List.map_append, ← List.append_assoc, ih]
    unfold upto
    rw [← Nat.add_assoc, List.range_succ, List.map_append]
    simp
theorem upto_len (n : Nat) : (upto n).length = n := by simp [upto]
def spLListed (C : Addr) : Sp := fun vs H Q _ => ∃ (z dx : Addr) (p f b : Int), vs = [.ref z] ∧ H z = some (.ins C dx (szF p f b)) ∧ okSz p f b = true ∧ ∀ H' q, Same H H' → H' q = some (.lst (upto (cellsN p f b).toNat)) → Q (.ref q) H'
section
variable {P : Program} {w : World} {K : PySem.W.Frag} {mg : Str → Option Value} {base : Heap} {a : Ad}
theorem ok__law_listed (T : Txt K mg a) : FnOk P w K mg base CX0 2 a.f__law_listed a.d__law_listed ["sizes"] (spLListed a.C_Sizes) := by
  refine T.F__law_listed.ok sc__law_listed (fun vs H Q E h => ?_) (fun cdv A outer s H vs Q E hr h => ?_)
  · obtain ⟨z, dx, p, f, b, rfl, _⟩ := h
    rfl
  · obtain ⟨z, dx, p, f, b, rfl, hz, okS, q⟩ := h
    refine ⟨_, (pss_cons (ps_set (i := 1) sc__law_listed.nd rfl (Or.inl rfl) (pe_lst (pa_cons (pe_meth0 (pv 0) T.c_Sizes T.M_Sizes_lock (ok_Sizes_lock T) (hr.mono (by decide)) T.B_Sizes_lock .nil pass0) pa_nil)))
    (pss_cons (ps_set (i := 1) sc__law_listed.nd rfl (Or.inl rfl) (pe_op op_cat (pv 1) (pe_lc (own := [("k", 5)]) (g := gName 5) (tt := tYes) rfl sc__law_listed.nd (pi_range1 rfl T.b_range (pa_cons (pe_fld (pv 0) rfl) pa_nil)) (blkOk_by (own := [("k", 5)]) (N := ["sizes", "cells", "space", "frame", "file", "k", "page", "block"]) (sc := defScope s__law_listed) (by decide +kernel)) (fun _ _ _ _ _ => (pg_name (i := 5) sc__law_listed.nd rfl (Or.inl rfl))) (fun _ _ _ _ _ => pts_nil) (fun _ _ _ _ _ => (pe_meth (pv 0) T.c_Sizes T.M_Sizes_acknowledge (ok_Sizes_acknowledge T) (hr.mono (by decide)) T.B_Sizes_acknowledge .nil pass0 (pa_cons (pv 5) pa_nil))))))
    (pss_cons (ps_for PassesOwn.never rfl (pi_range1 rfl T.b_range (pa_cons pe_int pa_nil)) (pg_name (i := 2) sc__law_listed.nd rfl (Or.inr rfl))
    (pss_one (ps_set (i := 1) sc__law_listed.nd rfl (Or.inl rfl) (pe_op op_cat (pv 1) (pe_lc (own := [("page", 6)]) (g := gName 6) (tt := tYes) rfl sc__law_listed.nd (pi_range1 rfl T.b_range (pa_cons pe_int pa_nil)) (blkOk_by (own := [("page", 6)]) (N := ["sizes", "cells", "space", "frame", "file", "k", "page", "block"]) (sc := defScope s__law_listed) (by decide +kernel)) (fun _ _ _ _ _ => (pg_name (i := 6) sc__law_listed.nd rfl (Or.inl rfl))) (fun _ _ _ _ _ => pts_nil) (fun _ _ _ _ _ => (pe_meth (pv 0) T.c_Sizes T.M_Sizes_word (ok_Sizes_word T) (hr.mono (by decide)) T.B_Sizes_word .nil pass0 (pa_cons (pv 2) (pa_cons (pv 6) pa_nil)))))))))
    (pss_cons (ps_for PassesOwn.never rfl (pi_range1 rfl T.b_range (pa_cons (pe_fld (pv 0) rfl) pa_nil)) (pg_name (i := 3) sc__law_listed.nd rfl (Or.inl rfl))
    (pss_one (ps_set (i := 1) sc__law_listed.nd rfl (Or.inl rfl) (pe_op op_cat (pv 1) (pe_lst (pa_cons (pe_meth (pv 0) T.c_Sizes T.M_Sizes_frame_cell (ok_Sizes_frame_cell T) (hr.mono (by decide)) T.B_Sizes_frame_cell .nil pass0 (pa_cons (pv 3) (pa_cons pe_int pa_nil))) (pa_cons (pe_meth (pv 0) T.c_Sizes T.M_Sizes_frame_cell (ok_Sizes_frame_cell T) (hr.mono (by decide)) T.B_Sizes_frame_cell .nil pass0 (pa_cons (pv 3) (pa_cons pe_int pa_nil))) pa_nil)))))))
    (pss_cons (ps_set (i := 1) sc__law_listed.nd rfl (Or.inl rfl) (pe_op op_cat (pv 1) (pe_lc (own := [("block", 7)]) (g := gName 7) (tt := tYes) rfl sc__law_listed.nd (pi_range1 rfl T.b_range (pa_cons (pe_fld (pv 0) rfl) pa_nil)) (blkOk_by (own := [("block", 7)]) (N := ["sizes", "cells", "space", "frame", "file", "k", "page", "block"]) (sc := defScope s__law_listed) (by decide +kernel)) (fun _ _ _ _ _ => (pg_name (i := 7) sc__law_listed.nd rfl (Or.inl rfl))) (fun _ _ _ _ _ => pts_nil) (fun _ _ _ _ _ => (pe_meth (pv 0) T.c_Sizes T.M_Sizes_swap_block (ok_Sizes_swap_block T) (hr.mono (by decide)) T.B_Sizes_swap_block .nil pass0 (pa_cons (pv 7) pa_nil))))))
    (pss_cons (ps_for PassesOwn.never rfl (pi_range1 rfl T.b_range (pa_cons pe_int pa_nil)) (pg_name (i := 4) sc__law_listed.nd rfl (Or.inr rfl))
    (pss_one (ps_set (i := 1) sc__law_listed.nd rfl (Or.inl rfl) (pe_op op_cat (pv 1) (pe_lc (own := [("page", 6)]) (g := gName 6) (tt := tYes) rfl sc__law_listed.nd (pi_range1 rfl T.b_range (pa_cons pe_int pa_nil)) (blkOk_by (own := [("page", 6)]) (N := ["sizes", "cells", "space", "frame", "file", "k", "page", "block"]) (sc := defScope s__law_listed) (by decide +kernel)) (fun _ _ _ _ _ => (pg_name (i := 6) sc__law_listed.nd rfl (Or.inl rfl))) (fun _ _ _ _ _ => pts_nil) (fun _ _ _ _ _ => (pe_meth (pv 0) T.c_Sizes T.M_Sizes_file_block (ok_Sizes_file_block T) (hr.mono (by decide)) T.B_Sizes_file_block .nil pass0 (pa_cons (pv 4) (pa_cons (pv 6) pa_nil)))))))))
    (pss_one (ps_ret (pv 1))))))))), ?_⟩
    obtain ⟨⟨p0, p1⟩, ⟨f0, f1⟩, ⟨b0, b1⟩⟩ := okSz_at okS
    have small : ∀ n : Nat, n ≤ 1000 → n ≤ sizeLine := fun n h => Nat.le_trans h (by decide)
    refine ⟨_, rfl, z, dx, _, rfl, hz, rfl, z, dx, p, f, b, rfl, hz, (by show 1 ≤ sizeLine; decide), fun l1 h1 => ?_⟩
    have e1 := Same.new (o := .lst [V.int 0]) h1
    have hl1 : upd H l1 (.lst [V.int 0]) l1 = some (.lst (upto 1)) := upd_same
    have hz1 := e1 _ _ hz
    generalize upd H l1 (.lst [V.int 0]) = H1 at e1 hl1 hz1 ⊢
    -- acknowledges
    refine ⟨_, rfl, _, rfl, z, _, dx, _, _, rfl, hz1, T.c_Sizes, T.n_Sizes_processors, rfl, _, rfl, by omega, by omega, fun D hD => ?_⟩
    refine lc_range (lo := 0) (n := p.toNat) (fun j H' => ∃ G, j ≤ 3 ∧ H' = upd G D (.lst ((List.range j).map fun k : Nat => V.int ((((1 : Nat)) : Int) + (k : Int)))) ∧ Same H1 G ∧ G D = none)
      ⟨H1, Nat.zero_le _, rfl, Same.refl _, hD⟩ ?_ ?_
    · rintro j H' hj ⟨G, jm, rfl, eG, gD⟩
      have hzj := (Same.new (o := .lst ((List.range j).map fun k : Nat => V.int ((((1 : Nat)) : Int) + (k : Int)))) gD) _ _ (eG _ _ hz1)
      refine ⟨rfl, _, rfl, z, dx, _, rfl, hzj, rfl, _, rfl, z, dx, p, f, b, 0 + (j : Int), rfl, hzj, _, upd_same, ?_, G, by omega, ?_, eG, gD⟩
      · rw [List.length_map, List.length_range]
        exact Nat.lt_of_le_of_lt jm (by decide)
      · rw [upd_upd, List.range_succ, List.map_append]
        have e : (1 : Int) + (0 + (j : Int)) = (((1 : Nat)) : Int) + ((j : Nat) : Int) := by omega
        rw [e]
        rfl
    · rintro H' ⟨G, _, rfl, eG, gD⟩
      refine ⟨l1, D, _, _, rfl, rfl, (Same.new gD) _ _ (eG _ _ hl1), upd_same, small _ (by simp [upto]; omega), fun l2 h2 => ?_⟩
      rw [upto_cat]
      have e2 : Same H (upd (upd G D (.lst ((List.range p.toNat).map fun k : Nat => V.int (((1 : Nat) : Int) + (k : Int))))) l2 (.lst (upto (1 + p.toNat)))) := (e1.trans (eG.trans (Same.new gD))).trans (Same.new h2)
      have hl2 : upd (upd G D (.lst ((List.range p.toNat).map fun k : Nat => V.int (((1 : Nat) : Int) + (k : Int))))) l2 (.lst (upto (1 + p.toNat))) l2 = some (.lst (upto (1 + p.toNat))) := upd_same
      generalize upd (upd G D (.lst ((List.range p.toNat).map fun k : Nat => V.int (((1 : Nat) : Int) + (k : Int))))) l2 (.lst (upto (1 + p.toNat))) = H2 at e2 hl2 ⊢
      clear hD gD eG h2 hl1 hz1 e1
      -- words
      refine ⟨4, rfl, by decide, by decide, for_range (lo := 0) (n := (4 : Int).toNat) (fun i σ H' => ∃ l x2, i ≤ 4 ∧ σ = [some (.ref z), some (.ref l), x2, none, none, none, none, none] ∧ Same H H' ∧ H' l = some (.lst (upto (1 + p.toNat + 8 * i))))
        ⟨l2, none, by omega, rfl, e2, hl2⟩ ?_ ?_⟩
      · rintro i σ H3 hi ⟨l, x2, i4, rfl, eS, hl⟩
        have hi4 : i < 4 := hi
        have hz3 := eS _ _ hz
        refine ⟨_, rfl, 8, rfl, by decide, by decide, fun D hD => ?_⟩
        refine lc_range (lo := 0) (n := (8 : Int).toNat) (fun j H' => ∃ G, j ≤ 8 ∧ H' = upd G D (.lst ((List.range j).map fun k : Nat => V.int ((((1 + p.toNat + 8 * i : Nat)) : Int) + (k : Int)))) ∧ Same H3 G ∧ G D = none)
          ⟨H3, Nat.zero_le _, rfl, Same.refl _, hD⟩ ?_ ?_
        · rintro j H' hj ⟨G, jm, rfl, eG, gD⟩
          have hzj := (Same.new (o := .lst ((List.range j).map fun k : Nat => V.int ((((1 + p.toNat + 8 * i : Nat)) : Int) + (k : Int)))) gD) _ _ (eG _ _ hz3)
          refine ⟨rfl, _, rfl, z, dx, _, rfl, hzj, rfl, _, rfl, _, rfl, z, dx, p, f, b, 0 + (i : Int), 0 + (j : Int), rfl, hzj, _, upd_same, ?_, G, by omega, ?_, eG, gD⟩
          · rw [List.length_map, List.length_range]
            exact Nat.lt_of_le_of_lt jm (by decide)
          · rw [upd_upd, List.range_succ, List.map_append]
            have e : (1 : Int) + p + 8 * (0 + (i : Int)) + (0 + (j : Int)) = (((1 + p.toNat + 8 * i : Nat)) : Int) + ((j : Nat) : Int) := by omega
            rw [e]
            rfl
        · rintro H' ⟨G, _, rfl, eG, gD⟩
          refine ⟨l, D, _, _, rfl, rfl, (Same.new gD) _ _ (eG _ _ hl), upd_same, small _ (by simp [upto]; omega), fun l3 h3 => ?_⟩
          rw [upto_cat]
          exact ⟨l3, _, by omega, rfl, (eS.trans (eG.trans (Same.new gD))).trans (Same.new h3), upd_same⟩
      rintro σ H3 ⟨l, x2, _, rfl, eS, hl⟩
      have hz3 := eS _ _ hz
      have ea : 1 + p.toNat + 8 * (4 : Int).toNat = 33 + p.toNat := by show 1 + p.toNat + 8 * 4 = _; omega
      rw [ea] at hl
      -- cells of frames
      refine ⟨_, rfl, z, _, dx, _, _, rfl, hz3, T.c_Sizes, T.n_Sizes_frames, rfl, _, rfl, by omega, by omega, for_range (lo := 0) (n := f.toNat) (fun i σ H' => ∃ l x3, i ≤ 12 ∧ σ = [some (.ref z), some (.ref l), x2, x3, none, none, none, none] ∧ Same H H' ∧ H' l = some (.lst (upto (33 + p.toNat + 2 * i))))
        ⟨l, none, by omega, rfl, eS, hl⟩ ?_ ?_⟩
      · rintro i σ H4 hi ⟨l, x3, i4, rfl, eS, hl⟩
        have hi4 : (i : Int) < 12 := by omega
        have hz4 := eS _ _ hz
        refine ⟨_, rfl, _, rfl, z, dx, _, rfl, hz4, rfl, _, rfl, z, dx, p, f, b, 0 + (i : Int), 0, rfl, hz4, by omega, by omega, _, rfl, z, dx, _, rfl, hz4, rfl, _, rfl, z, dx, p, f, b, 0 + (i : Int), 1, rfl, hz4, by omega, by omega, (by show 2 ≤ sizeLine; decide), fun D hD => ?_⟩
        refine ⟨l, D, _, _, rfl, rfl, (Same.new hD) _ _ hl, upd_same, small _ (by simp [upto]; omega), fun l3 h3 => ?_⟩
        have eq : upto (33 + p.toNat + 2 * i) ++ [V.int (1 + p + 4 * 8 + 2 * (0 + (i : Int)) + 0), V.int (1 + p + 4 * 8 + 2 * (0 + (i : Int)) + 1)] = upto (33 + p.toNat + 2 * (i + 1)) := by
          have e2 := upto_cat (33 + p.toNat + 2 * i) 2
          have e3 : 33 + p.toNat + 2 * i + 2 = 33 + p.toNat + 2 * (i + 1) := by omega
          rw [e3] at e2
          rw [← e2]
          have e4 : (1 + p + 4 * 8 + 2 * (0 + (i : Int)) + 0) = (((33 + p.toNat + 2 * i : Nat)) : Int) + ((0 : Nat) : Int) := by omega
          have e5 : (1 + p + 4 * 8 + 2 * (0 + (i : Int)) + 1) = (((33 + p.toNat + 2 * i : Nat)) : Int) + ((1 : Nat) : Int) := by omega
          rw [e4, e5]
          rfl
        rw [eq]
        exact ⟨l3, _, by omega, rfl, (eS.trans (Same.new hD)).trans (Same.new h3), upd_same⟩
      rintro σ H4 ⟨l, x3, _, rfl, eS, hl⟩
      have hz4 := eS _ _ hz
      -- swap blocks
      refine ⟨_, rfl, _, rfl, z, _, dx, _, _, rfl, hz4, T.c_Sizes, T.n_Sizes_blocks, rfl, _, rfl, by omega, by omega, fun D hD => ?_⟩
      refine lc_range (lo := 0) (n := b.toNat) (fun j H' => ∃ G, j ≤ 12 ∧ H' = upd G D (.lst ((List.range j).map fun k : Nat => V.int ((((33 + p.toNat + 2 * f.toNat : Nat)) : Int) + (k : Int)))) ∧ Same H4 G ∧ G D = none)
        ⟨H4, Nat.zero_le _, rfl, Same.refl _, hD⟩ ?_ ?_
      · rintro j H' hj ⟨G, jm, rfl, eG, gD⟩
        have hzj := (Same.new (o := .lst ((List.range j).map fun k : Nat => V.int ((((33 + p.toNat + 2 * f.toNat : Nat)) : Int) + (k : Int)))) gD) _ _ (eG _ _ hz4)
        refine ⟨rfl, _, rfl, z, dx, _, rfl, hzj, rfl, _, rfl, z, dx, p, f, b, 0 + (j : Int), rfl, hzj, _, upd_same, ?_, G, by omega, ?_, eG, gD⟩
        · rw [List.length_map, List.length_range]
          exact Nat.lt_of_le_of_lt jm (by decide)
        · rw [upd_upd, List.range_succ, List.map_append]
          have e : (1 : Int) + p + 4 * 8 + 2 * f + (0 + (j : Int)) = (((33 + p.toNat + 2 * f.toNat : Nat)) : Int) + ((j : Nat) : Int) := by omega
          rw [e]
          rfl
      · rintro H' ⟨G, _, rfl, eG, gD⟩
        refine ⟨l, D, _, _, rfl, rfl, (Same.new gD) _ _ (eG _ _ hl), upd_same, small _ (by simp [upto]; omega), fun l3 h3 => ?_⟩
        rw [upto_cat]
        have e5 : Same H (upd (upd G D (.lst ((List.range b.toNat).map fun k : Nat => V.int (((33 + p.toNat + 2 * f.toNat : Nat) : Int) + (k : Int))))) l3 (.lst (upto (33 + p.toNat + 2 * f.toNat + b.toNat)))) := (eS.trans (eG.trans (Same.new gD))).trans (Same.new h3)
        have hl5 : upd (upd G D (.lst ((List.range b.toNat).map fun k : Nat => V.int (((33 + p.toNat + 2 * f.toNat : Nat) : Int) + (k : Int))))) l3 (.lst (upto (33 + p.toNat + 2 * f.toNat + b.toNat))) l3 = some (.lst (upto (33 + p.toNat + 2 * f.toNat + b.toNat))) := upd_same
        generalize upd (upd G D (.lst ((List.range b.toNat).map fun k : Nat => V.int (((33 + p.toNat + 2 * f.toNat : Nat) : Int) + (k : Int))))) l3 (.lst (upto (33 + p.toNat + 2 * f.toNat + b.toNat))) = H5 at e5 hl5 ⊢
        clear hD gD eG h3 hl hz4 eS
        -- file blocks
        refine ⟨2, rfl, by decide, by decide, for_range (lo := 0) (n := (2 : Int).toNat) (fun i σ H' => ∃ l x4, i ≤ 2 ∧ σ = [some (.ref z), some (.ref l), x2, x3, x4, none, none, none] ∧ Same H H' ∧ H' l = some (.lst (upto (33 + p.toNat + 2 * f.toNat + b.toNat + 4 * i))))
          ⟨l3, none, by omega, rfl, e5, hl5⟩ ?_ ?_⟩
        · rintro i σ H6 hi ⟨l, x4, i4, rfl, eS, hl⟩
          have hi4 : i < 2 := hi
          have hz6 := eS _ _ hz
          refine ⟨_, rfl, 4, rfl, by decide, by decide, fun D hD => ?_⟩
          refine lc_range (lo := 0) (n := (4 : Int).toNat) (fun j H' => ∃ G, j ≤ 4 ∧ H' = upd G D (.lst ((List.range j).map fun k : Nat => V.int ((((33 + p.toNat + 2 * f.toNat + b.toNat + 4 * i : Nat)) : Int) + (k : Int)))) ∧ Same H6 G ∧ G D = none)
            ⟨H6, Nat.zero_le _, rfl, Same.refl _, hD⟩ ?_ ?_
          · rintro j H' hj ⟨G, jm, rfl, eG, gD⟩
            have hzj := (Same.new (o := .lst ((List.range j).map fun k : Nat => V.int ((((33 + p.toNat + 2 * f.toNat + b.toNat + 4 * i : Nat)) : Int) + (k : Int)))) gD) _ _ (eG _ _ hz6)
            refine ⟨rfl, _, rfl, z, dx, _, rfl, hzj, rfl, _, rfl, _, rfl, z, dx, p, f, b, 0 + (i : Int), 0 + (j : Int), rfl, hzj, _, upd_same, ?_, G, by omega, ?_, eG, gD⟩
            · rw [List.length_map, List.length_range]
              exact Nat.lt_of_le_of_lt jm (by decide)
            · rw [upd_upd, List.range_succ, List.map_append]
              have e : (1 : Int) + p + 4 * 8 + 2 * f + b + 4 * (0 + (i : Int)) + (0 + (j : Int)) = (((33 + p.toNat + 2 * f.toNat + b.toNat + 4 * i : Nat)) : Int) + ((j : Nat) : Int) := by omega
              rw [e]
              rfl
          · rintro H' ⟨G, _, rfl, eG, gD⟩
            refine ⟨l, D, _, _, rfl, rfl, (Same.new gD) _ _ (eG _ _ hl), upd_same, small _ (by simp [upto]; omega), fun l3 h3 => ?_⟩
            rw [upto_cat]
            exact ⟨l3, _, by omega, rfl, (eS.trans (eG.trans (Same.new gD))).trans (Same.new h3), upd_same⟩
        · rintro σ H6 ⟨l, x4, _, rfl, eS, hl⟩
          refine ⟨_, rfl, q _ l eS ?_⟩
          have ea : 33 + p.toNat + 2 * f.toNat + b.toNat + 4 * (2 : Int).toNat = (cellsN p f b).toNat := by
            show 33 + p.toNat + 2 * f.toNat + b.toNat + 4 * 2 = _
            unfold cellsN
            omega
          rw [← ea]
          exact hl

theorem ok__law_values (T : Txt K mg a) : FnOk P w K mg base CX0 1 a.f__law_values a.d__law_values ["sizes"] (spFirst a.C_Sizes) := by
  refine T.F__law_values.ok sc__law_values (fun vs H Q E h => ?_) (fun cdv A outer s H vs Q E hr h => ?_)
  · obtain ⟨z, dx, p, f, b, rfl, _⟩ := h
    rfl
  · obtain ⟨z, dx, p, f, b, rfl, hz, okS, q⟩ := h
    refine ⟨_, (pss_cons (ps_set (i := 1) sc__law_values.nd rfl (Or.inl rfl) (pe_op op_rep (pe_lst (pa_cons pe_int pa_nil)) (pe_op op_add pe_int (pe_fld (pv 0) rfl))))
    (pss_one (ps_ret (pe_op op_cat (pe_op op_cat (pe_op op_cat (pv 1) (pe_op op_rep (pe_lst (pa_cons pe_non pa_nil)) pe_int)) (pe_op op_rep (pe_lst (pa_cons pe_int pa_nil)) (pe_op op_mul pe_int (pe_fld (pv 0) rfl)))) (pe_op op_rep (pe_lst (pa_cons (pe_tup (pa_cons pe_int (pa_cons pe_int pa_nil))) pa_nil)) (pe_op op_add (pe_fld (pv 0) rfl) pe_int)))))), ?_⟩
    obtain ⟨⟨p0, p1⟩, ⟨f0, f1⟩, ⟨b0, b1⟩⟩ := okSz_at okS
    have small : ∀ n : Nat, n ≤ 1000 → n ≤ sizeLine := fun n h => Nat.le_trans h (by decide)
    refine ⟨(by show 1 ≤ sizeLine; decide), fun l1 h1 => ?_⟩
    have e1 := Same.new (o := .lst [.int 0]) h1
    refine ⟨_, rfl, z, _, dx, _, _, rfl, e1 _ _ hz, T.c_Sizes, T.n_Sizes_processors, rfl, _, _, rfl, rfl, l1, _, _, rfl, rfl, upd_same, by omega, by omega, small _ (by simp; omega), fun l2 h2 => ?_⟩
    have hz2 := (Same.new (o := .lst (List.replicate (1 + p).toNat [V.int 0]).flatten) h2) _ _ (e1 _ _ hz)
    have hl2 : upd (upd H l1 (.lst [.int 0])) l2 (.lst (List.replicate (1 + p).toNat [V.int 0]).flatten) l2 = some (.lst (List.replicate (1 + p).toNat (V.int 0))) := by rw [upd_same, List.flatten_replicate_singleton]
    have s2 := e1.trans (Same.new (o := .lst (List.replicate (1 + p).toNat [V.int 0]).flatten) h2)
    generalize upd (upd H l1 (.lst [.int 0])) l2 (.lst (List.replicate (1 + p).toNat [V.int 0]).flatten) = H2 at hz2 hl2 s2 ⊢
    refine ⟨_, rfl, (by show 1 ≤ sizeLine; decide), fun l3 h3 => ?_⟩
    have e3 := Same.new (o := .lst [.non]) h3
    refine ⟨l3, _, _, rfl, rfl, upd_same, by decide, by decide, small _ (by simp), fun l4 h4 => ?_⟩
    have e4 := Same.new (o := .lst (List.replicate (32 : Int).toNat [V.non]).flatten) h4
    have hl4 : upd (upd H2 l3 (.lst [.non])) l4 (.lst (List.replicate (32 : Int).toNat [V.non]).flatten) l4 = some (.lst (List.replicate 32 V.non)) := by rw [upd_same, List.flatten_replicate_singleton]; rfl
    have s4 := s2.trans (e3.trans e4)
    have hz4 := (e3.trans e4) _ _ hz2
    have hl24 := (e3.trans e4) _ _ hl2
    generalize upd (upd H2 l3 (.lst [.non])) l4 (.lst (List.replicate (32 : Int).toNat [V.non]).flatten) = H4 at s4 hz4 hl4 hl24 ⊢
    refine ⟨l2, l4, _, _, rfl, rfl, hl24, hl4, small _ (by simp; omega), fun l9 h9 => ?_⟩
    have e9 := Same.new (o := .lst (List.replicate (1 + p).toNat (V.int 0) ++ List.replicate 32 V.non)) h9
    have hz9 := e9 _ _ hz4
    have hl9 : upd H4 l9 (.lst (List.replicate (1 + p).toNat (V.int 0) ++ List.replicate 32 V.non)) l9 = some (.lst (List.replicate (1 + p).toNat (V.int 0) ++ List.replicate 32 V.non)) := upd_same
    have s9 := s4.trans e9
    generalize upd H4 l9 (.lst (List.replicate (1 + p).toNat (V.int 0) ++ List.replicate 32 V.non)) = H9 at hz9 hl9 s9 ⊢
    refine ⟨(by show 1 ≤ sizeLine; decide), fun l5 h5 => ?_⟩
    have e5 := Same.new (o := .lst [.int 0]) h5
    refine ⟨_, rfl, z, _, dx, _, _, rfl, e5 _ _ hz9, T.c_Sizes, T.n_Sizes_frames, rfl, _, _, rfl, rfl, .inl ⟨by decide, by decide⟩, l5, _, _, rfl, rfl, upd_same, by omega, by omega, small _ (by simp; omega), fun l6 h6 => ?_⟩
    have e6 := Same.new (o := .lst (List.replicate (2 * f).toNat [V.int 0]).flatten) h6
    have hl6 : upd (upd H9 l5 (.lst [.int 0])) l6 (.lst (List.replicate (2 * f).toNat [V.int 0]).flatten) l6 = some (.lst (List.replicate (2 * f).toNat (V.int 0))) := by rw [upd_same, List.flatten_replicate_singleton]
    have s6 := s9.trans (e5.trans e6)
    have hz6 := (e5.trans e6) _ _ hz9
    have hl96 := (e5.trans e6) _ _ hl9
    generalize upd (upd H9 l5 (.lst [.int 0])) l6 (.lst (List.replicate (2 * f).toNat [V.int 0]).flatten) = H6 at s6 hz6 hl6 hl96 ⊢
    refine ⟨l9, l6, _, _, rfl, rfl, hl96, hl6, small _ (by simp; omega), fun l10 h10 => ?_⟩
    have e10 := Same.new (o := .lst (List.replicate (1 + p).toNat (V.int 0) ++ List.replicate 32 V.non ++ List.replicate (2 * f).toNat (V.int 0))) h10
    have hz10 := e10 _ _ hz6
    have hl10 : upd H6 l10 (.lst (List.replicate (1 + p).toNat (V.int 0) ++ List.replicate 32 V.non ++ List.replicate (2 * f).toNat (V.int 0))) l10 = some (.lst (List.replicate (1 + p).toNat (V.int 0) ++ List.replicate 32 V.non ++ List.replicate (2 * f).toNat (V.int 0))) := upd_same
    have s10 := s6.trans e10
    generalize upd H6 l10 (.lst (List.replicate (1 + p).toNat (V.int 0) ++ List.replicate 32 V.non ++ List.replicate (2 * f).toNat (V.int 0))) = H10 at hz10 hl10 s10 ⊢
    refine ⟨(by show 2 ≤ sizeLine; decide), fun t ht => ⟨(by show 1 ≤ sizeLine; decide), fun l7 h7 => ?_⟩⟩
    have e7 := (Same.new (o := .tup [.int 0, .int 0]) ht).trans (Same.new (o := .lst [.ref t]) h7)
    have ht7 : upd (upd H10 t (.tup [.int 0, .int 0])) l7 (.lst [.ref t]) t = some (.tup [.int 0, .int 0]) := (Same.new h7) _ _ upd_same
    refine ⟨_, rfl, z, _, dx, _, _, rfl, e7 _ _ hz10, T.c_Sizes, T.n_Sizes_blocks, rfl, _, _, rfl, rfl, l7, _, _, rfl, rfl, upd_same, by omega, by omega, small _ (by simp; omega), fun l8 h8 => ?_⟩
    have e8 := Same.new (o := .lst (List.replicate (b + 8).toNat [V.ref t]).flatten) h8
    have hl8 : upd (upd (upd H10 t (.tup [.int 0, .int 0])) l7 (.lst [.ref t])) l8 (.lst (List.replicate (b + 8).toNat [V.ref t]).flatten) l8 = some (.lst (List.replicate (b + 8).toNat (V.ref t))) := by rw [upd_same, List.flatten_replicate_singleton]
    have s8 := s10.trans (e7.trans e8)
    have hl108 := (e7.trans e8) _ _ hl10
    have ht8 := e8 _ _ ht7
    generalize upd (upd (upd H10 t (.tup [.int 0, .int 0])) l7 (.lst [.ref t])) l8 (.lst (List.replicate (b + 8).toNat [V.ref t]).flatten) = H8 at s8 hl8 hl108 ht8 ⊢
    refine ⟨l10, l8, _, _, rfl, rfl, hl108, hl8, small _ (by simp; omega), fun l11 h11 => ?_⟩
    have e11 := Same.new (o := .lst (firstV p f b t)) h11
    exact q _ t l11 (s8.trans e11) (s8.free h11) (e11 _ _ ht8) upd_same
def spTold (C : Addr) : Sp := fun vs H Q _ => ∃ p f b : Int, vs = [.int p, .int f, .int b] ∧ (okSz p f b = true → ∀ H' z dx, Same H H' → H' z = some (.ins C dx (szF p f b)) → Q (.ref z) H') ∧ (okSz p f b = false → ∀ H' q, Same H H' → H' q = some (.lst [.bl true]) → Q (.ref q) H')
theorem ok__law_told (T : Txt K mg a) : FnOk P w K mg base CX0 6 a.f__law_told a.d__law_told ["processors", "frames", "blocks"] (spTold a.C_Sizes) := by
  refine T.F__law_told.ok sc__law_told (fun vs H Q E h => ?_) (fun cdv A outer s H vs Q E hr h => ?_)
  · obtain ⟨p, f, b, rfl, _⟩ := h
    rfl
  · obtain ⟨p, f, b, rfl, yes, no⟩ := h
    refine ⟨_, (pss_one (ps_try_as (i := 3) rfl rfl sc__law_told.nd rfl rfl ⟨rfl, by decide, Or.inl T.m_PageError⟩ takes0 (fun W pn xe tk _ => (pss_one (ps_ret (pe_makeW T.mk_Sizes (ok_Sizes_init T) (hr.mono (by decide)) rfl T.m_Sizes T.B_Sizes_init (fun σ => passAt tk σ) (pa_cons (pv 0) (pa_cons (pv 1) (pa_cons (pv 2) pa_nil)))))))
    (fun ea oe cls d pn hz hf => pss_under (P := cls = .ref a.C_NotValid ∧ d = none) fun hh => by
      obtain ⟨rfl, rfl⟩ := hh
      exact (pss_one (ps_ret (pe_lst (pa_cons (pe_callB (call_isE T.e_NotValid hz hf) (by rfl) T.b_isinstance (by decide +kernel) (pa_cons (pv 3) (pa_cons (pe_glob (v := .ref a.C_NotValid) rfl T.m_NotValid rfl) pa_nil))) pa_nil))))))), ?_⟩
    refine ⟨_, rfl, _, rfl, _, rfl, fun z dx nz ndx nzd => ?_⟩
    have e1 : Same H (upd (upd H dx (.own z)) z (.ins a.C_Sizes dx [])) := fun c u h => by
      rw [upd_ne (ne_of_none h nz), upd_ne (ne_of_none h ndx)]
      exact h
    refine ⟨z, dx, p, f, b, rfl, upd_same, fun k H' s2 hz => ⟨rfl, ?_⟩, fun k H1 e2 => ?_⟩
    · exact yes k H' z dx (fun c u h => s2 _ _ (ne_of_none h nz) (e1 _ _ h)) hz
    · refine ⟨true, PySem.W.exm_ref T.p1 T.p2 T.p3 T.p4, fun _ ea hea => ?_, fun z => nomatch z⟩
      refine ⟨⟨rfl, rfl⟩, _, rfl, _, _, _, rfl, (fun u r => r), T.q4, (by show 1 ≤ sizeLine; decide), fun q hq => ?_⟩
      exact no k _ q ((e1.trans e2).trans (Same.new hq)) upd_same
def spLaw (K : PySem.W.Frag) : Sp := fun vs H Q _ => ∃ (p : Addr) (ns : List Int), vs = [.ref p] ∧ SqL K H p (ns.map V.int) ∧ ns.length ≤ 63 ∧ ∀ H', Q (.bl true) H'
theorem int_tup_refl (ns : List Int) : PyData.eqv (.tuple (ns.map PyData.int)) (.tuple (ns.map PyData.int)) = true := (sh_tup (n := 0) fun d hd => by
  obtain ⟨e, _, rfl⟩ := List.mem_map.mp hd
  exact sh_int e).refl
theorem sh_it (ns : List Int) : Sh 1 (.tuple (ns.map PyData.int)) := sh_tup fun d hd => by
  obtain ⟨e, _, rfl⟩ := List.mem_map.mp hd
  exact sh_int e
theorem ok_law (T : Txt K mg a) : FnOk P w K mg base CX0 8 a.f_law a.d_law ["script"] (spLaw K) := by
  refine T.F_law.ok sc_law (fun vs H Q E h => ?_) (fun cdv A outer s H vs Q E hr h => ?_)
  · obtain ⟨p, ns, rfl, _⟩ := h
    rfl
  · obtain ⟨sp, ns, rfl, hS, hlen, q⟩ := h
    refine ⟨_, (pss_cons (ps_if (pt_cmpR (op_neD hr.units) (pe_tup (pa_cons (pe_con rfl T.k_SPACES) (pa_cons (pe_con rfl T.k_PAGES) (pa_cons (pe_con rfl T.k_CELLS) (pa_cons (pe_con rfl T.k_FILES) (pa_cons (pe_con rfl T.k_FILE_PAGES) pa_nil)))))) (pe_tup (pa_cons pe_int (pa_cons pe_int (pa_cons pe_int (pa_cons pe_int (pa_cons pe_int pa_nil)))))) (nomark _)) (pss_one (ps_ret pe_bl)) pss_nil)
    (pss_cons (ps_set (i := 1) sc_law.nd rfl (Or.inl rfl) (pe_call (ok__law_tape T) (hr.mono (by decide)) rfl T.m__law_tape T.F__law_tape.kp T.B__law_tape .nil pass0 (pa_cons (pv 0) pa_nil)))
    (pss_cons (ps_set (i := 2) sc_law.nd rfl (Or.inl rfl) (pe_op op_mod (pe_call (ok__law_at T) (hr.mono (by decide)) rfl T.m__law_at T.F__law_at.kp T.B__law_at .nil pass0 (pa_cons (pv 1) (pa_cons pe_int pa_nil))) pe_int))
    (pss_cons (ps_set (i := 3) sc_law.nd rfl (Or.inl rfl) (pe_op op_mod (pe_call (ok__law_at T) (hr.mono (by decide)) rfl T.m__law_at T.F__law_at.kp T.B__law_at .nil pass0 (pa_cons (pv 1) (pa_cons pe_int pa_nil))) pe_int))
    (pss_cons (ps_set (i := 4) sc_law.nd rfl (Or.inl rfl) (pe_op op_sub (pe_op op_mod (pe_call (ok__law_at T) (hr.mono (by decide)) rfl T.m__law_at T.F__law_at.kp T.B__law_at .nil pass0 (pa_cons (pv 1) (pa_cons pe_int pa_nil))) pe_int) pe_int))
    (pss_mid (ps_if (pt_cmpR (op_eq) (pe_op op_mod (pe_call (ok__law_at T) (hr.mono (by decide)) rfl T.m__law_at T.F__law_at.kp T.B__law_at .nil pass0 (pa_cons (pv 1) (pa_cons pe_int pa_nil))) pe_int) pe_int (nomark _)) (pss_cons (ps_set (i := 2) sc_law.nd rfl (Or.inl rfl) (pe_op op_add pe_int (pe_op op_mod (pv 2) pe_int)))
    (pss_one (ps_set (i := 3) sc_law.nd rfl (Or.inl rfl) (pe_op op_add pe_int (pe_op op_mod (pv 3) pe_int))))) pss_nil)
    (pss_cons (ps_set (i := 5) sc_law.nd rfl (Or.inl rfl) (pe_call (ok__law_told T) (hr.mono (by decide)) rfl T.m__law_told T.F__law_told.kp T.B__law_told .nil pass0 (pa_cons (pv 2) (pa_cons (pv 3) (pa_cons (pv 4) pa_nil)))))
    (pss_cons (ps_if (PW.pt (pw_or (pt_cmpR (op_lt) (pv 2) pe_int (nomark _)) (pw_or (pt_cmpR (op_gt) (pv 2) pe_int (nomark _)) (pw_or (pt_cmpR (op_lt) (pv 3) pe_int (nomark _)) (pw_or (pt_cmpR (op_gt) (pv 3) pe_int (nomark _)) (pw_or (pt_cmpR (op_lt) (pv 4) pe_int (nomark _)) (pw_or1 (pt_cmpR (op_gt) (pv 4) pe_int (nomark _))))))))) (pss_one (ps_ret (pe_cmpR (op_eqD hr.units) (pv 5) (pe_lst (pa_cons pe_bl pa_nil)) (nomark _)))) pss_nil)
    (pss_cons (ps_if (PW.pt (pw_or (pt_val (pe_callB call_isi (by rfl) T.b_isinstance (by decide +kernel) (pa_cons (pv 5) (pa_cons (pe_bltn (v := .ty "list") rfl T.b_list (by decide +kernel) rfl) pa_nil)))) (pw_or1 (pt_cmpR (op_neD hr.units) (pe_tup (pa_cons (pe_fld (pv 5) rfl) (pa_cons (pe_fld (pv 5) rfl) (pa_cons (pe_fld (pv 5) rfl) pa_nil)))) (pe_tup (pa_cons (pv 2) (pa_cons (pv 3) (pa_cons (pv 4) pa_nil)))) (nomark _))))) (pss_one (ps_ret pe_bl)) pss_nil)
    (pss_cons (ps_set (i := 6) sc_law.nd rfl (Or.inl rfl) (pe_meth0 (pv 5) T.c_Sizes T.M_Sizes_cells (ok_Sizes_cells T) (hr.mono (by decide)) T.B_Sizes_cells .nil pass0))
    (pss_cons (ps_if (pt_cmpR (op_neD hr.units) (pe_call (ok__law_listed T) (hr.mono (by decide)) rfl T.m__law_listed T.F__law_listed.kp T.B__law_listed .nil pass0 (pa_cons (pv 5) pa_nil)) (pe_lc (own := [("k", 11)]) (g := gName 11) (tt := tYes) rfl sc_law.nd (pi_range1 rfl T.b_range (pa_cons (pv 6) pa_nil)) (blkOk_by (own := [("k", 11)]) (N := ["script", "tape", "processors", "frames", "blocks", "sizes", "many", "memory", "due", "cell", "told", "k"]) (sc := defScope s_law) (by decide +kernel)) (fun _ _ _ _ _ => (pg_name (i := 11) sc_law.nd rfl (Or.inl rfl))) (fun _ _ _ _ _ => pts_nil) (fun _ _ _ _ _ => (pv 11))) (nomark _)) (pss_one (ps_ret pe_bl)) pss_nil)
    (pss_cons (ps_set (i := 7) sc_law.nd rfl (Or.inl rfl) (pe_make T.mk_Memory (ok_Memory_init T) (hr.mono (by decide)) rfl T.m_Memory T.B_Memory_init .nil pass0 (pa_cons (pv 5) pa_nil)))
    (pss_cons (ps_set (i := 8) sc_law.nd rfl (Or.inl rfl) (pe_call (ok__law_values T) (hr.mono (by decide)) rfl T.m__law_values T.F__law_values.kp T.B__law_values .nil pass0 (pa_cons (pv 5) pa_nil)))
    (pss_cons (ps_if (PW.pt (pw_or (pt_cmpR (op_ne) (pe_callB call_len_seq (by rfl) T.b_len (by decide +kernel) (pa_cons (pv 8) pa_nil)) (pv 6) (nomark _)) (pw_or (pt_cmpR (op_ne) (pe_fld (pv 7) rfl) pe_int (nomark _)) (pw_or1 (pt_cmpR (op_neD hr.units) (pe_meth0 (pv 7) T.c_Memory T.M_Memory_log (ok_Memory_log T) (hr.mono (by decide)) T.B_Memory_log .nil pass0) (pe_lst pa_nil) (nomark _)))))) (pss_one (ps_ret pe_bl)) pss_nil)
    (pss_cons (ps_for PassesOwn.never rfl (pi_range1 rfl T.b_range (pa_cons (pv 6) pa_nil)) (pg_name (i := 9) sc_law.nd rfl (Or.inl rfl))
    (pss_cons (ps_set (i := 10) sc_law.nd rfl (Or.inl rfl) (pe_meth (pv 7) T.c_Memory T.M_Memory_peek (ok_Memory_peek T) (hr.mono (by decide)) T.B_Memory_peek .nil passL (pa_cons (pv 9) pa_nil)))
    (pss_one (ps_if (pt_cmpR (op_isN) (pe_ix ix_list (pv 8) (pv 9) (fun _ _ => rfl)) pe_non (by rfl)) (pss_one (ps_if (pt_cmpR (op_notN) (pv 10) pe_non (by rfl)) (pss_one (ps_ret pe_bl)) pss_nil)) (pss_one (ps_if (PW.pt (pw_or (pt_val (pe_callB call_isi (by rfl) T.b_isinstance (by decide +kernel) (pa_cons (pv 10) (pa_cons (pe_bltn (v := .ty "bool") rfl T.b_bool (by decide +kernel) rfl) pa_nil)))) (pw_or1 (pt_cmpR (op_neD hr.units) (pv 10) (pe_ix ix_list (pv 8) (pv 9) (fun _ _ => rfl)) (nomark _))))) (pss_one (ps_ret pe_bl)) pss_nil))))))
    (pss_cons (ps_for PassesOwn.never rfl (pi_range1 rfl T.b_range (pa_cons (pv 2) pa_nil)) (pg_name (i := 11) sc_law.nd rfl (Or.inl rfl))
    (pss_one (ps_if (PW.pt (pw_or (pt_cmpR (op_neD hr.units) (pe_meth0 (pe_ix ix_list (pe_fld (pv 7) rfl) (pv 11) (fun _ _ => rfl)) T.c_Buffer T.M_Buffer_entries (ok_Buffer_entries T) (hr.mono (by decide)) T.B_Buffer_entries .nil pass0) (pe_lst pa_nil) (nomark _)) (pw_or1 (pt_cmpR (op_neD hr.units) (pe_meth0 (pe_ix ix_list (pe_fld (pv 7) rfl) (pv 11) (fun _ _ => rfl)) T.c_Box T.M_Box_letters (ok_Box_letters T) (hr.mono (by decide)) T.B_Box_letters .nil pass0) (pe_lst pa_nil) (nomark _))))) (pss_one (ps_ret pe_bl)) pss_nil)))
    (pss_one (ps_ret (pe_and (pe_cmpR (op_eq) (pe_callB call_len_seq (by rfl) T.b_len (by decide +kernel) (pa_cons (pe_fld (pv 7) rfl) pa_nil)) (pv 2) (nomark _)) (pe_one (pe_cmpR (op_eq) (pe_callB call_len_seq (by rfl) T.b_len (by decide +kernel) (pa_cons (pe_fld (pv 7) rfl) pa_nil)) (pv 2) (nomark _)))))))))))))))))))))), ?_⟩
    refine ⟨(by show 5 ≤ sizeLine; decide), fun t1 h1 => ⟨(by show 5 ≤ sizeLine; decide), fun t2 h2 => ?_⟩⟩
    have g2 := Same.new (o := .tup [.int 4, .int 8, .int 2, .int 2, .int 4]) h2
    have g1 := (Same.new (o := .tup [.int 4, .int 8, .int 2, .int 2, .int 4]) h1).trans g2
    refine ⟨.tuple ([4, 8, 2, 2, 4].map PyData.int), .tuple ([4, 8, 2, 2, 4].map PyData.int), .tup (SqT.of (g2 _ _ upd_same)) (dpAll_ints [4, 8, 2, 2, 4]), .tup (SqT.of upd_same) (dpAll_ints [4, 8, 2, 2, 4]), (sh_it _).ok, (sh_it _).ok, _, rfl, ifF (by rw [int_tup_refl]; rfl) ?_⟩
    refine ⟨_, rfl, sp, ns, rfl, g1.seq hS, hlen, fun H1 tp ts e1 tp0 tpL dg tl => ?_⟩
    refine ⟨_, rfl, tp, ts, 0, rfl, SqL.of tpL, by decide, dg, fun x0 x0a x0b => ⟨_, _, rfl, rfl, (by show (0 : Int) < 5; decide), ?_⟩⟩
    refine ⟨_, rfl, tp, ts, 1, rfl, SqL.of tpL, by decide, dg, fun x1 x1a x1b => ⟨_, _, rfl, rfl, (by show (0 : Int) < 15; decide), ?_⟩⟩
    refine ⟨_, rfl, tp, ts, 2, rfl, SqL.of tpL, by decide, dg, fun x2 x2a x2b => ⟨_, _, rfl, rfl, (by show (0 : Int) < 16; decide), _, _, rfl, rfl, ?_⟩⟩
    refine ⟨fun σ' H' => H' = H1 ∧ ∃ p f b : Int, σ' = [some (.ref sp), some (.ref tp), some (.int p), some (.int f), some (.int b), none, none, none, none, none, none, none], ?_, ?_⟩
    · refine ⟨_, rfl, tp, ts, 3, rfl, SqL.of tpL, by decide, dg, fun x3 x3a x3b => ⟨_, _, rfl, rfl, (by show (0 : Int) < 2; decide), rfl, _, rfl, ite2 (fun c => ?_) (fun c => ⟨rfl, _, _, _, rfl⟩)⟩⟩
      exact ⟨_, rfl, _, _, rfl, rfl, (by show (0 : Int) < 3; decide), _, _, rfl, rfl, _, rfl, _, _, rfl, rfl, (by show (0 : Int) < 11; decide), _, _, rfl, rfl, rfl, _, _, _, rfl⟩
    rintro σ1 H1' ⟨rfl, p, f, b, rfl⟩
    refine ⟨_, rfl, _, rfl, _, rfl, p, f, b, rfl, fun okS H2 z dx e2 hz => ?_, fun okS H2 q2 e2 hq2 => ?_⟩
    · obtain ⟨⟨p0, p1⟩, ⟨f0, f1⟩, ⟨b0, b1⟩⟩ := okSz_at okS
      refine ⟨_, rfl, _, _, rfl, rfl, _, rfl, ifF (decide_eq_false (by omega)) ⟨_, rfl, _, _, rfl, rfl, _, rfl, ifF (decide_eq_false (by omega)) ⟨_, rfl, _, _, rfl, rfl, _, rfl, ifF (decide_eq_false (by omega)) ⟨_, rfl, _, _, rfl, rfl, _, rfl, ifF (decide_eq_false (by omega)) ⟨_, rfl, _, _, rfl, rfl, _, rfl, ifF (decide_eq_false (by omega))
        ⟨_, rfl, _, _, rfl, rfl, _, rfl, ifF (decide_eq_false (by omega)) ?_⟩⟩⟩⟩⟩⟩
      refine ⟨_, rfl, _, _, _, _, _, rfl, .ty _, .base (.ins hz T.c_Sizes T.ic_Sizes T.e6 T.e7 T.im_Sizes), T.kl_Sizes, _, rfl, iteF ?_⟩
      refine ⟨_, rfl, z, _, dx, _, _, rfl, hz, T.c_Sizes, T.n_Sizes_processors, rfl, _, rfl, z, _, dx, _, _, rfl, hz, T.c_Sizes, T.n_Sizes_frames, rfl, _, rfl, z, _, dx, _, _, rfl, hz, T.c_Sizes, T.n_Sizes_blocks, rfl, (by show 3 ≤ sizeLine; decide), fun t3 h3 => ⟨_, rfl, _, rfl, _, rfl, (by show 3 ≤ sizeLine; decide), fun t4 h4 => ?_⟩⟩
      have g4 := Same.new (o := .tup [.int p, .int f, .int b]) h4
      have g3 := (Same.new (o := .tup [.int p, .int f, .int b]) h3).trans g4
      refine ⟨.tuple ([p, f, b].map PyData.int), .tuple ([p, f, b].map PyData.int), .tup (SqT.of (g4 _ _ upd_same)) (dpAll_ints [p, f, b]), .tup (SqT.of upd_same) (dpAll_ints [p, f, b]), (sh_it _).ok, (sh_it _).ok, _, rfl, ifF (by rw [int_tup_refl]; rfl) ?_⟩
      have hz4 := g3 _ _ hz
      generalize upd (upd H2 t3 (.tup [.int p, .int f, .int b])) t4 (.tup [.int p, .int f, .int b]) = H4 at hz4 ⊢
      clear g3 g4 h3 h4 hz
      -- many
      refine ⟨_, rfl, z, dx, _, rfl, hz4, rfl, z, dx, p, f, b, rfl, hz4, ?_⟩
      refine ⟨_, rfl, z, dx, p, f, b, rfl, hz4, okS, fun H5 q5 e5 hq5 => ?_⟩
      have cN : 0 ≤ cellsN p f b ∧ cellsN p f b ≤ 1000 := by unfold cellsN; omega
      refine ⟨_, rfl, _, rfl, by omega, by omega, fun D hD => ?_⟩
      refine lc_range (lo := 0) (n := (cellsN p f b).toNat) (fun j H' => j ≤ 1000 ∧ H' = upd H5 D (.lst (upto j))) ⟨Nat.zero_le _, rfl⟩ ?_ ?_
      · rintro j H' hj ⟨jm, rfl⟩
        refine ⟨rfl, _, rfl, _, upd_same, ?_, by omega, ?_⟩
        · rw [upto_len]
          exact Nat.lt_of_le_of_lt jm (by decide)
        · rw [upd_upd]
          have e : (0 + (j : Int)) = ((j : Nat) : Int) := Int.zero_add _
          rw [e]
          unfold upto
          rw [List.range_succ, List.map_append]
          rfl
      rintro H6 ⟨_, rfl⟩
      have e6 := Same.new (o := .lst (upto (cellsN p f b).toNat)) hD
      have uD : ∀ n, upto n = ((List.range n).map fun k : Nat => (k : Int)).map V.int := fun n => by unfold upto; rw [List.map_map]; rfl
      rw [uD] at hq5
      have hD6 : upd H5 D (.lst (upto (cellsN p f b).toNat)) D = some (.lst (((List.range (cellsN p f b).toNat).map fun k : Nat => (k : Int)).map V.int)) := by rw [upd_same, uD]
      refine ⟨_, _, .lst (SqL.of (e6 _ _ hq5)) (dpAll_ints _), .lst (SqL.of hD6) (dpAll_ints _), (shInts _).ok, (shInts _).ok, _, rfl, ifF (by rw [(shInts _).refl]; rfl) ?_⟩
      have hz6 := e6 _ _ (e5 _ _ hz4)
      generalize upd H5 D (.lst (upto (cellsN p f b).toNat)) = H6 at hz6 ⊢
      clear hq5 hD6 hD e6 e5 hz4
      -- memory
      refine ⟨_, rfl, fun m mdx nm nmx nmd => ?_⟩
      have gm : Same H6 (upd (upd H6 mdx (.own m)) m (.ins a.C_Memory mdx [])) := fun c u h => by
        rw [upd_ne (ne_of_none h nm), upd_ne (ne_of_none h nmx)]
        exact h
      refine ⟨m, mdx, z, dx, p, f, b, rfl, upd_same, gm _ _ hz6, okS, fun H7 x xm xdx xz xdz xp xf xb s7 fr7 hM => ⟨rfl, ?_⟩⟩
      subst xm xp xf xb
      have hz7 : H7 z = some (.ins a.C_Sizes dx (szF x.p x.f x.b)) := by
        have := hM.sz
        rw [xz, xdz] at this
        exact this
      clear s7 fr7 gm hz6
      -- due
      refine ⟨_, rfl, z, dx, x.p, x.f, x.b, rfl, hz7, okS, fun H8 t dl e8 _ ht8 hdl => ?_⟩
      have hM8 := hM.same e8
      have hDue := first_dp (K := K) x.p x.f x.b ht8
      have dueLen : ((firstV x.p x.f x.b t).length : Int) = cellsN x.p x.f x.b := by
        rw [dpAll_len hDue]
        exact first_len okS
      refine ⟨_, rfl, dl, _, rfl, .inl (SqL.of hdl), _, rfl, rfl, _, rfl, ifF (by rw [dueLen]; simp) ?_⟩
      refine ⟨_, rfl, x.m, _, x.dx, _, _, rfl, hM8.ins, T.c_Memory, T.n_Memory_count, rfl, rfl, _, rfl, ifF (by simp [initS]) ?_⟩
      refine ⟨_, rfl, x.m, x.dx, _, rfl, hM8.ins, rfl, x, _, rfl, hM8, fun vs q9 hq9 hL9 => ⟨Nat.zero_le _, fun l10 h10 => ?_⟩⟩
      have e9 := Same.new (o := .lst vs) hq9
      have e10 := Same.new (o := .lst []) h10
      have hv : vs = [] := by
        have := dpAll_len hL9
        exact List.eq_nil_of_length_eq_zero (by rw [this]; rfl)
      subst hv
      refine ⟨.list [], .list [], .lst (SqL.of (e10 _ _ upd_same)) .nil, .lst (SqL.of upd_same) .nil, shNil.ok, shNil.ok, _, rfl, ifF (by rw [shNil.refl]; rfl) ?_⟩
      have hM10 := (hM8.same e9).same e10
      have hdl10 := e10 _ _ (e9 _ _ hdl)
      have hDue10 := dpAll_mono e10 (dpAll_mono e9 hDue)
      generalize upd (upd H8 q9 (.lst [])) l10 (.lst []) = H10 at hM10 hdl10 hDue10 ⊢
      clear e9 e10 hM8 hDue hdl hM e8 hq9 hL9 h10
      -- the cells
      refine ⟨_, rfl, _, rfl, by omega, by omega, for_range (lo := 0) (n := (cellsN x.p x.f x.b).toNat) (fun i σ H' => ∃ x9 x10, σ = [some (.ref sp), some (.ref tp), some (.int x.p), some (.int x.f), some (.int x.b), some (.ref z), some (.int (cellsN x.p x.f x.b)), some (.ref x.m), some (.ref dl), x9, x10, none] ∧ Same H10 H')
        ⟨none, none, rfl, Same.refl _⟩ ?_ ?_⟩
      · rintro i σ H11 hi ⟨x9, x10, rfl, eS⟩
        have hM11 := hM10.same eS
        have hDue11 := dpAll_mono eS hDue10
        have hiL : i < (firstD x.p x.f x.b).length := by
          have := first_len okS
          omega
        have hiV : i < (firstV x.p x.f x.b t).length := by rw [dpAll_len hDue11]; exact hiL
        obtain ⟨d, hd1, hd2⟩ := dpAll_get hDue11 (List.getElem?_eq_getElem hiV)
        refine ⟨_, rfl, x.m, x.dx, _, rfl, hM11.ins, rfl, _, rfl, x, _, _, rfl, hM11, fun j ej v d2 h1 h2 => ?_, fun k => absurd ⟨by omega, by omega⟩ k⟩
        have ej2 : j = i := by omega
        subst ej2
        have ed : d2 = d := by
          have h3 : (firstD x.p x.f x.b)[j]? = some d2 := h1
          rw [hd1] at h3
          exact (Option.some.inj h3).symm
        subst ed
        have shD : Sh 20 d2 := (hM11.shC d2 (mem_of_get h1)).2
        have at0 : atI (firstV x.p x.f x.b t) (0 + (j : Int)) = some (firstV x.p x.f x.b t)[j] := at_of (j := j) (by omega) (List.getElem?_eq_getElem hiV)
        have hdl11 := eS _ _ hdl10
        refine ⟨_, rfl, _, rfl, dl, _, _, _, rfl, rfl, SqL.of hdl11, at0, rfl, _, rfl, ?_⟩
        have inv : ∃ x9 x10, ([some (.ref sp), some (.ref tp), some (.int x.p), some (.int x.f), some (.int x.b), some (.ref z), some (.int (cellsN x.p x.f x.b)), some (.ref x.m), some (.ref dl), some (.int (0 + (j : Int))), some v, none] : List (Option V)) = [some (.ref sp), some (.ref tp), some (.int x.p), some (.int x.f), some (.int x.b), some (.ref z), some (.int (cellsN x.p x.f x.b)), some (.ref x.m), some (.ref dl), x9, x10, none] ∧ Same H10 H11 := ⟨_, _, rfl, eS⟩
        generalize (firstV x.p x.f x.b t)[j] = v2 at hd2 at0 ⊢
        have hdN : d2 = .none ∨ (v2 ≠ .non ∧ ∃ c, (d2 = .int c ∨ d2 = .tuple [.int 0, .int 0])) := by
          have hm : d2 ∈ firstD x.p x.f x.b := mem_of_get hd1
          unfold firstD at hm
          rcases List.mem_append.mp hm with hm | hm
          · rcases List.mem_append.mp hm with hm | hm
            · rcases List.mem_append.mp hm with hm | hm
              · have e := List.eq_of_mem_replicate hm
                subst e
                cases hd2
                exact .inr ⟨fun z => (nomatch z), _, .inl rfl⟩
              · exact .inl (List.eq_of_mem_replicate hm)
            · have e := List.eq_of_mem_replicate hm
              subst e
              cases hd2
              exact .inr ⟨fun z => (nomatch z), _, .inl rfl⟩
          · have e := List.eq_of_mem_replicate hm
            subst e
            cases hd2
            exact .inr ⟨fun z => (nomatch z), 0, .inr rfl⟩
        rcases hdN with rfl | ⟨nn, c, hd3⟩
        · cases hd2
          cases h2
          exact iteT ⟨_, rfl, rfl, _, rfl, iteF inv⟩
        · refine ifF (decide_eq_false nn) ⟨_, rfl, _, _, _, _, _, rfl, .ty _, tyx h2, kit_bool _, _, rfl, ?_⟩
          have nb : isBool d2 = false := by rcases hd3 with rfl | rfl <;> rfl
          rw [nb]
          refine iteF ⟨_, rfl, _, rfl, _, rfl, dl, _, _, _, rfl, rfl, SqL.of hdl11, at0, _, _, h2, hd2, shD.ok, shD.ok, _, rfl, ifF (by rw [shD.refl]; rfl) inv⟩
      rintro σ H11 ⟨x9, x10, rfl, eS⟩
      have hM11 := hM10.same eS
      -- buffers and boxes
      refine ⟨_, rfl, _, rfl, by omega, by omega, for_range (lo := 0) (n := x.p.toNat) (fun i σ H' => ∃ x11, σ = [some (.ref sp), some (.ref tp), some (.int x.p), some (.int x.f), some (.int x.b), some (.ref z), some (.int (cellsN x.p x.f x.b)), some (.ref x.m), some (.ref dl), x9, x10, x11] ∧ Same H11 H')
        ⟨none, rfl, Same.refl _⟩ ?_ ?_⟩
      · rintro i σ H12 hi ⟨x11, rfl, eS⟩
        have hM12 := hM11.same eS
        obtain ⟨lb1, lb2⟩ := hM12.lenB
        obtain ⟨lx1, lx2⟩ := hM12.lenX
        have ib : i < x.bs.length := by omega
        have ix : i < x.xs.length := by omega
        have eb : (initS x.p x.f x.b).bufs[i]? = some [] := by show (List.replicate x.p.toNat [])[i]? = some []; rw [List.getElem?_replicate, if_pos hi]
        have ex : (initS x.p x.f x.b).boxes[i]? = some [] := by show (List.replicate x.p.toNat [])[i]? = some []; rw [List.getElem?_replicate, if_pos hi]
        obtain ⟨l, zs, hB, _, hzs⟩ := hM12.buf i x.bs[i] [] (List.getElem?_eq_getElem ib) eb
        have hz0 : zs = [] := by cases zs with | nil => rfl | cons _ _ => cases hzs
        subst hz0
        refine ⟨_, rfl, x.m, _, x.dx, _, _, rfl, hM12.ins, T.c_Memory, T.n_Memory_buffers, rfl, _, rfl, x.bl, _, _, .ref x.bs[i].1, rfl, rfl, SqL.of hM12.bl, at_of (j := i) (by omega) (by rw [List.getElem?_map, List.getElem?_eq_getElem ib]; rfl), x.bs[i].1, x.bs[i].2, _, rfl, hB.ins, rfl, x.bs[i].1, x.bs[i].2, l, [], rfl, hB, fun q1 h1 => ⟨Nat.zero_le _, fun q2 h2 => ?_⟩⟩
        have e1 := Same.new (o := .lst []) h1
        have e2 := Same.new (o := .lst []) h2
        refine ⟨.list [], .list [], .lst (SqL.of (e2 _ _ upd_same)) .nil, .lst (SqL.of upd_same) .nil, shNil.ok, shNil.ok, _, rfl, ifF (by rw [shNil.refl]; rfl) ?_⟩
        have hM13 := (hM12.same e1).same e2
        have eS13 := eS.trans (e1.trans e2)
        obtain ⟨vs, hX, hxs⟩ := hM13.box i x.xs[i] [] (List.getElem?_eq_getElem ix) ex
        cases hxs
        refine ⟨_, rfl, x.m, _, x.dx, _, _, rfl, hM13.ins, T.c_Memory, T.n_Memory_boxes, rfl, _, rfl, x.xl, _, _, .ref x.xs[i].1, rfl, rfl, SqL.of hM13.xl, at_of (j := i) (by omega) (by rw [List.getElem?_map, List.getElem?_eq_getElem ix]; rfl), x.xs[i].1, x.xs[i].2.1, _, rfl, hX.ins, rfl, x.xs[i].1, x.xs[i].2.1, x.xs[i].2.2, [], rfl, hX, fun q3 h3 => ⟨Nat.zero_le _, fun q4 h4 => ?_⟩⟩
        have e3 := Same.new (o := .lst []) h3
        have e4 := Same.new (o := .lst []) h4
        refine ⟨.list [], .list [], .lst (SqL.of (e4 _ _ upd_same)) .nil, .lst (SqL.of upd_same) .nil, shNil.ok, shNil.ok, _, rfl, ifF (by rw [shNil.refl]; rfl) ?_⟩
        exact ⟨_, rfl, eS13.trans (e3.trans e4)⟩
      · rintro σ H12 ⟨x11, rfl, eS⟩
        have hM12 := hM11.same eS
        have lb : (((x.bs.map fun y => V.ref y.1).length : Nat) : Int) = x.p := by rw [List.length_map]; exact hM12.lenB.1
        have lx : (((x.xs.map fun y => V.ref y.1).length : Nat) : Int) = x.p := by rw [List.length_map]; exact hM12.lenX.1
        refine ⟨_, rfl, x.m, _, x.dx, _, _, rfl, hM12.ins, T.c_Memory, T.n_Memory_buffers, rfl, x.bl, _, rfl, .inl (SqL.of hM12.bl), _, rfl, rfl, _, rfl, ifT (by rw [lb]; simp) ⟨_, rfl, x.m, _, x.dx, _, _, rfl, hM12.ins, T.c_Memory, T.n_Memory_boxes, rfl, x.xl, _, rfl, .inl (SqL.of hM12.xl), _, rfl, rfl, ?_⟩⟩
        rw [lx]
        have e : decide (V.int x.p = V.int x.p) = true := by simp
        rw [e]
        exact q _
    · have bad : ∀ {G : Prop}, (∃ v : V, v = v) → G → G := fun _ g => g
      have fin : sp = sp → Q (.bl true) H2 := fun _ => q _
      have ret : ∀ l, H2 l = none → (upd H2 l (.lst [.bl true])) q2 = some (.lst [.bl true]) := fun l hl => (Same.new hl) _ _ hq2
      have shB : Sh 1 (.list [.bool true]) := sh_lst (sh_c (sh_bool _) sh_n)
      have no : ¬ ((1 ≤ p ∧ p ≤ 3) ∧ (2 ≤ f ∧ f ≤ 12) ∧ (0 ≤ b ∧ b ≤ 12)) := fun k => by
        have : okSz p f b = true := by
          simp only [okSz, Bool.and_eq_true, decide_eq_true_eq]
          omega
        rw [okS] at this
        cases this
      by_cases c1 : p < 1
      · refine ⟨_, rfl, _, _, rfl, rfl, _, rfl, ifT (decide_eq_true c1) (iteT ⟨_, rfl, (by show 1 ≤ sizeLine; decide), fun l hl => ⟨_, _, .lst (SqL.of (ret l hl)) (.cons (.bl _) .nil), .lst (SqL.of upd_same) (.cons (.bl _) .nil), shB.ok, shB.ok, ?_⟩⟩)⟩
        rw [shB.refl]; exact q _
      by_cases c2 : p > 3
      · refine ⟨_, rfl, _, _, rfl, rfl, _, rfl, ifF (decide_eq_false c1) ⟨_, rfl, _, _, rfl, rfl, _, rfl, ifT (decide_eq_true c2) (iteT ⟨_, rfl, (by show 1 ≤ sizeLine; decide), fun l hl => ⟨_, _, .lst (SqL.of (ret l hl)) (.cons (.bl _) .nil), .lst (SqL.of upd_same) (.cons (.bl _) .nil), shB.ok, shB.ok, ?_⟩⟩)⟩⟩
        rw [shB.refl]; exact q _
      by_cases c3 : f < 2
      · refine ⟨_, rfl, _, _, rfl, rfl, _, rfl, ifF (decide_eq_false c1) ⟨_, rfl, _, _, rfl, rfl, _, rfl, ifF (decide_eq_false c2) ⟨_, rfl, _, _, rfl, rfl, _, rfl, ifT (decide_eq_true c3) (iteT ⟨_, rfl, (by show 1 ≤ sizeLine; decide), fun l hl => ⟨_, _, .lst (SqL.of (ret l hl)) (.cons (.bl _) .nil), .lst (SqL.of upd_same) (.cons (.bl _) .nil), shB.ok, shB.ok, ?_⟩⟩)⟩⟩⟩
        rw [shB.refl]; exact q _
      by_cases c4 : f > 12
      · refine ⟨_, rfl, _, _, rfl, rfl, _, rfl, ifF (decide_eq_false c1) ⟨_, rfl, _, _, rfl, rfl, _, rfl, ifF (decide_eq_false c2) ⟨_, rfl, _, _, rfl, rfl, _, rfl, ifF (decide_eq_false c3) ⟨_, rfl, _, _, rfl, rfl, _, rfl, ifT (decide_eq_true c4) (iteT ⟨_, rfl, (by show 1 ≤ sizeLine; decide), fun l hl => ⟨_, _, .lst (SqL.of (ret l hl)) (.cons (.bl _) .nil), .lst (SqL.of upd_same) (.cons (.bl _) .nil), shB.ok, shB.ok, ?_⟩⟩)⟩⟩⟩⟩
        rw [shB.refl]; exact q _
      by_cases c5 : b < 0
      · refine ⟨_, rfl, _, _, rfl, rfl, _, rfl, ifF (decide_eq_false c1) ⟨_, rfl, _, _, rfl, rfl, _, rfl, ifF (decide_eq_false c2) ⟨_, rfl, _, _, rfl, rfl, _, rfl, ifF (decide_eq_false c3) ⟨_, rfl, _, _, rfl, rfl, _, rfl, ifF (decide_eq_false c4) ⟨_, rfl, _, _, rfl, rfl, _, rfl, ifT (decide_eq_true c5) (iteT ⟨_, rfl, (by show 1 ≤ sizeLine; decide), fun l hl => ⟨_, _, .lst (SqL.of (ret l hl)) (.cons (.bl _) .nil), .lst (SqL.of upd_same) (.cons (.bl _) .nil), shB.ok, shB.ok, ?_⟩⟩)⟩⟩⟩⟩⟩
        rw [shB.refl]; exact q _
      have c6 : b > 12 := by omega
      refine ⟨_, rfl, _, _, rfl, rfl, _, rfl, ifF (decide_eq_false c1) ⟨_, rfl, _, _, rfl, rfl, _, rfl, ifF (decide_eq_false c2) ⟨_, rfl, _, _, rfl, rfl, _, rfl, ifF (decide_eq_false c3) ⟨_, rfl, _, _, rfl, rfl, _, rfl, ifF (decide_eq_false c4) ⟨_, rfl, _, _, rfl, rfl, _, rfl, ifF (decide_eq_false c5) ⟨_, rfl, _, _, rfl, rfl, _, rfl, ifT (decide_eq_true c6) ⟨_, rfl, (by show 1 ≤ sizeLine; decide), fun l hl => ⟨_, _, .lst (SqL.of (ret l hl)) (.cons (.bl _) .nil), .lst (SqL.of upd_same) (.cons (.bl _) .nil), shB.ok, shB.ok, ?_⟩⟩⟩⟩⟩⟩⟩⟩
      rw [shB.refl]; exact q _
end
theorem all_mk {l : PySem.W.OpenLaw} {w : World} {K : PySem.W.Frag} {h : Heap} {mg : Str → Option Value} {fa : Addr} (X : K.In h) (G : h.Ns mainGlobals mg) (hfa : mg "law" = some (.ref fa))
    {C_Buffer C_PageError C_NotValid C_Box C_Sizes C_Memory f_Buffer_init f_Buffer_entries f_PageError_init f_is_whole f_is_number_below f_Box_init f_Box_letters f_is_between f_Sizes_init f_Sizes_lock f_Sizes_acknowledge f_Sizes_word f_Sizes_frame_cell f_Sizes_swap_block f_Sizes_file_block f_Sizes_cells f_first_values f_Memory_init f_Memory_peek f_Memory_log f__law_tape f__law_at f__law_told f__law_listed f__law_values f_law : Addr}
    {od_Buffer_init an_Buffer_init : Option Addr} {sl_Buffer_init : Array (Option Value)} {oc_Buffer_init kV_Buffer_init dc_Buffer_init pm_Buffer_init cd_Buffer_init ct_Buffer_init : Value}
    {od_Buffer_entries an_Buffer_entries : Option Addr} {sl_Buffer_entries : Array (Option Value)} {oc_Buffer_entries kV_Buffer_entries dc_Buffer_entries pm_Buffer_entries cd_Buffer_entries ct_Buffer_entries : Value}
    {od_PageError_init an_PageError_init : Option Addr} {sl_PageError_init : Array (Option Value)} {oc_PageError_init kV_PageError_init dc_PageError_init pm_PageError_init cd_PageError_init ct_PageError_init : Value}
    {od_is_whole an_is_whole : Option Addr} {sl_is_whole : Array (Option Value)} {oc_is_whole kV_is_whole dc_is_whole pm_is_whole cd_is_whole ct_is_whole : Value}
    {od_is_number_below an_is_number_below : Option Addr} {sl_is_number_below : Array (Option Value)} {oc_is_number_below kV_is_number_below dc_is_number_below pm_is_number_below cd_is_number_below ct_is_number_below : Value}
    {od_Box_init an_Box_init : Option Addr} {sl_Box_init : Array (Option Value)} {oc_Box_init kV_Box_init dc_Box_init pm_Box_init cd_Box_init ct_Box_init : Value}
    {od_Box_letters an_Box_letters : Option Addr} {sl_Box_letters : Array (Option Value)} {oc_Box_letters kV_Box_letters dc_Box_letters pm_Box_letters cd_Box_letters ct_Box_letters : Value}
    {od_is_between an_is_between : Option Addr} {sl_is_between : Array (Option Value)} {oc_is_between kV_is_between dc_is_between pm_is_between cd_is_between ct_is_between : Value}
    {od_Sizes_init an_Sizes_init : Option Addr} {sl_Sizes_init : Array (Option Value)} {oc_Sizes_init kV_Sizes_init dc_Sizes_init pm_Sizes_init cd_Sizes_init ct_Sizes_init : Value}
    {od_Sizes_lock an_Sizes_lock : Option Addr} {sl_Sizes_lock : Array (Option Value)} {oc_Sizes_lock kV_Sizes_lock dc_Sizes_lock pm_Sizes_lock cd_Sizes_lock ct_Sizes_lock : Value}
    {od_Sizes_acknowledge an_Sizes_acknowledge : Option Addr} {sl_Sizes_acknowledge : Array (Option Value)} {oc_Sizes_acknowledge kV_Sizes_acknowledge dc_Sizes_acknowledge pm_Sizes_acknowledge cd_Sizes_acknowledge ct_Sizes_acknowledge : Value}
    {od_Sizes_word an_Sizes_word : Option Addr} {sl_Sizes_word : Array (Option Value)} {oc_Sizes_word kV_Sizes_word dc_Sizes_word pm_Sizes_word cd_Sizes_word ct_Sizes_word : Value}
    {od_Sizes_frame_cell an_Sizes_frame_cell : Option Addr} {sl_Sizes_frame_cell : Array (Option Value)} {oc_Sizes_frame_cell kV_Sizes_frame_cell dc_Sizes_frame_cell pm_Sizes_frame_cell cd_Sizes_frame_cell ct_Sizes_frame_cell : Value}
    {od_Sizes_swap_block an_Sizes_swap_block : Option Addr} {sl_Sizes_swap_block : Array (Option Value)} {oc_Sizes_swap_block kV_Sizes_swap_block dc_Sizes_swap_block pm_Sizes_swap_block cd_Sizes_swap_block ct_Sizes_swap_block : Value}
    {od_Sizes_file_block an_Sizes_file_block : Option Addr} {sl_Sizes_file_block : Array (Option Value)} {oc_Sizes_file_block kV_Sizes_file_block dc_Sizes_file_block pm_Sizes_file_block cd_Sizes_file_block ct_Sizes_file_block : Value}
    {od_Sizes_cells an_Sizes_cells : Option Addr} {sl_Sizes_cells : Array (Option Value)} {oc_Sizes_cells kV_Sizes_cells dc_Sizes_cells pm_Sizes_cells cd_Sizes_cells ct_Sizes_cells : Value}
    {od_first_values an_first_values : Option Addr} {sl_first_values : Array (Option Value)} {oc_first_values kV_first_values dc_first_values pm_first_values cd_first_values ct_first_values : Value}
    {od_Memory_init an_Memory_init : Option Addr} {sl_Memory_init : Array (Option Value)} {oc_Memory_init kV_Memory_init dc_Memory_init pm_Memory_init cd_Memory_init ct_Memory_init : Value}
    {od_Memory_peek an_Memory_peek : Option Addr} {sl_Memory_peek : Array (Option Value)} {oc_Memory_peek kV_Memory_peek dc_Memory_peek pm_Memory_peek cd_Memory_peek ct_Memory_peek : Value}
    {od_Memory_log an_Memory_log : Option Addr} {sl_Memory_log : Array (Option Value)} {oc_Memory_log kV_Memory_log dc_Memory_log pm_Memory_log cd_Memory_log ct_Memory_log : Value}
    {od__law_tape an__law_tape : Option Addr} {sl__law_tape : Array (Option Value)} {oc__law_tape kV__law_tape dc__law_tape pm__law_tape cd__law_tape ct__law_tape : Value}
    {od__law_at an__law_at : Option Addr} {sl__law_at : Array (Option Value)} {oc__law_at kV__law_at dc__law_at pm__law_at cd__law_at ct__law_at : Value}
    {od__law_told an__law_told : Option Addr} {sl__law_told : Array (Option Value)} {oc__law_told kV__law_told dc__law_told pm__law_told cd__law_told ct__law_told : Value}
    {od__law_listed an__law_listed : Option Addr} {sl__law_listed : Array (Option Value)} {oc__law_listed kV__law_listed dc__law_listed pm__law_listed cd__law_listed ct__law_listed : Value}
    {od__law_values an__law_values : Option Addr} {sl__law_values : Array (Option Value)} {oc__law_values kV__law_values dc__law_values pm__law_values cd__law_values ct__law_values : Value}
    {od_law an_law : Option Addr} {sl_law : Array (Option Value)} {oc_law kV_law dc_law pm_law cd_law ct_law : Value}
    {t_CELLS : Tok}
    {t_FILES : Tok}
    {t_FILE_PAGES : Tok}
    {t_MOST_ENTRIES : Tok}
    {t_PAGES : Tok}
    {t_SPACES : Tok}
    {nmX qX : Str} {NX : Addr} {bsX : List Value} {snX : List Str} {subX : List Value} {abX : Bool} {colX : Option Bool} {ddX : Option Addr} {x0 x1 x2 x3 x5 : Option Value}
    (g_Buffer : PySem.W.nsIn K mainGlobals "Buffer" = some (some (.ref C_Buffer)))
    (g_PageError : PySem.W.nsIn K mainGlobals "PageError" = some (some (.ref C_PageError)))
    (g_NotValid : PySem.W.nsIn K mainGlobals "NotValid" = some (some (.ref C_NotValid)))
    (g_Box : PySem.W.nsIn K mainGlobals "Box" = some (some (.ref C_Box)))
    (g_Sizes : PySem.W.nsIn K mainGlobals "Sizes" = some (some (.ref C_Sizes)))
    (g_Memory : PySem.W.nsIn K mainGlobals "Memory" = some (some (.ref C_Memory)))
    (a_Buffer_init : PySem.W.findIn K (.ref C_Buffer) "__init__" = some (some (.ref f_Buffer_init)))
    (i_Buffer_init : PySem.W.isFn K (.ref f_Buffer_init) = true)
    (l_Buffer_init : K.lookup f_Buffer_init = some ⟨oc_Buffer_init, od_Buffer_init, .func (PySem.W.fnOf "__init__" "Buffer.__init__" (defArgs s_Buffer_init) (defBody s_Buffer_init) (defScope s_Buffer_init) .none kV_Buffer_init dc_Buffer_init pm_Buffer_init an_Buffer_init cd_Buffer_init ct_Buffer_init), sl_Buffer_init⟩)
    (c_Buffer_init : PySem.W.codeIn K cd_Buffer_init "Buffer.__init__" = true)
    (k_Buffer_init : PySem.W.keepIn K (.ref f_Buffer_init) = true)
    (a_Buffer_entries : PySem.W.findIn K (.ref C_Buffer) "entries" = some (some (.ref f_Buffer_entries)))
    (i_Buffer_entries : PySem.W.isFn K (.ref f_Buffer_entries) = true)
    (l_Buffer_entries : K.lookup f_Buffer_entries = some ⟨oc_Buffer_entries, od_Buffer_entries, .func (PySem.W.fnOf "entries" "Buffer.entries" (defArgs s_Buffer_entries) (defBody s_Buffer_entries) (defScope s_Buffer_entries) .none kV_Buffer_entries dc_Buffer_entries pm_Buffer_entries an_Buffer_entries cd_Buffer_entries ct_Buffer_entries), sl_Buffer_entries⟩)
    (c_Buffer_entries : PySem.W.codeIn K cd_Buffer_entries "Buffer.entries" = true)
    (k_Buffer_entries : PySem.W.keepIn K (.ref f_Buffer_entries) = true)
    (a_PageError_init : PySem.W.findIn K (.ref C_PageError) "__init__" = some (some (.ref f_PageError_init)))
    (i_PageError_init : PySem.W.isFn K (.ref f_PageError_init) = true)
    (l_PageError_init : K.lookup f_PageError_init = some ⟨oc_PageError_init, od_PageError_init, .func (PySem.W.fnOf "__init__" "PageError.__init__" (defArgs s_PageError_init) (defBody s_PageError_init) (defScope s_PageError_init) .none kV_PageError_init dc_PageError_init pm_PageError_init an_PageError_init cd_PageError_init ct_PageError_init), sl_PageError_init⟩)
    (c_PageError_init : PySem.W.codeIn K cd_PageError_init "PageError.__init__" = true)
    (k_PageError_init : PySem.W.keepIn K (.ref f_PageError_init) = true)
    (a_is_whole : PySem.W.nsIn K mainGlobals "is_whole" = some (some (.ref f_is_whole)))
    (l_is_whole : K.lookup f_is_whole = some ⟨oc_is_whole, od_is_whole, .func (PySem.W.fnOf "is_whole" "is_whole" (defArgs s_is_whole) (defBody s_is_whole) (defScope s_is_whole) .none kV_is_whole dc_is_whole pm_is_whole an_is_whole cd_is_whole ct_is_whole), sl_is_whole⟩)
    (c_is_whole : PySem.W.codeIn K cd_is_whole "is_whole" = true)
    (k_is_whole : PySem.W.keepIn K (.ref f_is_whole) = true)
    (a_is_number_below : PySem.W.nsIn K mainGlobals "is_number_below" = some (some (.ref f_is_number_below)))
    (l_is_number_below : K.lookup f_is_number_below = some ⟨oc_is_number_below, od_is_number_below, .func (PySem.W.fnOf "is_number_below" "is_number_below" (defArgs s_is_number_below) (defBody s_is_number_below) (defScope s_is_number_below) .none kV_is_number_below dc_is_number_below pm_is_number_below an_is_number_below cd_is_number_below ct_is_number_below), sl_is_number_below⟩)
    (c_is_number_below : PySem.W.codeIn K cd_is_number_below "is_number_below" = true)
    (k_is_number_below : PySem.W.keepIn K (.ref f_is_number_below) = true)
    (a_Box_init : PySem.W.findIn K (.ref C_Box) "__init__" = some (some (.ref f_Box_init)))
    (i_Box_init : PySem.W.isFn K (.ref f_Box_init) = true)
    (l_Box_init : K.lookup f_Box_init = some ⟨oc_Box_init, od_Box_init, .func (PySem.W.fnOf "__init__" "Box.__init__" (defArgs s_Box_init) (defBody s_Box_init) (defScope s_Box_init) .none kV_Box_init dc_Box_init pm_Box_init an_Box_init cd_Box_init ct_Box_init), sl_Box_init⟩)
    (c_Box_init : PySem.W.codeIn K cd_Box_init "Box.__init__" = true)
    (k_Box_init : PySem.W.keepIn K (.ref f_Box_init) = true)
    (a_Box_letters : PySem.W.findIn K (.ref C_Box) "letters" = some (some (.ref f_Box_letters)))
    (i_Box_letters : PySem.W.isFn K (.ref f_Box_letters) = true)
    (l_Box_letters : K.lookup f_Box_letters = some ⟨oc_Box_letters, od_Box_letters, .func (PySem.W.fnOf "letters" "Box.letters" (defArgs s_Box_letters) (defBody s_Box_letters) (defScope s_Box_letters) .none kV_Box_letters dc_Box_letters pm_Box_letters an_Box_letters cd_Box_letters ct_Box_letters), sl_Box_letters⟩)
    (c_Box_letters : PySem.W.codeIn K cd_Box_letters "Box.letters" = true)
    (k_Box_letters : PySem.W.keepIn K (.ref f_Box_letters) = true)
    (a_is_between : PySem.W.nsIn K mainGlobals "is_between" = some (some (.ref f_is_between)))
    (l_is_between : K.lookup f_is_between = some ⟨oc_is_between, od_is_between, .func (PySem.W.fnOf "is_between" "is_between" (defArgs s_is_between) (defBody s_is_between) (defScope s_is_between) .none kV_is_between dc_is_between pm_is_between an_is_between cd_is_between ct_is_between), sl_is_between⟩)
    (c_is_between : PySem.W.codeIn K cd_is_between "is_between" = true)
    (k_is_between : PySem.W.keepIn K (.ref f_is_between) = true)
    (a_Sizes_init : PySem.W.findIn K (.ref C_Sizes) "__init__" = some (some (.ref f_Sizes_init)))
    (i_Sizes_init : PySem.W.isFn K (.ref f_Sizes_init) = true)
    (l_Sizes_init : K.lookup f_Sizes_init = some ⟨oc_Sizes_init, od_Sizes_init, .func (PySem.W.fnOf "__init__" "Sizes.__init__" (defArgs s_Sizes_init) (defBody s_Sizes_init) (defScope s_Sizes_init) .none kV_Sizes_init dc_Sizes_init pm_Sizes_init an_Sizes_init cd_Sizes_init ct_Sizes_init), sl_Sizes_init⟩)
    (c_Sizes_init : PySem.W.codeIn K cd_Sizes_init "Sizes.__init__" = true)
    (k_Sizes_init : PySem.W.keepIn K (.ref f_Sizes_init) = true)
    (a_Sizes_lock : PySem.W.findIn K (.ref C_Sizes) "lock" = some (some (.ref f_Sizes_lock)))
    (i_Sizes_lock : PySem.W.isFn K (.ref f_Sizes_lock) = true)
    (l_Sizes_lock : K.lookup f_Sizes_lock = some ⟨oc_Sizes_lock, od_Sizes_lock, .func (PySem.W.fnOf "lock" "Sizes.lock" (defArgs s_Sizes_lock) (defBody s_Sizes_lock) (defScope s_Sizes_lock) .none kV_Sizes_lock dc_Sizes_lock pm_Sizes_lock an_Sizes_lock cd_Sizes_lock ct_Sizes_lock), sl_Sizes_lock⟩)
    (c_Sizes_lock : PySem.W.codeIn K cd_Sizes_lock "Sizes.lock" = true)
    (k_Sizes_lock : PySem.W.keepIn K (.ref f_Sizes_lock) = true)
    (a_Sizes_acknowledge : PySem.W.findIn K (.ref C_Sizes) "acknowledge" = some (some (.ref f_Sizes_acknowledge)))
    (i_Sizes_acknowledge : PySem.W.isFn K (.ref f_Sizes_acknowledge) = true)
    (l_Sizes_acknowledge : K.lookup f_Sizes_acknowledge = some ⟨oc_Sizes_acknowledge, od_Sizes_acknowledge, .func (PySem.W.fnOf "acknowledge" "Sizes.acknowledge" (defArgs s_Sizes_acknowledge) (defBody s_Sizes_acknowledge) (defScope s_Sizes_acknowledge) .none kV_Sizes_acknowledge dc_Sizes_acknowledge pm_Sizes_acknowledge an_Sizes_acknowledge cd_Sizes_acknowledge ct_Sizes_acknowledge), sl_Sizes_acknowledge⟩)
    (c_Sizes_acknowledge : PySem.W.codeIn K cd_Sizes_acknowledge "Sizes.acknowledge" = true)
    (k_Sizes_acknowledge : PySem.W.keepIn K (.ref f_Sizes_acknowledge) = true)
    (a_Sizes_word : PySem.W.findIn K (.ref C_Sizes) "word" = some (some (.ref f_Sizes_word)))
    (i_Sizes_word : PySem.W.isFn K (.ref f_Sizes_word) = true)
    (l_Sizes_word : K.lookup f_Sizes_word = some ⟨oc_Sizes_word, od_Sizes_word, .func (PySem.W.fnOf "word" "Sizes.word" (defArgs s_Sizes_word) (defBody s_Sizes_word) (defScope s_Sizes_word) .none kV_Sizes_word dc_Sizes_word pm_Sizes_word an_Sizes_word cd_Sizes_word ct_Sizes_word), sl_Sizes_word⟩)
    (c_Sizes_word : PySem.W.codeIn K cd_Sizes_word "Sizes.word" = true)
    (k_Sizes_word : PySem.W.keepIn K (.ref f_Sizes_word) = true)
    (a_Sizes_frame_cell : PySem.W.findIn K (.ref C_Sizes) "frame_cell" = some (some (.ref f_Sizes_frame_cell)))
    (i_Sizes_frame_cell : PySem.W.isFn K (.ref f_Sizes_frame_cell) = true)
    (l_Sizes_frame_cell : K.lookup f_Sizes_frame_cell = some ⟨oc_Sizes_frame_cell, od_Sizes_frame_cell, .func (PySem.W.fnOf "frame_cell" "Sizes.frame_cell" (defArgs s_Sizes_frame_cell) (defBody s_Sizes_frame_cell) (defScope s_Sizes_frame_cell) .none kV_Sizes_frame_cell dc_Sizes_frame_cell pm_Sizes_frame_cell an_Sizes_frame_cell cd_Sizes_frame_cell ct_Sizes_frame_cell), sl_Sizes_frame_cell⟩)
    (c_Sizes_frame_cell : PySem.W.codeIn K cd_Sizes_frame_cell "Sizes.frame_cell" = true)
    (k_Sizes_frame_cell : PySem.W.keepIn K (.ref f_Sizes_frame_cell) = true)
    (a_Sizes_swap_block : PySem.W.findIn K (.ref C_Sizes) "swap_block" = some (some (.ref f_Sizes_swap_block)))
    (i_Sizes_swap_block : PySem.W.isFn K (.ref f_Sizes_swap_block) = true)
    (l_Sizes_swap_block : K.lookup f_Sizes_swap_block = some ⟨oc_Sizes_swap_block, od_Sizes_swap_block, .func (PySem.W.fnOf "swap_block" "Sizes.swap_block" (defArgs s_Sizes_swap_block) (defBody s_Sizes_swap_block) (defScope s_Sizes_swap_block) .none kV_Sizes_swap_block dc_Sizes_swap_block pm_Sizes_swap_block an_Sizes_swap_block cd_Sizes_swap_block ct_Sizes_swap_block), sl_Sizes_swap_block⟩)
    (c_Sizes_swap_block : PySem.W.codeIn K cd_Sizes_swap_block "Sizes.swap_block" = true)
    (k_Sizes_swap_block : PySem.W.keepIn K (.ref f_Sizes_swap_block) = true)
    (a_Sizes_file_block : PySem.W.findIn K (.ref C_Sizes) "file_block" = some (some (.ref f_Sizes_file_block)))
    (i_Sizes_file_block : PySem.W.isFn K (.ref f_Sizes_file_block) = true)
    (l_Sizes_file_block : K.lookup f_Sizes_file_block = some ⟨oc_Sizes_file_block, od_Sizes_file_block, .func (PySem.W.fnOf "file_block" "Sizes.file_block" (defArgs s_Sizes_file_block) (defBody s_Sizes_file_block) (defScope s_Sizes_file_block) .none kV_Sizes_file_block dc_Sizes_file_block pm_Sizes_file_block an_Sizes_file_block cd_Sizes_file_block ct_Sizes_file_block), sl_Sizes_file_block⟩)
    (c_Sizes_file_block : PySem.W.codeIn K cd_Sizes_file_block "Sizes.file_block" = true)
    (k_Sizes_file_block : PySem.W.keepIn K (.ref f_Sizes_file_block) = true)
    (a_Sizes_cells : PySem.W.findIn K (.ref C_Sizes) "cells" = some (some (.ref f_Sizes_cells)))
    (i_Sizes_cells : PySem.W.isFn K (.ref f_Sizes_cells) = true)
    (l_Sizes_cells : K.lookup f_Sizes_cells = some ⟨oc_Sizes_cells, od_Sizes_cells, .func (PySem.W.fnOf "cells" "Sizes.cells" (defArgs s_Sizes_cells) (defBody s_Sizes_cells) (defScope s_Sizes_cells) .none kV_Sizes_cells dc_Sizes_cells pm_Sizes_cells an_Sizes_cells cd_Sizes_cells ct_Sizes_cells), sl_Sizes_cells⟩)
    (c_Sizes_cells : PySem.W.codeIn K cd_Sizes_cells "Sizes.cells" = true)
    (k_Sizes_cells : PySem.W.keepIn K (.ref f_Sizes_cells) = true)
    (a_first_values : PySem.W.nsIn K mainGlobals "first_values" = some (some (.ref f_first_values)))
    (l_first_values : K.lookup f_first_values = some ⟨oc_first_values, od_first_values, .func (PySem.W.fnOf "first_values" "first_values" (defArgs s_first_values) (defBody s_first_values) (defScope s_first_values) .none kV_first_values dc_first_values pm_first_values an_first_values cd_first_values ct_first_values), sl_first_values⟩)
    (c_first_values : PySem.W.codeIn K cd_first_values "first_values" = true)
    (k_first_values : PySem.W.keepIn K (.ref f_first_values) = true)
    (a_Memory_init : PySem.W.findIn K (.ref C_Memory) "__init__" = some (some (.ref f_Memory_init)))
    (i_Memory_init : PySem.W.isFn K (.ref f_Memory_init) = true)
    (l_Memory_init : K.lookup f_Memory_init = some ⟨oc_Memory_init, od_Memory_init, .func (PySem.W.fnOf "__init__" "Memory.__init__" (defArgs s_Memory_init) (defBody s_Memory_init) (defScope s_Memory_init) .none kV_Memory_init dc_Memory_init pm_Memory_init an_Memory_init cd_Memory_init ct_Memory_init), sl_Memory_init⟩)
    (c_Memory_init : PySem.W.codeIn K cd_Memory_init "Memory.__init__" = true)
    (k_Memory_init : PySem.W.keepIn K (.ref f_Memory_init) = true)
    (a_Memory_peek : PySem.W.findIn K (.ref C_Memory) "peek" = some (some (.ref f_Memory_peek)))
    (i_Memory_peek : PySem.W.isFn K (.ref f_Memory_peek) = true)
    (l_Memory_peek : K.lookup f_Memory_peek = some ⟨oc_Memory_peek, od_Memory_peek, .func (PySem.W.fnOf "peek" "Memory.peek" (defArgs s_Memory_peek) (defBody s_Memory_peek) (defScope s_Memory_peek) .none kV_Memory_peek dc_Memory_peek pm_Memory_peek an_Memory_peek cd_Memory_peek ct_Memory_peek), sl_Memory_peek⟩)
    (c_Memory_peek : PySem.W.codeIn K cd_Memory_peek "Memory.peek" = true)
    (k_Memory_peek : PySem.W.keepIn K (.ref f_Memory_peek) = true)
    (a_Memory_log : PySem.W.findIn K (.ref C_Memory) "log" = some (some (.ref f_Memory_log)))
    (i_Memory_log : PySem.W.isFn K (.ref f_Memory_log) = true)
    (l_Memory_log : K.lookup f_Memory_log = some ⟨oc_Memory_log, od_Memory_log, .func (PySem.W.fnOf "log" "Memory.log" (defArgs s_Memory_log) (defBody s_Memory_log) (defScope s_Memory_log) .none kV_Memory_log dc_Memory_log pm_Memory_log an_Memory_log cd_Memory_log ct_Memory_log), sl_Memory_log⟩)
    (c_Memory_log : PySem.W.codeIn K cd_Memory_log "Memory.log" = true)
    (k_Memory_log : PySem.W.keepIn K (.ref f_Memory_log) = true)
    (a__law_tape : PySem.W.nsIn K mainGlobals "_law_tape" = some (some (.ref f__law_tape)))
    (l__law_tape : K.lookup f__law_tape = some ⟨oc__law_tape, od__law_tape, .func (PySem.W.fnOf "_law_tape" "_law_tape" (defArgs s__law_tape) (defBody s__law_tape) (defScope s__law_tape) .none kV__law_tape dc__law_tape pm__law_tape an__law_tape cd__law_tape ct__law_tape), sl__law_tape⟩)
    (c__law_tape : PySem.W.codeIn K cd__law_tape "_law_tape" = true)
    (k__law_tape : PySem.W.keepIn K (.ref f__law_tape) = true)
    (a__law_at : PySem.W.nsIn K mainGlobals "_law_at" = some (some (.ref f__law_at)))
    (l__law_at : K.lookup f__law_at = some ⟨oc__law_at, od__law_at, .func (PySem.W.fnOf "_law_at" "_law_at" (defArgs s__law_at) (defBody s__law_at) (defScope s__law_at) .none kV__law_at dc__law_at pm__law_at an__law_at cd__law_at ct__law_at), sl__law_at⟩)
    (c__law_at : PySem.W.codeIn K cd__law_at "_law_at" = true)
    (k__law_at : PySem.W.keepIn K (.ref f__law_at) = true)
    (a__law_told : PySem.W.nsIn K mainGlobals "_law_told" = some (some (.ref f__law_told)))
    (l__law_told : K.lookup f__law_told = some ⟨oc__law_told, od__law_told, .func (PySem.W.fnOf "_law_told" "_law_told" (defArgs s__law_told) (defBody s__law_told) (defScope s__law_told) .none kV__law_told dc__law_told pm__law_told an__law_told cd__law_told ct__law_told), sl__law_told⟩)
    (c__law_told : PySem.W.codeIn K cd__law_told "_law_told" = true)
    (k__law_told : PySem.W.keepIn K (.ref f__law_told) = true)
    (a__law_listed : PySem.W.nsIn K mainGlobals "_law_listed" = some (some (.ref f__law_listed)))
    (l__law_listed : K.lookup f__law_listed = some ⟨oc__law_listed, od__law_listed, .func (PySem.W.fnOf "_law_listed" "_law_listed" (defArgs s__law_listed) (defBody s__law_listed) (defScope s__law_listed) .none kV__law_listed dc__law_listed pm__law_listed an__law_listed cd__law_listed ct__law_listed), sl__law_listed⟩)
    (c__law_listed : PySem.W.codeIn K cd__law_listed "_law_listed" = true)
    (k__law_listed : PySem.W.keepIn K (.ref f__law_listed) = true)
    (a__law_values : PySem.W.nsIn K mainGlobals "_law_values" = some (some (.ref f__law_values)))
    (l__law_values : K.lookup f__law_values = some ⟨oc__law_values, od__law_values, .func (PySem.W.fnOf "_law_values" "_law_values" (defArgs s__law_values) (defBody s__law_values) (defScope s__law_values) .none kV__law_values dc__law_values pm__law_values an__law_values cd__law_values ct__law_values), sl__law_values⟩)
    (c__law_values : PySem.W.codeIn K cd__law_values "_law_values" = true)
    (k__law_values : PySem.W.keepIn K (.ref f__law_values) = true)
    (a_law : PySem.W.nsIn K mainGlobals "law" = some (some (.ref f_law)))
    (l_law : K.lookup f_law = some ⟨oc_law, od_law, .func (PySem.W.fnOf "law" "law" (defArgs s_law) (defBody s_law) (defScope s_law) .none kV_law dc_law pm_law an_law cd_law ct_law), sl_law⟩)
    (c_law : PySem.W.codeIn K cd_law "law" = true)
    (k_law : PySem.W.keepIn K (.ref f_law) = true)
    (pg_Buffer : PySem.W.plainGet K C_Buffer Str.empty = true)
    (hd_Buffer : PySem.W.hasDictIn K C_Buffer = true)
    (po_Buffer : PySem.W.plainOver K C_Buffer = true)
    (sa_Buffer : PySem.W.findIn K (.ref C_Buffer) "__setattr__" = some (some (.builtin "object.__setattr__")))
    (mk_Buffer : PySem.W.makesIn K C_Buffer = true)
    (kc_Buffer : PySem.W.keepIn K (.ref C_Buffer) = true)
    (n_Buffer__entries : PySem.W.findIn K (.ref C_Buffer) "_entries" = some none)
    (pg_Box : PySem.W.plainGet K C_Box Str.empty = true)
    (hd_Box : PySem.W.hasDictIn K C_Box = true)
    (po_Box : PySem.W.plainOver K C_Box = true)
    (sa_Box : PySem.W.findIn K (.ref C_Box) "__setattr__" = some (some (.builtin "object.__setattr__")))
    (mk_Box : PySem.W.makesIn K C_Box = true)
    (kc_Box : PySem.W.keepIn K (.ref C_Box) = true)
    (n_Box__letters : PySem.W.findIn K (.ref C_Box) "_letters" = some none)
    (pg_Sizes : PySem.W.plainGet K C_Sizes Str.empty = true)
    (hd_Sizes : PySem.W.hasDictIn K C_Sizes = true)
    (po_Sizes : PySem.W.plainOver K C_Sizes = true)
    (sa_Sizes : PySem.W.findIn K (.ref C_Sizes) "__setattr__" = some (some (.builtin "object.__setattr__")))
    (mk_Sizes : PySem.W.makesIn K C_Sizes = true)
    (kc_Sizes : PySem.W.keepIn K (.ref C_Sizes) = true)
    (n_Sizes_processors : PySem.W.findIn K (.ref C_Sizes) "processors" = some none)
    (n_Sizes_frames : PySem.W.findIn K (.ref C_Sizes) "frames" = some none)
    (n_Sizes_blocks : PySem.W.findIn K (.ref C_Sizes) "blocks" = some none)
    (n_Sizes__acknowledges : PySem.W.findIn K (.ref C_Sizes) "_acknowledges" = some none)
    (n_Sizes__words : PySem.W.findIn K (.ref C_Sizes) "_words" = some none)
    (n_Sizes__frame_cells : PySem.W.findIn K (.ref C_Sizes) "_frame_cells" = some none)
    (n_Sizes__swap_blocks : PySem.W.findIn K (.ref C_Sizes) "_swap_blocks" = some none)
    (n_Sizes__file_blocks : PySem.W.findIn K (.ref C_Sizes) "_file_blocks" = some none)
    (pg_Memory : PySem.W.plainGet K C_Memory Str.empty = true)
    (hd_Memory : PySem.W.hasDictIn K C_Memory = true)
    (po_Memory : PySem.W.plainOver K C_Memory = true)
    (sa_Memory : PySem.W.findIn K (.ref C_Memory) "__setattr__" = some (some (.builtin "object.__setattr__")))
    (mk_Memory : PySem.W.makesIn K C_Memory = true)
    (kc_Memory : PySem.W.keepIn K (.ref C_Memory) = true)
    (n_Memory_sizes : PySem.W.findIn K (.ref C_Memory) "sizes" = some none)
    (n_Memory_count : PySem.W.findIn K (.ref C_Memory) "count" = some none)
    (n_Memory_buffers : PySem.W.findIn K (.ref C_Memory) "buffers" = some none)
    (n_Memory_boxes : PySem.W.findIn K (.ref C_Memory) "boxes" = some none)
    (n_Memory__cells : PySem.W.findIn K (.ref C_Memory) "_cells" = some none)
    (n_Memory__log : PySem.W.findIn K (.ref C_Memory) "_log" = some none)
    (z_CELLS : PySem.W.nsIn K mainGlobals "CELLS" = some (some (.int 2 t_CELLS)))
    (z_FILES : PySem.W.nsIn K mainGlobals "FILES" = some (some (.int 2 t_FILES)))
    (z_FILE_PAGES : PySem.W.nsIn K mainGlobals "FILE_PAGES" = some (some (.int 4 t_FILE_PAGES)))
    (z_MOST_ENTRIES : PySem.W.nsIn K mainGlobals "MOST_ENTRIES" = some (some (.int 2 t_MOST_ENTRIES)))
    (z_PAGES : PySem.W.nsIn K mainGlobals "PAGES" = some (some (.int 8 t_PAGES)))
    (z_SPACES : PySem.W.nsIn K mainGlobals "SPACES" = some (some (.int 4 t_SPACES)))
    (z_ValueError : PySem.W.nsIn K mainGlobals "ValueError" = some none)
    (z_abs : PySem.W.nsIn K mainGlobals "abs" = some none)
    (z_all : PySem.W.nsIn K mainGlobals "all" = some none)
    (z_bool : PySem.W.nsIn K mainGlobals "bool" = some none)
    (z_int : PySem.W.nsIn K mainGlobals "int" = some none)
    (z_isinstance : PySem.W.nsIn K mainGlobals "isinstance" = some none)
    (z_len : PySem.W.nsIn K mainGlobals "len" = some none)
    (z_list : PySem.W.nsIn K mainGlobals "list" = some none)
    (z_range : PySem.W.nsIn K mainGlobals "range" = some none)
    (z_str : PySem.W.nsIn K mainGlobals "str" = some none)
    (z_tuple : PySem.W.nsIn K mainGlobals "tuple" = some none)
    (z_zip : PySem.W.nsIn K mainGlobals "zip" = some none)
    (y_xL : K.lookup C_NotValid = some (excClassObj nmX qX C_NotValid NX bsX [.ref C_PageError, .type "ValueError", .type "Exception", .type "BaseException", .type "object"] true snX subX abX colX ddX x0 x1 x2 x3 x5 "ValueError.__new__"))
    (y_vV : PySem.W.findCls K (.type "ValueError") (.type "type") "__init__" = some (.val (.builtin "ValueError.__init__")))
    (y_xi_NotValid : PySem.W.findIn K (.ref C_NotValid) "__init__" = some (some (.ref f_PageError_init)))
    (y_xt_NotValid : PySem.W.typeIn K (.ref f_PageError_init) = some (.type "function"))
    (y_xs_NotValid : PySem.W.findIn K (.ref C_NotValid) "__setattr__" = some (some (.builtin "object.__setattr__")))
    (y_xb_NotValid : PySem.W.subIn K (.ref C_NotValid) (.type "BaseException") = some true)
    (y_xy_NotValid : PySem.W.typeIn K (.ref C_NotValid) = some (.type "type"))
    (y_xk_NotValid : PySem.W.keepIn K (.ref C_NotValid) = true)
    (y_e1 : PySem.W.findIn K (.ref C_NotValid) "__getattribute__" = some (some (.builtin "BaseException.__getattribute__")))
    (y_e2 : PySem.W.findIn K (.ref C_NotValid) "__getattr__" = some none)
    (y_e4 : PySem.W.hasDictIn K C_NotValid = true)
    (y_e5 : PySem.W.findIn K (.ref C_NotValid) "__class__" = some (some (.builtin "object.__class__")))
    (y_e6 : PySem.W.specialIn K (.builtin "object.__class__") "__get__" = some (some (.builtin "getset_descriptor.__get__")))
    (y_e7 : PySem.W.takesIn K (.builtin "object.__class__") = some true)
    (y_e8 : PySem.W.mroIn K C_NotValid (.type "object") = some true)
    (y_p1 : PySem.W.subIn K (.ref C_PageError) (.type "BaseException") = some true)
    (y_p2 : PySem.W.hasDictIn K C_PageError = true)
    (y_p3 : PySem.W.typeIn K (.ref C_PageError) = some (.type "type"))
    (y_p4 : PySem.W.subIn K (.ref C_NotValid) (.ref C_PageError) = some true)
    (y_q4 : PySem.W.kitOne K (.ref C_NotValid) (.ref C_NotValid) = some true)
    (y_ks_Sizes : PySem.W.subIn K (.ref C_Sizes) (.type "list") = some false)
    (y_ic_Sizes : PySem.W.findIn K (.ref C_Sizes) "__class__" = some (some (.builtin "object.__class__")))
    (y_im_Sizes : PySem.W.mroIn K C_Sizes (.type "object") = some true)
    : ∃ fd : FuncData, (∀ (s : Shared) (v : Value), BindsTo s fd ⟨[v], []⟩ [("script", v)]) ∧ ∀ base : Heap, K.In base → base.Ns mainGlobals mg → FnOk l.prog w K mg base CX0 9 fa fd ["script"] (spLaw K) := by
  have e := hfa.symm.trans (PySem.W.mg_of X G a_law)
  cases e
  have T : Txt K mg ⟨C_Buffer, C_PageError, C_NotValid, C_Box, C_Sizes, C_Memory, f_Buffer_init, f_Buffer_entries, f_PageError_init, f_is_whole, f_is_number_below, f_Box_init, f_Box_letters, f_is_between, f_Sizes_init, f_Sizes_lock, f_Sizes_acknowledge, f_Sizes_word, f_Sizes_frame_cell, f_Sizes_swap_block, f_Sizes_file_block, f_Sizes_cells, f_first_values, f_Memory_init, f_Memory_peek, f_Memory_log, f__law_tape, f__law_at, f__law_told, f__law_listed, f__law_values, fa, PySem.W.fnOf "__init__" "Buffer.__init__" (defArgs s_Buffer_init) (defBody s_Buffer_init) (defScope s_Buffer_init) .none kV_Buffer_init dc_Buffer_init pm_Buffer_init an_Buffer_init cd_Buffer_init ct_Buffer_init, PySem.W.fnOf "entries" "Buffer.entries" (defArgs s_Buffer_entries) (defBody s_Buffer_entries) (defScope s_Buffer_entries) .none kV_Buffer_entries dc_Buffer_entries pm_Buffer_entries an_Buffer_entries cd_Buffer_entries ct_Buffer_entries, PySem.W.fnOf "__init__" "PageError.__init__" (defArgs s_PageError_init) (defBody s_PageError_init) (defScope s_PageError_init) .none kV_PageError_init dc_PageError_init pm_PageError_init an_PageError_init cd_PageError_init ct_PageError_init, PySem.W.fnOf "is_whole" "is_whole" (defArgs s_is_whole) (defBody s_is_whole) (defScope s_is_whole) .none kV_is_whole dc_is_whole pm_is_whole an_is_whole cd_is_whole ct_is_whole, PySem.W.fnOf "is_number_below" "is_number_below" (defArgs s_is_number_below) (defBody s_is_number_below) (defScope s_is_number_below) .none kV_is_number_below dc_is_number_below pm_is_number_below an_is_number_below cd_is_number_below ct_is_number_below, PySem.W.fnOf "__init__" "Box.__init__" (defArgs s_Box_init) (defBody s_Box_init) (defScope s_Box_init) .none kV_Box_init dc_Box_init pm_Box_init an_Box_init cd_Box_init ct_Box_init, PySem.W.fnOf "letters" "Box.letters" (defArgs s_Box_letters) (defBody s_Box_letters) (defScope s_Box_letters) .none kV_Box_letters dc_Box_letters pm_Box_letters an_Box_letters cd_Box_letters ct_Box_letters, PySem.W.fnOf "is_between" "is_between" (defArgs s_is_between) (defBody s_is_between) (defScope s_is_between) .none kV_is_between dc_is_between pm_is_between an_is_between cd_is_between ct_is_between, PySem.W.fnOf "__init__" "Sizes.__init__" (defArgs s_Sizes_init) (defBody s_Sizes_init) (defScope s_Sizes_init) .none kV_Sizes_init dc_Sizes_init pm_Sizes_init an_Sizes_init cd_Sizes_init ct_Sizes_init, PySem.W.fnOf "lock" "Sizes.lock" (defArgs s_Sizes_lock) (defBody s_Sizes_lock) (defScope s_Sizes_lock) .none kV_Sizes_lock dc_Sizes_lock pm_Sizes_lock an_Sizes_lock cd_Sizes_lock ct_Sizes_lock, PySem.W.fnOf "acknowledge" "Sizes.acknowledge" (defArgs s_Sizes_acknowledge) (defBody s_Sizes_acknowledge) (defScope s_Sizes_acknowledge) .none kV_Sizes_acknowledge dc_Sizes_acknowledge pm_Sizes_acknowledge an_Sizes_acknowledge cd_Sizes_acknowledge ct_Sizes_acknowledge, PySem.W.fnOf "word" "Sizes.word" (defArgs s_Sizes_word) (defBody s_Sizes_word) (defScope s_Sizes_word) .none kV_Sizes_word dc_Sizes_word pm_Sizes_word an_Sizes_word cd_Sizes_word ct_Sizes_word, PySem.W.fnOf "frame_cell" "Sizes.frame_cell" (defArgs s_Sizes_frame_cell) (defBody s_Sizes_frame_cell) (defScope s_Sizes_frame_cell) .none kV_Sizes_frame_cell dc_Sizes_frame_cell pm_Sizes_frame_cell an_Sizes_frame_cell cd_Sizes_frame_cell ct_Sizes_frame_cell, PySem.W.fnOf "swap_block" "Sizes.swap_block" (defArgs s_Sizes_swap_block) (defBody s_Sizes_swap_block) (defScope s_Sizes_swap_block) .none kV_Sizes_swap_block dc_Sizes_swap_block pm_Sizes_swap_block an_Sizes_swap_block cd_Sizes_swap_block ct_Sizes_swap_block, PySem.W.fnOf "file_block" "Sizes.file_block" (defArgs s_Sizes_file_block) (defBody s_Sizes_file_block) (defScope s_Sizes_file_block) .none kV_Sizes_file_block dc_Sizes_file_block pm_Sizes_file_block an_Sizes_file_block cd_Sizes_file_block ct_Sizes_file_block, PySem.W.fnOf "cells" "Sizes.cells" (defArgs s_Sizes_cells) (defBody s_Sizes_cells) (defScope s_Sizes_cells) .none kV_Sizes_cells dc_Sizes_cells pm_Sizes_cells an_Sizes_cells cd_Sizes_cells ct_Sizes_cells, PySem.W.fnOf "first_values" "first_values" (defArgs s_first_values) (defBody s_first_values) (defScope s_first_values) .none kV_first_values dc_first_values pm_first_values an_first_values cd_first_values ct_first_values, PySem.W.fnOf "__init__" "Memory.__init__" (defArgs s_Memory_init) (defBody s_Memory_init) (defScope s_Memory_init) .none kV_Memory_init dc_Memory_init pm_Memory_init an_Memory_init cd_Memory_init ct_Memory_init, PySem.W.fnOf "peek" "Memory.peek" (defArgs s_Memory_peek) (defBody s_Memory_peek) (defScope s_Memory_peek) .none kV_Memory_peek dc_Memory_peek pm_Memory_peek an_Memory_peek cd_Memory_peek ct_Memory_peek, PySem.W.fnOf "log" "Memory.log" (defArgs s_Memory_log) (defBody s_Memory_log) (defScope s_Memory_log) .none kV_Memory_log dc_Memory_log pm_Memory_log an_Memory_log cd_Memory_log ct_Memory_log, PySem.W.fnOf "_law_tape" "_law_tape" (defArgs s__law_tape) (defBody s__law_tape) (defScope s__law_tape) .none kV__law_tape dc__law_tape pm__law_tape an__law_tape cd__law_tape ct__law_tape, PySem.W.fnOf "_law_at" "_law_at" (defArgs s__law_at) (defBody s__law_at) (defScope s__law_at) .none kV__law_at dc__law_at pm__law_at an__law_at cd__law_at ct__law_at, PySem.W.fnOf "_law_told" "_law_told" (defArgs s__law_told) (defBody s__law_told) (defScope s__law_told) .none kV__law_told dc__law_told pm__law_told an__law_told cd__law_told ct__law_told, PySem.W.fnOf "_law_listed" "_law_listed" (defArgs s__law_listed) (defBody s__law_listed) (defScope s__law_listed) .none kV__law_listed dc__law_listed pm__law_listed an__law_listed cd__law_listed ct__law_listed, PySem.W.fnOf "_law_values" "_law_values" (defArgs s__law_values) (defBody s__law_values) (defScope s__law_values) .none kV__law_values dc__law_values pm__law_values an__law_values cd__law_values ct__law_values, PySem.W.fnOf "law" "law" (defArgs s_law) (defBody s_law) (defScope s_law) .none kV_law dc_law pm_law an_law cd_law ct_law⟩ := {
    m_Buffer := PySem.W.mg_of X G g_Buffer
    m_PageError := PySem.W.mg_of X G g_PageError
    m_NotValid := PySem.W.mg_of X G g_NotValid
    m_Box := PySem.W.mg_of X G g_Box
    m_Sizes := PySem.W.mg_of X G g_Sizes
    m_Memory := PySem.W.mg_of X G g_Memory
    F_Buffer_init := fun_mk (st := s_Buffer_init) l_Buffer_init c_Buffer_init k_Buffer_init
    B_Buffer_init := (fun_mk (st := s_Buffer_init) l_Buffer_init c_Buffer_init k_Buffer_init).binds (ps := ["self"]) fun _ _ _ _ _ _ us hl => match us, hl with | [_], _ => rfl
    F_Buffer_entries := fun_mk (st := s_Buffer_entries) l_Buffer_entries c_Buffer_entries k_Buffer_entries
    B_Buffer_entries := (fun_mk (st := s_Buffer_entries) l_Buffer_entries c_Buffer_entries k_Buffer_entries).binds (ps := ["self"]) fun _ _ _ _ _ _ us hl => match us, hl with | [_], _ => rfl
    M_Buffer_entries := ⟨a_Buffer_entries, i_Buffer_entries, k_Buffer_entries⟩
    F_PageError_init := fun_mk (st := s_PageError_init) l_PageError_init c_PageError_init k_PageError_init
    B_PageError_init := (fun_mk (st := s_PageError_init) l_PageError_init c_PageError_init k_PageError_init).binds (ps := ["self"]) fun _ _ _ _ _ _ us hl => match us, hl with | [_], _ => rfl
    F_is_whole := fun_mk (st := s_is_whole) l_is_whole c_is_whole k_is_whole
    B_is_whole := (fun_mk (st := s_is_whole) l_is_whole c_is_whole k_is_whole).binds (ps := ["value"]) fun _ _ _ _ _ _ us hl => match us, hl with | [_], _ => rfl
    m_is_whole := PySem.W.mg_of X G a_is_whole
    F_is_number_below := fun_mk (st := s_is_number_below) l_is_number_below c_is_number_below k_is_number_below
    B_is_number_below := (fun_mk (st := s_is_number_below) l_is_number_below c_is_number_below k_is_number_below).binds (ps := ["value", "many"]) fun _ _ _ _ _ _ us hl => match us, hl with | [_, _], _ => rfl
    m_is_number_below := PySem.W.mg_of X G a_is_number_below
    F_Box_init := fun_mk (st := s_Box_init) l_Box_init c_Box_init k_Box_init
    B_Box_init := (fun_mk (st := s_Box_init) l_Box_init c_Box_init k_Box_init).binds (ps := ["self"]) fun _ _ _ _ _ _ us hl => match us, hl with | [_], _ => rfl
    F_Box_letters := fun_mk (st := s_Box_letters) l_Box_letters c_Box_letters k_Box_letters
    B_Box_letters := (fun_mk (st := s_Box_letters) l_Box_letters c_Box_letters k_Box_letters).binds (ps := ["self"]) fun _ _ _ _ _ _ us hl => match us, hl with | [_], _ => rfl
    M_Box_letters := ⟨a_Box_letters, i_Box_letters, k_Box_letters⟩
    F_is_between := fun_mk (st := s_is_between) l_is_between c_is_between k_is_between
    B_is_between := (fun_mk (st := s_is_between) l_is_between c_is_between k_is_between).binds (ps := ["value", "least", "most"]) fun _ _ _ _ _ _ us hl => match us, hl with | [_, _, _], _ => rfl
    m_is_between := PySem.W.mg_of X G a_is_between
    F_Sizes_init := fun_mk (st := s_Sizes_init) l_Sizes_init c_Sizes_init k_Sizes_init
    B_Sizes_init := (fun_mk (st := s_Sizes_init) l_Sizes_init c_Sizes_init k_Sizes_init).binds (ps := ["self", "processors", "frames", "blocks"]) fun _ _ _ _ _ _ us hl => match us, hl with | [_, _, _, _], _ => rfl
    F_Sizes_lock := fun_mk (st := s_Sizes_lock) l_Sizes_lock c_Sizes_lock k_Sizes_lock
    B_Sizes_lock := (fun_mk (st := s_Sizes_lock) l_Sizes_lock c_Sizes_lock k_Sizes_lock).binds (ps := ["self"]) fun _ _ _ _ _ _ us hl => match us, hl with | [_], _ => rfl
    M_Sizes_lock := ⟨a_Sizes_lock, i_Sizes_lock, k_Sizes_lock⟩
    F_Sizes_acknowledge := fun_mk (st := s_Sizes_acknowledge) l_Sizes_acknowledge c_Sizes_acknowledge k_Sizes_acknowledge
    B_Sizes_acknowledge := (fun_mk (st := s_Sizes_acknowledge) l_Sizes_acknowledge c_Sizes_acknowledge k_Sizes_acknowledge).binds (ps := ["self", "processor"]) fun _ _ _ _ _ _ us hl => match us, hl with | [_, _], _ => rfl
    M_Sizes_acknowledge := ⟨a_Sizes_acknowledge, i_Sizes_acknowledge, k_Sizes_acknowledge⟩
    F_Sizes_word := fun_mk (st := s_Sizes_word) l_Sizes_word c_Sizes_word k_Sizes_word
    B_Sizes_word := (fun_mk (st := s_Sizes_word) l_Sizes_word c_Sizes_word k_Sizes_word).binds (ps := ["self", "space", "page"]) fun _ _ _ _ _ _ us hl => match us, hl with | [_, _, _], _ => rfl
    M_Sizes_word := ⟨a_Sizes_word, i_Sizes_word, k_Sizes_word⟩
    F_Sizes_frame_cell := fun_mk (st := s_Sizes_frame_cell) l_Sizes_frame_cell c_Sizes_frame_cell k_Sizes_frame_cell
    B_Sizes_frame_cell := (fun_mk (st := s_Sizes_frame_cell) l_Sizes_frame_cell c_Sizes_frame_cell k_Sizes_frame_cell).binds (ps := ["self", "frame", "index"]) fun _ _ _ _ _ _ us hl => match us, hl with | [_, _, _], _ => rfl
    M_Sizes_frame_cell := ⟨a_Sizes_frame_cell, i_Sizes_frame_cell, k_Sizes_frame_cell⟩
    F_Sizes_swap_block := fun_mk (st := s_Sizes_swap_block) l_Sizes_swap_block c_Sizes_swap_block k_Sizes_swap_block
    B_Sizes_swap_block := (fun_mk (st := s_Sizes_swap_block) l_Sizes_swap_block c_Sizes_swap_block k_Sizes_swap_block).binds (ps := ["self", "block"]) fun _ _ _ _ _ _ us hl => match us, hl with | [_, _], _ => rfl
    M_Sizes_swap_block := ⟨a_Sizes_swap_block, i_Sizes_swap_block, k_Sizes_swap_block⟩
    F_Sizes_file_block := fun_mk (st := s_Sizes_file_block) l_Sizes_file_block c_Sizes_file_block k_Sizes_file_block
    B_Sizes_file_block := (fun_mk (st := s_Sizes_file_block) l_Sizes_file_block c_Sizes_file_block k_Sizes_file_block).binds (ps := ["self", "file", "page"]) fun _ _ _ _ _ _ us hl => match us, hl with | [_, _, _], _ => rfl
    M_Sizes_file_block := ⟨a_Sizes_file_block, i_Sizes_file_block, k_Sizes_file_block⟩
    F_Sizes_cells := fun_mk (st := s_Sizes_cells) l_Sizes_cells c_Sizes_cells k_Sizes_cells
    B_Sizes_cells := (fun_mk (st := s_Sizes_cells) l_Sizes_cells c_Sizes_cells k_Sizes_cells).binds (ps := ["self"]) fun _ _ _ _ _ _ us hl => match us, hl with | [_], _ => rfl
    M_Sizes_cells := ⟨a_Sizes_cells, i_Sizes_cells, k_Sizes_cells⟩
    F_first_values := fun_mk (st := s_first_values) l_first_values c_first_values k_first_values
    B_first_values := (fun_mk (st := s_first_values) l_first_values c_first_values k_first_values).binds (ps := ["sizes"]) fun _ _ _ _ _ _ us hl => match us, hl with | [_], _ => rfl
    m_first_values := PySem.W.mg_of X G a_first_values
    F_Memory_init := fun_mk (st := s_Memory_init) l_Memory_init c_Memory_init k_Memory_init
    B_Memory_init := (fun_mk (st := s_Memory_init) l_Memory_init c_Memory_init k_Memory_init).binds (ps := ["self", "sizes"]) fun _ _ _ _ _ _ us hl => match us, hl with | [_, _], _ => rfl
    F_Memory_peek := fun_mk (st := s_Memory_peek) l_Memory_peek c_Memory_peek k_Memory_peek
    B_Memory_peek := (fun_mk (st := s_Memory_peek) l_Memory_peek c_Memory_peek k_Memory_peek).binds (ps := ["self", "cell"]) fun _ _ _ _ _ _ us hl => match us, hl with | [_, _], _ => rfl
    M_Memory_peek := ⟨a_Memory_peek, i_Memory_peek, k_Memory_peek⟩
    F_Memory_log := fun_mk (st := s_Memory_log) l_Memory_log c_Memory_log k_Memory_log
    B_Memory_log := (fun_mk (st := s_Memory_log) l_Memory_log c_Memory_log k_Memory_log).binds (ps := ["self"]) fun _ _ _ _ _ _ us hl => match us, hl with | [_], _ => rfl
    M_Memory_log := ⟨a_Memory_log, i_Memory_log, k_Memory_log⟩
    F__law_tape := fun_mk (st := s__law_tape) l__law_tape c__law_tape k__law_tape
    B__law_tape := (fun_mk (st := s__law_tape) l__law_tape c__law_tape k__law_tape).binds (ps := ["script"]) fun _ _ _ _ _ _ us hl => match us, hl with | [_], _ => rfl
    m__law_tape := PySem.W.mg_of X G a__law_tape
    F__law_at := fun_mk (st := s__law_at) l__law_at c__law_at k__law_at
    B__law_at := (fun_mk (st := s__law_at) l__law_at c__law_at k__law_at).binds (ps := ["tape", "k"]) fun _ _ _ _ _ _ us hl => match us, hl with | [_, _], _ => rfl
    m__law_at := PySem.W.mg_of X G a__law_at
    F__law_told := fun_mk (st := s__law_told) l__law_told c__law_told k__law_told
    B__law_told := (fun_mk (st := s__law_told) l__law_told c__law_told k__law_told).binds (ps := ["processors", "frames", "blocks"]) fun _ _ _ _ _ _ us hl => match us, hl with | [_, _, _], _ => rfl
    m__law_told := PySem.W.mg_of X G a__law_told
    F__law_listed := fun_mk (st := s__law_listed) l__law_listed c__law_listed k__law_listed
    B__law_listed := (fun_mk (st := s__law_listed) l__law_listed c__law_listed k__law_listed).binds (ps := ["sizes"]) fun _ _ _ _ _ _ us hl => match us, hl with | [_], _ => rfl
    m__law_listed := PySem.W.mg_of X G a__law_listed
    F__law_values := fun_mk (st := s__law_values) l__law_values c__law_values k__law_values
    B__law_values := (fun_mk (st := s__law_values) l__law_values c__law_values k__law_values).binds (ps := ["sizes"]) fun _ _ _ _ _ _ us hl => match us, hl with | [_], _ => rfl
    m__law_values := PySem.W.mg_of X G a__law_values
    F_law := fun_mk (st := s_law) l_law c_law k_law
    B_law := (fun_mk (st := s_law) l_law c_law k_law).binds (ps := ["script"]) fun _ _ _ _ _ _ us hl => match us, hl with | [_], _ => rfl
    m_law := PySem.W.mg_of X G a_law
    c_Buffer := ⟨pg_Buffer, hd_Buffer, po_Buffer, sa_Buffer⟩
    mk_Buffer := ⟨mk_Buffer, a_Buffer_init, i_Buffer_init, kc_Buffer⟩
    n_Buffer__entries := n_Buffer__entries
    c_Box := ⟨pg_Box, hd_Box, po_Box, sa_Box⟩
    mk_Box := ⟨mk_Box, a_Box_init, i_Box_init, kc_Box⟩
    n_Box__letters := n_Box__letters
    c_Sizes := ⟨pg_Sizes, hd_Sizes, po_Sizes, sa_Sizes⟩
    mk_Sizes := ⟨mk_Sizes, a_Sizes_init, i_Sizes_init, kc_Sizes⟩
    n_Sizes_processors := n_Sizes_processors
    n_Sizes_frames := n_Sizes_frames
    n_Sizes_blocks := n_Sizes_blocks
    n_Sizes__acknowledges := n_Sizes__acknowledges
    n_Sizes__words := n_Sizes__words
    n_Sizes__frame_cells := n_Sizes__frame_cells
    n_Sizes__swap_blocks := n_Sizes__swap_blocks
    n_Sizes__file_blocks := n_Sizes__file_blocks
    c_Memory := ⟨pg_Memory, hd_Memory, po_Memory, sa_Memory⟩
    mk_Memory := ⟨mk_Memory, a_Memory_init, i_Memory_init, kc_Memory⟩
    n_Memory_sizes := n_Memory_sizes
    n_Memory_count := n_Memory_count
    n_Memory_buffers := n_Memory_buffers
    n_Memory_boxes := n_Memory_boxes
    n_Memory__cells := n_Memory__cells
    n_Memory__log := n_Memory__log
    k_CELLS := ⟨_, PySem.W.mg_of X G z_CELLS, t_CELLS, rfl⟩
    k_FILES := ⟨_, PySem.W.mg_of X G z_FILES, t_FILES, rfl⟩
    k_FILE_PAGES := ⟨_, PySem.W.mg_of X G z_FILE_PAGES, t_FILE_PAGES, rfl⟩
    k_MOST_ENTRIES := ⟨_, PySem.W.mg_of X G z_MOST_ENTRIES, t_MOST_ENTRIES, rfl⟩
    k_PAGES := ⟨_, PySem.W.mg_of X G z_PAGES, t_PAGES, rfl⟩
    k_SPACES := ⟨_, PySem.W.mg_of X G z_SPACES, t_SPACES, rfl⟩
    b_ValueError := PySem.W.mg_none_of X G z_ValueError
    b_abs := PySem.W.mg_none_of X G z_abs
    b_all := PySem.W.mg_none_of X G z_all
    b_bool := PySem.W.mg_none_of X G z_bool
    b_int := PySem.W.mg_none_of X G z_int
    b_isinstance := PySem.W.mg_none_of X G z_isinstance
    b_len := PySem.W.mg_none_of X G z_len
    b_list := PySem.W.mg_none_of X G z_list
    b_range := PySem.W.mg_none_of X G z_range
    b_str := PySem.W.mg_none_of X G z_str
    b_tuple := PySem.W.mg_none_of X G z_tuple
    b_zip := PySem.W.mg_none_of X G z_zip
    vV := y_vV
    xi_NotValid := y_xi_NotValid
    xt_NotValid := y_xt_NotValid
    xs_NotValid := y_xs_NotValid
    xb_NotValid := y_xb_NotValid
    xy_NotValid := y_xy_NotValid
    xk_NotValid := y_xk_NotValid
    e1 := y_e1
    e2 := y_e2
    e4 := y_e4
    e5 := y_e5
    e6 := y_e6
    e7 := y_e7
    e8 := y_e8
    p1 := y_p1
    p2 := y_p2
    p3 := y_p3
    p4 := y_p4
    q4 := y_q4
    ks_Sizes := y_ks_Sizes
    ic_Sizes := y_ic_Sizes
    im_Sizes := y_im_Sizes
    x_NotValid := ⟨⟨nmX, qX, NX, bsX, _, snX, subX, abX, colX, ddX, x0, x1, x2, x3, x5, y_xL, rfl⟩, y_xs_NotValid, y_xb_NotValid, y_xy_NotValid, y_xk_NotValid⟩
    e_NotValid := ⟨y_e1, y_e2, y_xb_NotValid, y_e4, y_e5, y_e6, y_e7, y_e8⟩
    kl_Sizes := kit_of_sub (by decide +kernel) y_ks_Sizes
  }
  exact ⟨_, fun s v => .of_eq rfl, fun base _ _ => (ok_law (base := base) (P := l.prog) (w := w) T).mono (by decide)⟩
theorem walk {l : PySem.W.OpenLaw} {q : Program} {loose : List Str} {XP : (Str → Option Value) → Heap → Prop} {YP : World → Heap → Prop} {d : DefRec} {K : Params → PySem.W.Frag} (hn : l.most = some 63) (hdf : d.params.defaults = [])
    (hY : ∀ (w : World) (h : Heap), YP w h → (K w.params).In h)
    (F : ∀ (w : World) (mg : Str → Option Value) (fa : Addr) (h : Heap), (K w.params).In h → h.Ns mainGlobals mg → mg d.name = some (.ref fa) →
      ∃ fd : FuncData, (∀ (s : Shared) (u : Value), BindsTo s fd ⟨[u], []⟩ [("script", u)]) ∧ ∀ base : Heap, (K w.params).In base → base.Ns mainGlobals mg → FnOk l.prog w (K w.params) mg base CX0 9 fa fd ["script"] (spLaw (K w.params))) :
    PySem.W.WalkO q loose XP YP l.row.toRowW d [] (fun f vs => PySem.call f vs) :=
  L2.walk_of (n := 63) (k := 9) (x := "script") (CX := fun _ => CX0) (sp := fun w => spLaw (K w.params)) hn (by decide) hdf ⟨rfl, by decide, by decide⟩ hY F (fun _ _ a ns hl _ hS => ⟨a, ns, rfl, hS, hl, fun _ => rfl⟩) fun _ _ _ _ _ z => z
end K01

open PySem PySem.W PyProof.Rows in
set_option maxRecDepth 100000 in
set_option maxHeartbeats 0 in
theorem PySem.Challenge.cw_frametally_k01_sizes_holds : PySem.Challenge.rw_frametally_k01_sizes.Holds := by
  w_on; o_law; k_head; (case hw => w_witness2)
  k_fill
  refine K01.walk (l := PySem.Challenge.rw_frametally_k01_sizes) rfl rfl (fun w h Y => PySem.W.kIn_of Y) ?F
  case F =>
    intro w mg fa h KX G hmg
    refine' K01.all_mk KX G hmg ?g_Buffer ?g_PageError ?g_NotValid ?g_Box ?g_Sizes ?g_Memory ?a_Buffer_init ?i_Buffer_init ?l_Buffer_init ?c_Buffer_init ?k_Buffer_init ?a_Buffer_entries ?i_Buffer_entries ?l_Buffer_entries ?c_Buffer_entries ?k_Buffer_entries ?a_PageError_init ?i_PageError_init ?l_PageError_init ?c_PageError_init ?k_PageError_init ?a_is_whole ?l_is_whole ?c_is_whole ?k_is_whole ?a_is_number_below ?l_is_number_below ?c_is_number_below ?k_is_number_below ?a_Box_init ?i_Box_init ?l_Box_init ?c_Box_init ?k_Box_init ?a_Box_letters ?i_Box_letters ?l_Box_letters ?c_Box_letters ?k_Box_letters ?a_is_between ?l_is_between ?c_is_between ?k_is_between ?a_Sizes_init ?i_Sizes_init ?l_Sizes_init ?c_Sizes_init ?k_Sizes_init ?a_Sizes_lock ?i_Sizes_lock ?l_Sizes_lock ?c_Sizes_lock ?k_Sizes_lock ?a_Sizes_acknowledge ?i_Sizes_acknowledge ?l_Sizes_acknowledge ?c_Sizes_acknowledge ?k_Sizes_acknowledge ?a_Sizes_word ?i_Sizes_word ?l_Sizes_word ?c_Sizes_word ?k_Sizes_word ?a_Sizes_frame_cell ?i_Sizes_frame_cell ?l_Sizes_frame_cell ?c_Sizes_frame_cell ?k_Sizes_frame_cell ?a_Sizes_swap_block ?i_Sizes_swap_block ?l_Sizes_swap_block ?c_Sizes_swap_block ?k_Sizes_swap_block ?a_Sizes_file_block ?i_Sizes_file_block ?l_Sizes_file_block ?c_Sizes_file_block ?k_Sizes_file_block ?a_Sizes_cells ?i_Sizes_cells ?l_Sizes_cells ?c_Sizes_cells ?k_Sizes_cells ?a_first_values ?l_first_values ?c_first_values ?k_first_values ?a_Memory_init ?i_Memory_init ?l_Memory_init ?c_Memory_init ?k_Memory_init ?a_Memory_peek ?i_Memory_peek ?l_Memory_peek ?c_Memory_peek ?k_Memory_peek ?a_Memory_log ?i_Memory_log ?l_Memory_log ?c_Memory_log ?k_Memory_log ?a__law_tape ?l__law_tape ?c__law_tape ?k__law_tape ?a__law_at ?l__law_at ?c__law_at ?k__law_at ?a__law_told ?l__law_told ?c__law_told ?k__law_told ?a__law_listed ?l__law_listed ?c__law_listed ?k__law_listed ?a__law_values ?l__law_values ?c__law_values ?k__law_values ?a_law ?l_law ?c_law ?k_law ?pg_Buffer ?hd_Buffer ?po_Buffer ?sa_Buffer ?mk_Buffer ?kc_Buffer ?n_Buffer__entries ?pg_Box ?hd_Box ?po_Box ?sa_Box ?mk_Box ?kc_Box ?n_Box__letters ?pg_Sizes ?hd_Sizes ?po_Sizes ?sa_Sizes ?mk_Sizes ?kc_Sizes ?n_Sizes_processors ?n_Sizes_frames ?n_Sizes_blocks ?n_Sizes__acknowledges ?n_Sizes__words ?n_Sizes__frame_cells ?n_Sizes__swap_blocks ?n_Sizes__file_blocks ?pg_Memory ?hd_Memory ?po_Memory ?sa_Memory ?mk_Memory ?kc_Memory ?n_Memory_sizes ?n_Memory_count ?n_Memory_buffers ?n_Memory_boxes ?n_Memory__cells ?n_Memory__log ?z_CELLS ?z_FILES ?z_FILE_PAGES ?z_MOST_ENTRIES ?z_PAGES ?z_SPACES ?z_ValueError ?z_abs ?z_all ?z_bool ?z_int ?z_isinstance ?z_len ?z_list ?z_range ?z_str ?z_tuple ?z_zip ?y_xL ?y_vV ?y_xi_NotValid ?y_xt_NotValid ?y_xs_NotValid ?y_xb_NotValid ?y_xy_NotValid ?y_xk_NotValid ?y_e1 ?y_e2 ?y_e4 ?y_e5 ?y_e6 ?y_e7 ?y_e8 ?y_p1 ?y_p2 ?y_p3 ?y_p4 ?y_q4 ?y_ks_Sizes ?y_ic_Sizes ?y_im_Sizes
    (case g_Buffer => k_is)
    (case g_PageError => k_is)
    (case g_NotValid => k_is)
    (case g_Box => k_is)
    (case g_Sizes => k_is)
    (case g_Memory => k_is)
    (case a_Buffer_init => k_is)
    (case i_Buffer_init => k_is)
    (case l_Buffer_init => k_is)
    (case c_Buffer_init => k_is)
    (case k_Buffer_init => k_is)
    (case a_Buffer_entries => k_is)
    (case i_Buffer_entries => k_is)
    (case l_Buffer_entries => k_is)
    (case c_Buffer_entries => k_is)
    (case k_Buffer_entries => k_is)
    (case a_PageError_init => k_is)
    (case i_PageError_init => k_is)
    (case l_PageError_init => k_is)
    (case c_PageError_init => k_is)
    (case k_PageError_init => k_is)
    (case a_is_whole => k_is)
    (case l_is_whole => k_is)
    (case c_is_whole => k_is)
    (case k_is_whole => k_is)
    (case a_is_number_below => k_is)
    (case l_is_number_below => k_is)
    (case c_is_number_below => k_is)
    (case k_is_number_below => k_is)
    (case a_Box_init => k_is)
    (case i_Box_init => k_is)
    (case l_Box_init => k_is)
    (case c_Box_init => k_is)
    (case k_Box_init => k_is)
    (case a_Box_letters => k_is)
    (case i_Box_letters => k_is)
    (case l_Box_letters => k_is)
    (case c_Box_letters => k_is)
    (case k_Box_letters => k_is)
    (case a_is_between => k_is)
    (case l_is_between => k_is)
    (case c_is_between => k_is)
    (case k_is_between => k_is)
    (case a_Sizes_init => k_is)
    (case i_Sizes_init => k_is)
    (case l_Sizes_init => k_is)
    (case c_Sizes_init => k_is)
    (case k_Sizes_init => k_is)
    (case a_Sizes_lock => k_is)
    (case i_Sizes_lock => k_is)
    (case l_Sizes_lock => k_is)
    (case c_Sizes_lock => k_is)
    (case k_Sizes_lock => k_is)
    (case a_Sizes_acknowledge => k_is)
    (case i_Sizes_acknowledge => k_is)
    (case l_Sizes_acknowledge => k_is)
    (case c_Sizes_acknowledge => k_is)
    (case k_Sizes_acknowledge => k_is)
    (case a_Sizes_word => k_is)
    (case i_Sizes_word => k_is)
    (case l_Sizes_word => k_is)
    (case c_Sizes_word => k_is)
    (case k_Sizes_word => k_is)
    (case a_Sizes_frame_cell => k_is)
    (case i_Sizes_frame_cell => k_is)
    (case l_Sizes_frame_cell => k_is)
    (case c_Sizes_frame_cell => k_is)
    (case k_Sizes_frame_cell => k_is)
    (case a_Sizes_swap_block => k_is)
    (case i_Sizes_swap_block => k_is)
    (case l_Sizes_swap_block => k_is)
    (case c_Sizes_swap_block => k_is)
    (case k_Sizes_swap_block => k_is)
    (case a_Sizes_file_block => k_is)
    (case i_Sizes_file_block => k_is)
    (case l_Sizes_file_block => k_is)
    (case c_Sizes_file_block => k_is)
    (case k_Sizes_file_block => k_is)
    (case a_Sizes_cells => k_is)
    (case i_Sizes_cells => k_is)
    (case l_Sizes_cells => k_is)
    (case c_Sizes_cells => k_is)
    (case k_Sizes_cells => k_is)
    (case a_first_values => k_is)
    (case l_first_values => k_is)
    (case c_first_values => k_is)
    (case k_first_values => k_is)
    (case a_Memory_init => k_is)
    (case i_Memory_init => k_is)
    (case l_Memory_init => k_is)
    (case c_Memory_init => k_is)
    (case k_Memory_init => k_is)
    (case a_Memory_peek => k_is)
    (case i_Memory_peek => k_is)
    (case l_Memory_peek => k_is)
    (case c_Memory_peek => k_is)
    (case k_Memory_peek => k_is)
    (case a_Memory_log => k_is)
    (case i_Memory_log => k_is)
    (case l_Memory_log => k_is)
    (case c_Memory_log => k_is)
    (case k_Memory_log => k_is)
    (case a__law_tape => k_is)
    (case l__law_tape => k_is)
    (case c__law_tape => k_is)
    (case k__law_tape => k_is)
    (case a__law_at => k_is)
    (case l__law_at => k_is)
    (case c__law_at => k_is)
    (case k__law_at => k_is)
    (case a__law_told => k_is)
    (case l__law_told => k_is)
    (case c__law_told => k_is)
    (case k__law_told => k_is)
    (case a__law_listed => k_is)
    (case l__law_listed => k_is)
    (case c__law_listed => k_is)
    (case k__law_listed => k_is)
    (case a__law_values => k_is)
    (case l__law_values => k_is)
    (case c__law_values => k_is)
    (case k__law_values => k_is)
    (case a_law => k_is)
    (case l_law => k_is)
    (case c_law => k_is)
    (case k_law => k_is)
    (case pg_Buffer => k_is)
    (case hd_Buffer => k_is)
    (case po_Buffer => k_is)
    (case sa_Buffer => k_is)
    (case mk_Buffer => k_is)
    (case kc_Buffer => k_is)
    (case n_Buffer__entries => k_is)
    (case pg_Box => k_is)
    (case hd_Box => k_is)
    (case po_Box => k_is)
    (case sa_Box => k_is)
    (case mk_Box => k_is)
    (case kc_Box => k_is)
    (case n_Box__letters => k_is)
    (case pg_Sizes => k_is)
    (case hd_Sizes => k_is)
    (case po_Sizes => k_is)
    (case sa_Sizes => k_is)
    (case mk_Sizes => k_is)
    (case kc_Sizes => k_is)
    (case n_Sizes_processors => k_is)
    (case n_Sizes_frames => k_is)
    (case n_Sizes_blocks => k_is)
    (case n_Sizes__acknowledges => k_is)
    (case n_Sizes__words => k_is)
    (case n_Sizes__frame_cells => k_is)
    (case n_Sizes__swap_blocks => k_is)
    (case n_Sizes__file_blocks => k_is)
    (case pg_Memory => k_is)
    (case hd_Memory => k_is)
    (case po_Memory => k_is)
    (case sa_Memory => k_is)
    (case mk_Memory => k_is)
    (case kc_Memory => k_is)
    (case n_Memory_sizes => k_is)
    (case n_Memory_count => k_is)
    (case n_Memory_buffers => k_is)
    (case n_Memory_boxes => k_is)
    (case n_Memory__cells => k_is)
    (case n_Memory__log => k_is)
    (case z_CELLS => k_is)
    (case z_FILES => k_is)
    (case z_FILE_PAGES => k_is)
    (case z_MOST_ENTRIES => k_is)
    (case z_PAGES => k_is)
    (case z_SPACES => k_is)
    (case z_ValueError => k_is)
    (case z_abs => k_is)
    (case z_all => k_is)
    (case z_bool => k_is)
    (case z_int => k_is)
    (case z_isinstance => k_is)
    (case z_len => k_is)
    (case z_list => k_is)
    (case z_range => k_is)
    (case z_str => k_is)
    (case z_tuple => k_is)
    (case z_zip => k_is)
    (case y_xL => k_is)
    (case y_vV => k_is)
    (case y_xi_NotValid => k_is)
    (case y_xt_NotValid => k_is)
    (case y_xs_NotValid => k_is)
    (case y_xb_NotValid => k_is)
    (case y_xy_NotValid => k_is)
    (case y_xk_NotValid => k_is)
    (case y_e1 => k_is)
    (case y_e2 => k_is)
    (case y_e4 => k_is)
    (case y_e5 => k_is)
    (case y_e6 => k_is)
    (case y_e7 => k_is)
    (case y_e8 => k_is)
    (case y_p1 => k_is)
    (case y_p2 => k_is)
    (case y_p3 => k_is)
    (case y_p4 => k_is)
    (case y_q4 => first | rfl | k_is)
    (case y_ks_Sizes => k_is)
    (case y_ic_Sizes => k_is)
    (case y_im_Sizes => k_is)
