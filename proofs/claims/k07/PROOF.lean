import PyProof.Rows.All
import Wide.All
import OpenK.AllK
import Wide.FinOn
import HandS.ForExc
import HandS.Comp
import HandS.IsInst
import HandS.ExcInit
import HandS.ExcIs
import HandS.CallSlots
import HandS.Iter
import HandS.Zip
import HandS.Deep
import HandS.ListItems
import KE.DataFind
import HandS.Remove
import HandS.SetFor
import HandS.TupAny
import HandS.TupLe
import HandS.SortInts
import PySem.Challenge.RW_frametally_k07_owners_and_hand
set_option Elab.async false
set_option linter.all false
set_option maxRecDepth 100000
set_option maxHeartbeats 4000000
/-! Data that stands in the heap (None, bools, ints, texts, lists, tuples): how it stays, what shape it has, its type. -/
namespace Dk
open PySem PySem.Spec PyProof.Rows L2

theorem Same.tupS {K : PySem.W.Frag} {H H' : Hp} {a : Addr} {xs : List V} (e : Same H H') (h : SqT K H a xs) : SqT K H' a xs := by
  rcases h with (h | ⟨o, h⟩) | h
  · exact .inl (.inl (e _ _ h))
  · exact .inl (.inr ⟨o, e _ _ h⟩)
  · exact .inr h
theorem Same.new {H : Hp} {p : Addr} {o : HO} (h : H p = none) : Same H (upd H p o) := fun b u e => (upd_ne (ne_of_none e h)).trans e
/-- an object that H does not track may be written -/
theorem Same.put {H H' : Hp} {p : Addr} {o : HO} (e : Same H H') (h : H p = none) : Same H (upd H' p o) := fun b u k => (upd_ne (ne_of_none k h)).trans (e b u k)

mutual
theorem dp_mono {K : PySem.W.Frag} {H H' : Hp} (e : Same H H') : ∀ {d : PyData} {v : V}, Dp K H v d → Dp K H' v d
  | .none, _, h => by cases h; exact .non
  | .bool b, _, h => by cases h; exact .bl b
  | .int i, _, h => by cases h; exact .int i
  | .str x, _, h => by cases h; exact .str x
  | .list ds, _, h => by
    cases h with
    | lst s q => exact .lst (e.seq s) (dpAll_mono e q)
  | .tuple ds, _, h => by
    cases h with
    | tup s q => exact .tup (Same.tupS e s) (dpAll_mono e q)
  | .dict _, _, h => by cases h
theorem dpAll_mono {K : PySem.W.Frag} {H H' : Hp} (e : Same H H') : ∀ {ds : List PyData} {vs : List V}, DpAll K H vs ds → DpAll K H' vs ds
  | [], _, h => by cases h; exact .nil
  | d :: ds, _, h => by
    cases h with
    | cons a b => exact .cons (dp_mono e a) (dpAll_mono e b)
end
section
variable {K : PySem.W.Frag} {H : Hp}
theorem dpAll_app : ∀ {xs ys : List V} {ds es : List PyData}, DpAll K H xs ds → DpAll K H ys es → DpAll K H (xs ++ ys) (ds ++ es)
  | _, _, _, _, .nil, q => q
  | _, _, _, _, .cons a b, q => .cons a (dpAll_app b q)
theorem dpAll_len : ∀ {xs : List V} {ds : List PyData}, DpAll K H xs ds → xs.length = ds.length
  | _, _, .nil => rfl
  | _, _, .cons _ b => congrArg (· + 1) (dpAll_len b)
theorem dpAll_drop : ∀ {xs : List V} {ds : List PyData} (n : Nat), DpAll K H xs ds → DpAll K H (xs.drop n) (ds.drop n)
  | _, _, 0, q => q
  | _, _, n + 1, .nil => .nil
  | _, _, n + 1, .cons _ b => dpAll_drop n b
theorem dpAll_get : ∀ {xs : List V} {ds : List PyData} {i : Nat} {v : V}, DpAll K H xs ds → xs[i]? = some v → ∃ d, ds[i]? = some d ∧ Dp K H v d
  | _, _, _, _, .nil, e => by simp at e
  | _, _, 0, _, .cons a _, e => by
    simp at e
    subst e
    exact ⟨_, rfl, a⟩
  | _, _, i + 1, _, .cons _ b, e => by
    obtain ⟨d, h1, h2⟩ := dpAll_get (i := i) b (by simpa using e)
    exact ⟨d, by simpa using h1, h2⟩
theorem dpAll_ints (ns : List Int) : DpAll K H (ns.map V.int) (ns.map PyData.int) := by
  induction ns with
  | nil => exact .nil
  | cons n ns ih => exact .cons (.int n) ih
end

theorem take_snoc {α : Type} : ∀ {l : List α} {i : Nat} {x : α}, l[i]? = some x → l.take (i + 1) = l.take i ++ [x]
  | [], _, _, h => by simp at h
  | y :: l, 0, _, h => by
    simp at h
    subst h
    rfl
  | y :: l, i + 1, _, h => by
    have ih := take_snoc (l := l) (i := i) (by simpa using h)
    rw [List.take_succ_cons, ih, List.take_succ_cons]
    rfl

theorem ifF {c : Bool} {A B : Prop} (h : c = false) (b : B) : if c = true then A else B := by
  rw [h]
  exact iteF b
theorem ifT {c : Bool} {A B : Prop} (h : c = true) (b : A) : if c = true then A else B := by
  rw [h]
  exact iteT b
theorem upd_comm {H : Hp} {a b : Addr} {o u : HO} (h : a ≠ b) : upd (upd H a o) b u = upd (upd H b u) a o := by
  funext c
  by_cases ca : c = a
  · rw [ca, upd_ne h, upd_same, upd_same]
  · by_cases cb : c = b
    · rw [cb, upd_same, upd_ne (Ne.symm h), upd_same]
    · rw [upd_ne cb, upd_ne ca, upd_ne ca, upd_ne cb]
theorem upd_self {H : Hp} {a : Addr} {o : HO} (h : H a = some o) : upd H a o = H := by
  funext c
  by_cases ca : c = a
  · rw [ca, upd_same, h]
  · rw [upd_ne ca]

theorem cut1 (xs : List V) : cutV xs (some 1) none = xs.drop 1 := by
  unfold cutV
  have e1 : HT.sIx xs.length 0 (some 1) = min 1 xs.length := HT.sIx_nat xs.length 0 1
  rw [e1, HT.sIx_none]
  cases xs with
  | nil => rfl
  | cons x xs =>
    rw [show min 1 (x :: xs).length = 1 by simp only [List.length_cons]; omega]
    exact List.take_of_length_le (by rw [List.length_drop]; omega)

/-- a new object beside a list under construction at D -/
theorem new_under {G : Hp} {D p : Addr} {u o : HO} (gD : G D = none) (h : upd G D u p = none) : upd (upd G D u) p o = upd (upd G p o) D u ∧ G p = none ∧ upd G p o D = none := by
  have ne : p ≠ D := fun e => by
    rw [e, upd_same] at h
    cases h
  exact ⟨upd_comm (Ne.symm ne), (upd_ne ne).symm.trans h, (upd_ne (Ne.symm ne)).trans gD⟩

/-! ### tuples stay, whatever is written elsewhere -/
def IsT : HO → Prop
  | .tup _ => True
  | .frz _ u => IsT u
  | _ => False
def KT (H H' : Hp) : Prop := ∀ b o, H b = some o → IsT o → H' b = some o
theorem KT.refl (H : Hp) : KT H H := fun _ _ h _ => h
theorem KT.trans {H H1 H2 : Hp} (a : KT H H1) (b : KT H1 H2) : KT H H2 := fun c o h k => b c o (a c o h k) k
theorem KT.of {H H' : Hp} (e : Same H H') : KT H H' := fun b o h _ => e b o h
theorem KT.put {H : Hp} {a : Addr} {u : HO} (h : ∀ o, H a = some o → ¬ IsT o) : KT H (upd H a u) := fun b o e k => by
  have ne : b ≠ a := fun z => h o (z ▸ e) k
  rw [upd_ne ne]
  exact e
theorem KT.lst {H : Hp} {a : Addr} {xs : List V} {u : HO} (h : H a = some (.lst xs)) : KT H (upd H a u) := KT.put fun o e k => by
  rw [h] at e
  cases e
  exact k
theorem KT.ins {H : Hp} {a C dx : Addr} {fs : List (Str × V)} {u : HO} (h : H a = some (.ins C dx fs)) : KT H (upd H a u) := KT.put fun o e k => by
  rw [h] at e
  cases e
  exact k
theorem KT.new {H : Hp} {a : Addr} {u : HO} (h : H a = none) : KT H (upd H a u) := KT.of (Same.new h)
theorem KT.tupS {K : PySem.W.Frag} {H H' : Hp} {a : Addr} {xs : List V} (e : KT H H') (h : SqT K H a xs) : SqT K H' a xs := by
  rcases h with (h | ⟨o, h⟩) | h
  · exact .inl (.inl (e _ _ h True.intro))
  · exact .inl (.inr ⟨o, e _ _ h True.intro⟩)
  · exact .inr h
mutual
/-- no list, no dict within -/
def noL : PyData → Bool
  | .none => true
  | .bool _ => true
  | .int _ => true
  | .str _ => true
  | .list _ => false
  | .dict _ => false
  | .tuple ds => noLs ds
def noLs : List PyData → Bool
  | [] => true
  | d :: ds => noL d && noLs ds
end
mutual
theorem dp_keep {K : PySem.W.Frag} {H H' : Hp} (e : KT H H') : ∀ {d : PyData} {v : V}, noL d = true → Dp K H v d → Dp K H' v d
  | .none, _, _, h => by cases h; exact .non
  | .bool b, _, _, h => by cases h; exact .bl b
  | .int i, _, _, h => by cases h; exact .int i
  | .str x, _, _, h => by cases h; exact .str x
  | .list ds, _, n, h => by simp [noL] at n
  | .tuple ds, _, n, h => by
    cases h with
    | tup s q => exact .tup (e.tupS s) (dpAll_keep e (by simpa [noL] using n) q)
  | .dict _, _, _, h => by cases h
theorem dpAll_keep {K : PySem.W.Frag} {H H' : Hp} (e : KT H H') : ∀ {ds : List PyData} {vs : List V}, noLs ds = true → DpAll K H vs ds → DpAll K H' vs ds
  | [], _, _, h => by cases h; exact .nil
  | d :: ds, _, n, h => by
    cases h with
    | cons a b =>
      have n2 : noL d = true ∧ noLs ds = true := by simpa [noLs] using n
      exact .cons (dp_keep e n2.1 a) (dpAll_keep e n2.2 b)
end
theorem noLs_of : ∀ {ds : List PyData}, (∀ d ∈ ds, noL d = true) → noLs ds = true
  | [], _ => by simp only [noLs]
  | d :: ds, h => by
    simp only [noLs, h d (List.mem_cons_self ..), noLs_of fun x hx => h x (List.mem_cons_of_mem _ hx), Bool.and_self]
theorem noL_tup {ds : List PyData} (h : ∀ d ∈ ds, noL d = true) : noL (.tuple ds) = true := by
  simp only [noL]
  exact noLs_of h

/-! ### shapes -/
structure Sh (n : Nat) (d : PyData) : Prop where
  lay : d.canLay0 = true
  deep : d.depth ≤ n
theorem Sh.up {n m : Nat} {d : PyData} (h : Sh n d) (k : n ≤ m) : Sh m d := ⟨h.lay, Nat.le_trans h.deep k⟩
theorem sh_none : Sh 0 .none := ⟨by simp only [PyData.canLay0], by simp only [PyData.depth]; omega⟩
theorem sh_int (i : Int) : Sh 0 (.int i) := ⟨by simp only [PyData.canLay0], by simp only [PyData.depth]; omega⟩
theorem sh_bool (b : Bool) : Sh 0 (.bool b) := ⟨by simp only [PyData.canLay0], by simp only [PyData.depth]; omega⟩
theorem sh_all {n : Nat} : ∀ {ds : List PyData}, (∀ d ∈ ds, Sh n d) → PyData.canLayAll0 ds = true ∧ PyData.depthAll ds ≤ n
  | [], _ => ⟨by simp only [PyData.canLayAll0], by simp only [PyData.depthAll]; omega⟩
  | d :: ds, h => by
    have h1 := h d (List.mem_cons_self ..)
    obtain ⟨h2, h3⟩ := sh_all (n := n) (ds := ds) fun x hx => h x (List.mem_cons_of_mem _ hx)
    exact ⟨by simp only [PyData.canLayAll0, h1.lay, h2, Bool.and_self], by simp only [PyData.depthAll]; exact Nat.max_le.mpr ⟨h1.deep, h3⟩⟩
theorem sh_tup {n : Nat} {ds : List PyData} (h : ∀ d ∈ ds, Sh n d) : Sh (n + 1) (.tuple ds) := by
  obtain ⟨h1, h2⟩ := sh_all h
  exact ⟨by simp only [PyData.canLay0]; exact h1, by simp only [PyData.depth]; omega⟩
theorem sh_lst {n : Nat} {ds : List PyData} (h : ∀ d ∈ ds, Sh n d) : Sh (n + 1) (.list ds) := by
  obtain ⟨h1, h2⟩ := sh_all h
  exact ⟨by simp only [PyData.canLay0]; exact h1, by simp only [PyData.depth]; omega⟩
theorem Sh.ok {n : Nat} {d : PyData} (h : Sh n d) (k : n ≤ 64 := by decide) : SeqAt.shaped d = true := by
  unfold SeqAt.shaped
  rw [h.lay, decide_eq_true (Nat.le_trans h.deep k)]
  rfl
theorem Sh.refl {n : Nat} {d : PyData} (h : Sh n d) : PyData.eqv d d = true := SeqAt.eqv_refl d h.lay

/-! ### types -/
def tyN : PyData → String
  | .none => "NoneType"
  | .bool _ => "bool"
  | .int _ => "int"
  | .str _ => "str"
  | .list _ => "list"
  | .tuple _ => "tuple"
  | .dict _ => "dict"
theorem tyx {K : PySem.W.Frag} {H : Hp} {v : V} {d : PyData} (h : Dp K H v d) : TyX K H v (.type (tyN d)) := by
  cases h with
  | non => exact .base .non
  | bl b => exact .base (.bl b)
  | int i => exact .base (.int i)
  | str x => exact .base (.str x)
  | lst s _ =>
    rcases s with (s | ⟨o, s⟩) | s
    · exact .base (.lst s)
    · exact .base (.frz s)
    · obtain ⟨o, _, _, h1, h2, _⟩ := s
      exact .kList h1 h2
  | tup s _ =>
    rcases s with (s | ⟨o, s⟩) | s
    · exact .base (.tup s)
    · exact .fTuple s
    · obtain ⟨o, _, _, h1, h2, _⟩ := s
      exact .kTuple h1 h2

/-! ### isinstance over data -/
def isInt : PyData → Bool
  | .int _ => true
  | .bool _ => true
  | _ => false
def isBool : PyData → Bool
  | .bool _ => true
  | _ => false
def isTup : PyData → Bool
  | .tuple _ => true
  | _ => false
def isLst : PyData → Bool
  | .list _ => true
  | _ => false
def kits (c : String) : List (Option Bool) := ["NoneType", "bool", "int", "str", "list", "tuple", "dict"].map fun t => kitB t c
theorem kits_at {c : String} {b0 b1 b2 b3 b4 b5 b6 : Bool} (h : kits c = [some b0, some b1, some b2, some b3, some b4, some b5, some b6]) (d : PyData) :
    kitB (tyN d) c = some (match d with | .none => b0 | .bool _ => b1 | .int _ => b2 | .str _ => b3 | .list _ => b4 | .tuple _ => b5 | .dict _ => b6) := by
  simp only [kits, List.map_cons, List.map_nil, List.cons.injEq, and_true] at h
  obtain ⟨h0, h1, h2, h3, h4, h5, h6⟩ := h
  cases d
  · exact h0
  · exact h1
  · exact h2
  · exact h3
  · exact h4
  · exact h5
  · exact h6
section
variable {K : PySem.W.Frag}
theorem kit_int (d : PyData) : PySem.W.kitOne K (.type (tyN d)) (.type "int") = some (isInt d) := by
  refine (kit_ty (kits_at (by decide +kernel : kits "int" = [some false, some true, some true, some false, some false, some false, some false]) d)).trans ?_
  cases d <;> rfl
theorem kit_bool (d : PyData) : PySem.W.kitOne K (.type (tyN d)) (.type "bool") = some (isBool d) := by
  refine (kit_ty (kits_at (by decide +kernel : kits "bool" = [some false, some true, some false, some false, some false, some false, some false]) d)).trans ?_
  cases d <;> rfl
theorem kit_tup (d : PyData) : PySem.W.kitOne K (.type (tyN d)) (.type "tuple") = some (isTup d) := by
  refine (kit_ty (kits_at (by decide +kernel : kits "tuple" = [some false, some false, some false, some false, some false, some true, some false]) d)).trans ?_
  cases d <;> rfl
theorem kit_lst (d : PyData) : PySem.W.kitOne K (.type (tyN d)) (.type "list") = some (isLst d) := by
  refine (kit_ty (kits_at (by decide +kernel : kits "list" = [some false, some false, some false, some false, some true, some false, some false]) d)).trans ?_
  cases d <;> rfl
end
end Dk
/-! An own error class over ValueError that is made without an argument and keeps no field: C(), its __init__ walked as a def. -/
namespace Ek
open PySem PySem.Spec PyProof.Rows L2
section
variable {X : Cx} {a C : Addr} {p pos : Pos}

/-- behind C(): the error at a is let go, nothing else of the heap has changed its tracking -/
theorem let_go {pins : List (Addr × Obj)} {σ : L2.St} {H1 H2 : Hp} {u v w2 : Heap} {gA gB : Array GenState} {dA dB : Drawn} {tA tB : Nat} {oA oB : OsState}
    (I1 : Inv X pins σ H1 ⟨u, gA, dA, tA, oA⟩) (ha : u.objs.size ≤ a) (kp : ∀ b o, u.get? b = some o → v.get? b = some o)
    (un : Un (frs X.stack) [] (upd H1 a (exo a C none)) H2 v w2) (ok2 : HOk X.prog X.w H2 w2) (eo : oB = oA) (bare : AllBare gB) (ea : H2 a = some (exo a C none)) :
    ∃ (t0 : Addr) (G : Heap), Inv X pins σ (del H2 a) ⟨G, gB, dB, tB, oB⟩ ∧ (∀ b o, G.get? b = some o → w2.get? b = some o) ∧ G.get? a = none ∧
      w2.get? a = some ({ cls := .ref C, dict := none, data := .fields #[.ref t0, .none, .none, .none, .bool false, .none] } : Obj) := by
  obtain ⟨t0, he⟩ := exo_at ok2 ea
  have hn : H1 a = none := I1.hok.fresh ha
  obtain ⟨G, gIn, gOut⟩ := restrict w2 (fun b => decide (b ≠ a))
  have same : ∀ b, b ≠ a → G.get? b = w2.get? b := fun b hb => gIn b (decide_eq_true hb)
  have gone : G.get? a = none := gOut a (by simp)
  have old : ∀ {b : Addr} {o : Obj}, u.get? b = some o → b ≠ a := fun {b o} z => Nat.ne_of_lt (Nat.lt_of_lt_of_le (Heap.lt_size z) ha)
  have up : ∀ {b : Addr}, b ≠ a → H1 b = none → upd H1 a (exo a C none) b = none := fun {b} hb n => (upd_ne hb).trans n
  have U : Un (frs X.stack) [] H1 (del H2 a) u G :=
    { keep := fun b o z n hf hx => (same b (old z)).trans (un.keep b o (kp b o z) (up (old z) n) hf hx)
      slot := fun b o z n hf hx => by
        obtain ⟨sl, e⟩ := un.slot b o (kp b o z) (up (old z) n) hf hx
        exact ⟨sl, (same b (old z)).trans e⟩
      free := fun b o z n hx => (del_ne (old z)).trans (un.free b o (kp b o z) (up (old z) n) hx)
      there := fun b o z hx => by
        obtain ⟨o2, e⟩ := un.there b o (kp b o z) hx
        exact ⟨o2, (same b (old z)).trans e⟩
      tups := fun b xs z => (del_ne (ne_of_none z hn)).trans (un.tups b xs ((upd_ne (ne_of_none z hn)).trans z))
      frzs := fun b o y z => (del_ne (ne_of_none z hn)).trans (un.frzs b o y ((upd_ne (ne_of_none z hn)).trans z))
      tbls := fun b ps z => by
        obtain ⟨more, e⟩ := un.tbls b ps ((upd_ne (ne_of_none z hn)).trans z)
        exact ⟨more, (del_ne (ne_of_none z hn)).trans e⟩ }
  have noa : ∀ {b c : Addr}, H2 c = some (.own b) → c ≠ a := fun {b c} hc => at_ne ea hc exo_own
  have ok3 : HOk X.prog X.w (del H2 a) G := fun b o z => by
    have hba : b ≠ a := fun e => by
      rw [e, del_same] at z
      cases z
    rw [del_ne hba] at z
    refine (ok2 b o z).stay (fun c y hc q => ?_) (fun c hc => (del_ne (noa hc)).trans hc) (fun c xs hc => (del_ne (at_ne ea hc exo_tup)).trans hc)
    have hca : c ≠ a := by
      rcases hc with hc | hc
      · exact hc ▸ hba
      · exact noa hc
    exact (same c hca).trans q
  refine ⟨t0, G, I1.call' (ch := []) eo U ok3 bare (fun b z => absurd z (by simp)), fun b o z => ?_, gone, he⟩
  by_cases hba : b = a
  · rw [hba, gone] at z
    cases z
  · exact (same b hba).symm.trans z

/-- C(), where __init__ sets nothing -/
def tMk0 (C : Addr) (sp : Sp) : L2.St → Hp → XK → Prop := fun _ H Q => ∀ a, H a = none →
  sp [.ref a] (upd H a (exo a C none)) (fun v H2 => v = .non ∧ H2 a = some (exo a C none) ∧ Q (.ref C) none (del H2 a)) (fun _ _ _ => False)
theorem mk_exc0 {CX : CXT} {x : Str} {C fI : Addr} {k : Nat} {fd : FuncData} {ps : List Str} {sp : Sp} (T : OexC X.K C)
    (iC : PySem.W.findIn X.K (.ref C) "__init__" = some (some (.ref fI))) (tI : PySem.W.typeIn X.K (.ref fI) = some (.type "function"))
    (F1 : FnOk X.prog X.w X.K X.mg X.base CX k fI fd ps sp) (hr : Room (k + 1) X.A) (hb : Binds X.K fd ps []) (hx : Passes CX X (fun _ _ _ => False))
    (hg : Gl X x) (hm : X.mg x = some (.ref C)) (hdb : (x == ("__debug__" : Str)) = false := by decide) :
    PMk X (.Call (.Name x p) [] [] pos) (tMk0 C sp) := by
  intro pins s σ H Q I h
  obtain ⟨nm, q, N, bs, bm, sn, sub, ab, col, dd, k0, k1, k2, k3, k5, hC, hbm⟩ := T.cls
  refine wpAny_Call_Name_kw (ld_glob I hg hm ?_ hdb)
  refine PySem.W.callWith_K0 I.kIn T.kC ?_
  show wpAny _ _ (call (.ref C) []) _ _ _
  obtain ⟨hp, g, dr, tk, os⟩ := s
  have hsz : hp.objs.size ≤ hp.objs.size + 1 := Nat.le_succ _
  have hn : H (hp.objs.size + 1) = none := I.hok.fresh hsz
  have want := h (hp.objs.size + 1) hn
  have keep2 : ∀ b o, hp.get? b = some o → ((hp.push (PySem.W.kdv_tup [])).push (PySem.HandSPX.excO C hp.objs.size)).get? b = some o :=
    fun b o e => Heap.get?_push_of_some _ (Heap.get?_push_of_some _ e)
  have atE : ((hp.push (PySem.W.kdv_tup [])).push (PySem.HandSPX.excO C hp.objs.size)).get? (hp.objs.size + 1) = some (PySem.HandSPX.excO C hp.objs.size) := by heap_get
  have I2 : Inv X pins σ (upd H (hp.objs.size + 1) (exo (hp.objs.size + 1) C none)) ⟨(hp.push (PySem.W.kdv_tup [])).push (PySem.HandSPX.excO C hp.objs.size), g, dr, tk, os⟩ :=
    I.laid (t' := tk) (a := hp.objs.size + 1) (o := exo (hp.objs.size + 1) C none) (h' := (hp.push (PySem.W.kdv_tup [])).push (PySem.HandSPX.excO C hp.objs.size)) keep2 hsz (exo_ok atE)
  have r2 : Vals [V.ref (hp.objs.size + 1)] [Value.ref (hp.objs.size + 1)] := .cons rfl .nil
  have len1 : ([Value.ref (hp.objs.size + 1)] : List Value).length = ps.length := by
    have e := r2.length
    rw [F1.len _ _ _ _ want] at e
    exact e.symm
  refine wpAny_call (PySem.HandSPX.call_own (rest := []) F.excBase_ValueError (fun Y => PySem.HandSPX.refsVE_contains Y bm hbm) (I.kIn _ _ hC) (PySem.W.looks_findIn I.kIn iC)
    (fun self => PySem.W.bind_fn I.kIn self tI) (Nat.zero_le _) (codeAny_mono (F1.run _ X.stack _ _ ⟨[Value.ref (hp.objs.size + 1)], []⟩ [Value.ref (hp.objs.size + 1)] _ _ (fun _ _ _ => False)
      (hr.make C [] []) (I2.env0.make C [] []) (hb _ [Value.ref (hp.objs.size + 1)] I2.kIn len1) r2 want) fun r s2 back => ?_))
  cases r with
  | error er => exact hx pins σ _ _ er s2 I2 back
  | ok fl =>
    cases fl with
    | ret y =>
      obtain ⟨v, H2, os2, bare2, un2, hok2, rv, ev, ea, wish⟩ := back
      subst ev
      obtain ⟨h2, g2, d2, t2, o2⟩ := s2
      obtain ⟨t0, G, J, kG, gone, there⟩ := let_go (dB := d2) (tB := t2) I hsz keep2 un2 hok2 os2 bare2 ea
      exact ⟨rv, ⟨_, _, _, ⟨G, g2, d2, t2, o2⟩, _, .ref C, none, rfl, J, kG, gone, there, ⟨rfl, rfl⟩, rfl, rfl, del_same, rfl, bare2, raises_own T.exC T.tyC, wish⟩⟩
    | next => exact back.elim
    | brk => exact back.elim
    | cont => exact back.elim
end

section
variable {X : Cx} {CX : CXT} {k : Nat} {f C : Addr} {fd : FuncData} {ps : List Str} {sp : Sp} {E : L2.St → XK} {m : Str} {apos pos : Pos} {e o : Expr} {es : List Expr} {ta : TE} {t : TA}
/-- o.m(e, ..), where what is raised is wished for at the caller's slots -/
def tMethW (C : Addr) (m : Str) (sp : Sp) (E : L2.St → XK) (ta : TE) (t : TA) : TE := fun σ H Q => ta σ H fun x H1 =>
  ∃ a dx fs, x = .ref a ∧ H1 a = some (.ins C dx fs) ∧ fs.lookup m = none ∧ t σ H1 fun vs H2 => sp (x :: vs) H2 Q (E σ)
theorem pe_methW {pl : Sem Bool} (he : PE X o ta) (c : Cls X.K C) (hm : Meth X.K C m f) (F : FnOk X.prog X.w X.K X.mg X.base CX k f fd ps sp) (hr : Room k X.A) (hb : Binds X.K fd ps [])
    (hx : ∀ σ, PassesAt CX X σ (E σ)) (ha : PA X (e :: es) t)
    (hst : starEach (e :: es) X.env = (false, eval e X.env) :: starEach es X.env := by rfl) (hpl : (backTo pos (starEach es X.env)).any (·.1) = false := by rfl)
    (ht : eval (.Call (.Attribute o m apos) (e :: es) [] pos) X.env = (do
      let ov ← eval o X.env
      standAt apos.atName
      let fr ← holding [ov] (getMethod ov m pl)
      callWith pos fr.1 fr.2 (backTo pos (starEach (e :: es) X.env)) (backToKw pos (keywordEach [] X.env))) := by rfl) :
    PE X (.Call (.Attribute o m apos) (e :: es) [] pos) (tMethW C m sp E ta t) := by
  refine ⟨fun pins s σ H Q I h => ?_⟩
  refine PySem.W.methodCall_KW (pl := pl) (thn (he.run pins s σ H _ I h) fun u s1 ⟨x, H1, I1, rx, a, dx, fs, ex, ea, l, q⟩ => ?_) ht
  subst ex
  obtain rfl : u = Value.ref a := rx
  refine getmeth_ok I1 ea c hm l ?_
  refine PySem.W.callWith_K (first := [.ref a]) (h₀ := X.base) I.ok.mod.kin hm.kp (thn (ha.run pos pins s1 σ H1 _ I1 q) fun us s2 ⟨vs, H2, I2, r, q2⟩ => ⟨I2.kIn, ?_⟩) hst hpl
  exact run_fnS (us := .ref a :: us) (vs := .ref a :: vs) F hr hb (hx σ) I2 (.cons rfl r) q2
end

theorem hu65 {k : Nat} {A : Around} (hr : Room k A) : A.units + 65 < cLine := by
  have := hr.un
  omega
/-- a module's constant -/
theorem pe_con {X : Cx} {x : Str} {pos : Pos} {v : V} (hg : Gl X x) (h : ∃ u, X.mg x = some u ∧ RelV v u) (hdb : (x == ("__debug__" : Str)) = false := by decide) : PE X (.Name x pos) (tC v) := by
  obtain ⟨u, h1, h2⟩ := h
  exact pe_glob hg h1 h2 hdb
/-- a statement and what follows it, joined by a word of one's own: what follows is read once, whatever way led there -/
def tMid (t u : TS) : TS := fun D σ H => ∃ M : L2.St → Hp → Prop, t { D with nx := M } σ H ∧ ∀ σ2 H2, M σ2 H2 → u D σ2 H2
theorem pss_mid {X : Cx} {st : Stmt} {more : List Stmt} {t u : TS} (hs : PS X st t) (hm : PSs X more u) : PSs X (st :: more) (tMid t u) := ⟨fun pins s σ H D I ⟨M, hM, hu⟩ =>
  wpAny_execs_cons (thn (hs.run pins s σ H { D with nx := M } I hM) fun f s2 back => by
    cases f with
    | next =>
      obtain ⟨σ2, H2, I2, y⟩ := back
      exact hm.run pins s2 σ2 H2 D I2 (hu σ2 H2 y)
    | ret v => exact back
    | brk => exact back
    | cont => exact back)⟩
/-- a block that is walked under a condition which its reading brings -/
theorem pss_under {X : Cx} {sts : List Stmt} {P : Prop} {t : TS} (h : P → PSs X sts t) : PSs X sts (fun D σ H => P ∧ t D σ H) :=
  ⟨fun pins s σ H D I q => (h q.1).run pins s σ H D I q.2⟩
section
variable {X : Cx} {CX : CXT} {k : Nat} {f C : Addr} {fd : FuncData} {ps : List Str} {sp : Sp} {E : L2.St → XK} {x : Str} {p pos : Pos} {e : Expr} {es : List Expr} {t : TA}
/-- C(e, ..), where what is raised is wished for at the caller's slots -/
def tMakeW (C : Addr) (sp : Sp) (E : L2.St → XK) (t : TA) : TE := fun σ H Q => t σ H fun vs H1 => ∀ x dx, H1 x = none → H1 dx = none → dx ≠ x → sp (.ref x :: vs) (upd (upd H1 dx (.own x)) x (.ins C dx [])) (fun v H2 => v = .non ∧ Q (.ref x) H2) (E σ)
theorem run_makeW {pins : List (Addr × Obj)} {σ : L2.St} {H : Hp} {s : Shared} {Q : VK} {us : List Value} {vs : List V} (M : Mk X.K C f) (F : FnOk X.prog X.w X.K X.mg X.base CX k f fd ps sp) (hr : Room (k + 1) X.A) (hb : Binds X.K fd ps [])
    (hx : PassesAt CX X σ (E σ)) (I : Inv X pins σ H s) (r : Vals vs us)
    (h : ∀ x dx, H x = none → H dx = none → dx ≠ x → sp (.ref x :: vs) (upd (upd H dx (.own x)) x (.ins C dx [])) (fun v H2 => v = .non ∧ Q (.ref x) H2) (E σ)) :
    wpAny (model X.prog X.w) X.A (call (.ref C) us) (EP X pins σ Q) X.xe s := by
  have hq := h (s.heap.objs.size + 1) s.heap.objs.size (I.hok.fresh (Nat.le_succ _)) (I.hok.fresh (Nat.le_refl _)) (Nat.ne_of_lt (Nat.lt_succ_self _))
  have I2 := Inv.made (C := C) I
  have r2 : Vals (V.ref (s.heap.objs.size + 1) :: vs) (Value.ref (s.heap.objs.size + 1) :: us) := .cons rfl r
  have hl : (Value.ref (s.heap.objs.size + 1) :: us).length = ps.length := by
    have e := r2.length
    rw [F.len _ _ _ _ hq] at e
    exact e.symm
  have b := hb ((⟨_, s.gens, s.drawn, s.toks, s.os⟩ : Shared)) (Value.ref (s.heap.objs.size + 1) :: us) I2.kIn (by rw [List.append_nil]; exact hl)
  rw [List.append_nil] at b
  refine wpAny_call (make_map (f := f) I.kIn M.makes M.init (beq_iff_eq.mp M.fn) (codeAny_mono (F.run _ X.stack _ _ ⟨Value.ref (s.heap.objs.size + 1) :: us, []⟩ (Value.ref (s.heap.objs.size + 1) :: us) _ _ (E σ) (hr.make C us [])
    (I2.env0.make C us []) b r2 hq) fun r s' hq' => ?_))
  cases r with
  | error e => exact hx pins _ _ e s' I2 hq'
  | ok fl =>
    cases fl with
    | ret u =>
      obtain ⟨v, H', I3, rv, ev, q3⟩ := I2.after hq'
      subst ev
      exact ⟨rv, ⟨V.ref (s.heap.objs.size + 1), H', I3, rfl, q3⟩⟩
    | next => exact False.elim hq'
    | brk => exact False.elim hq'
    | cont => exact False.elim hq'
theorem pe_makeW (M : Mk X.K C f) (F : FnOk X.prog X.w X.K X.mg X.base CX k f fd ps sp) (hr : Room (k + 1) X.A) (hg : Gl X x) (hm : X.mg x = some (.ref C)) (hb : Binds X.K fd ps []) (hx : ∀ σ, PassesAt CX X σ (E σ))
    (ha : PA X (e :: es) t) (hdb : (x == ("__debug__" : Str)) = false := by decide) (he : starEach (e :: es) X.env = (false, eval e X.env) :: starEach es X.env := by rfl) (hpl : (backTo pos (starEach es X.env)).any (·.1) = false := by rfl) :
    PE X (.Call (.Name x p) (e :: es) [] pos) (tMakeW C sp E t) := by
  refine ⟨fun pins s σ H Q I h => ?_⟩
  refine wpAny_Call_Name_kw (ld_glob I hg hm ?_ hdb)
  refine PySem.W.callWith_K (h₀ := X.base) I.ok.mod.kin M.kp (thn (ha.run pos pins s σ H _ I h) fun us s1 ⟨vs, H1, I1, r, q⟩ => ⟨I1.kIn, ?_⟩) he hpl
  exact run_makeW M F hr hb (hx σ) I1 r q
end
end Ek
/-! Buffers' entries: tuples (space, page, frame, writable) in the heap; pairs; x not in a list or tuple of data; table words. -/
namespace Nk
open PySem PySem.Spec PyProof.Rows L2 Dk

/-- all but the object at b is as it was -/
def SameBut (b : Addr) (H H' : Hp) : Prop := ∀ x o, x ≠ b → H x = some o → H' x = some o
theorem Same.but {b : Addr} {H H' : Hp} (e : Same H H') : SameBut b H H' := fun x o _ h => e x o h
theorem SameBut.trans {b : Addr} {H H1 H2 : Hp} (e : SameBut b H H1) (f : SameBut b H1 H2) : SameBut b H H2 := fun x o n h => f x o n (e x o n h)
theorem SameBut.put {b p : Addr} {H H' : Hp} {o : HO} (e : SameBut b H H') (h : H p = none) : SameBut b H (upd H' p o) := fun x u n k => (upd_ne (ne_of_none k h)).trans (e x u n k)
theorem SameBut.own {b : Addr} {H H' : Hp} {o : HO} (e : SameBut b H H') : SameBut b H (upd H' b o) := fun x u n k => (upd_ne n).trans (e x u n k)
/-- tuples stay where the object at b is none -/
theorem SameBut.kt {b C dx : Addr} {fs : List (Str × V)} {H H' : Hp} (e : SameBut b H H') (h : H b = some (.ins C dx fs)) : KT H H' := fun x o k t => e x o (fun z => by
  rw [z, h] at k
  cases k
  exact t) k

structure En where
  (s p f : Int)
  w : Bool
def eV (e : En) : List V := [.int e.s, .int e.p, .int e.f, .bl e.w]
def eD (e : En) : PyData := .tuple [.int e.s, .int e.p, .int e.f, .bool e.w]
def aV (z : Addr × En) : V := .ref z.1
def EnAll (H : Hp) (zs : List (Addr × En)) : Prop := ∀ z ∈ zs, H z.1 = some (.tup (eV z.2))
theorem EnAll.kt {H H' : Hp} {zs : List (Addr × En)} (h : EnAll H zs) (e : KT H H') : EnAll H' zs := fun z hz => e _ _ (h z hz) True.intro
theorem EnAll.nil (H : Hp) : EnAll H [] := fun _ h => absurd h List.not_mem_nil
theorem EnAll.app {H : Hp} {zs ys : List (Addr × En)} (h : EnAll H zs) (k : EnAll H ys) : EnAll H (zs ++ ys) := fun z hz => (List.mem_append.mp hz).elim (h z) (k z)
theorem EnAll.one {H : Hp} {t : Addr} {e : En} (h : H t = some (.tup (eV e))) : EnAll H [(t, e)] := fun z hz => by
  rw [List.mem_singleton.mp hz]
  exact h
theorem EnAll.filter {H : Hp} {zs : List (Addr × En)} (h : EnAll H zs) (c : Addr × En → Bool) : EnAll H (zs.filter c) := fun z hz => h z (List.mem_filter.mp hz).1
theorem EnAll.drop {H : Hp} {zs : List (Addr × En)} (h : EnAll H zs) (n : Nat) : EnAll H (zs.drop n) := fun z hz => h z (List.mem_of_mem_drop hz)
theorem EnAll.dp {K : PySem.W.Frag} {H : Hp} : ∀ {zs : List (Addr × En)}, EnAll H zs → DpAll K H (zs.map aV) ((zs.map Prod.snd).map eD)
  | [], _ => .nil
  | z :: zs, h => .cons (.tup (SqT.of (h z (List.mem_cons_self ..))) (.cons (.int _) (.cons (.int _) (.cons (.int _) (.cons (.bl _) .nil))))) (EnAll.dp fun y hy => h y (List.mem_cons_of_mem _ hy))
theorem shE (e : En) : Sh 1 (eD e) := sh_tup fun d hd => by
  simp only [List.mem_cons, List.not_mem_nil, or_false] at hd
  rcases hd with rfl | rfl | rfl | rfl
  · exact sh_int _
  · exact sh_int _
  · exact sh_int _
  · exact sh_bool _
theorem shEs (es : List En) : Sh 2 (.list (es.map eD)) := sh_lst fun d hd => by
  obtain ⟨e, _, rfl⟩ := List.mem_map.mp hd
  exact shE e
theorem map_get {α β : Type} {f : α → β} {l : List α} {i : Nat} {y : β} (h : (l.map f)[i]? = some y) : ∃ x, l[i]? = some x ∧ y = f x := by
  rw [List.getElem?_map] at h
  cases e : l[i]? with
  | none =>
    rw [e] at h
    cases h
  | some x =>
    rw [e] at h
    exact ⟨x, rfl, (Option.some.inj h).symm⟩
theorem mem_of_get {α : Type} {l : List α} {i : Nat} {x : α} (h : l[i]? = some x) : x ∈ l := by
  obtain ⟨hi, e⟩ := List.getElem?_eq_some_iff.mp h
  exact e ▸ List.getElem_mem hi

/-! ### pairs -/
def pD (q : Int × Int) : PyData := .tuple [.int q.1, .int q.2]
theorem eqv_pD (q r : Int × Int) : PyData.eqv (pD q) (pD r) = decide (q = r) := by
  obtain ⟨a, b⟩ := q
  obtain ⟨c, d⟩ := r
  simp only [pD, PyData.eqv, PyData.eqvAll, Bool.and_true, Prod.mk.injEq]
  by_cases h1 : a = c
  · by_cases h2 : b = d
    · simp [h1, h2]
    · simp [h1, h2]
  · simp [h1]
theorem shP (q : Int × Int) : Sh 1 (pD q) := sh_tup fun d hd => by
  simp only [List.mem_cons, List.not_mem_nil, or_false] at hd
  rcases hd with rfl | rfl
  · exact sh_int _
  · exact sh_int _
theorem shPs (ps : List (Int × Int)) : Sh 2 (.list (ps.map pD)) := sh_lst fun d hd => by
  obtain ⟨e, _, rfl⟩ := List.mem_map.mp hd
  exact shP e
def keep (ps : List (Int × Int)) (e : En) : Bool := !ps.any fun q => decide (q = (e.s, e.p))
theorem any_pD (ps : List (Int × Int)) (e : En) : (!(ps.map pD).any fun d => PyData.eqv d (pD (e.s, e.p))) = keep ps e := by
  unfold keep
  rw [List.any_map]
  congr 2
  funext q
  exact eqv_pD q (e.s, e.p)

theorem filter_snd (c : En → Bool) : ∀ zs : List (Addr × En), (zs.filter fun z => c z.2).map Prod.snd = (zs.map Prod.snd).filter c
  | [] => rfl
  | z :: zs => by
    have ih := filter_snd c zs
    rw [List.filter_cons, List.map_cons, List.filter_cons]
    by_cases h : c z.2 = true
    · rw [if_pos h, if_pos h, List.map_cons, ih]
    · rw [if_neg h, if_neg h, ih]

/-! ### x not in y, y a list or a tuple of data -/
def rNiD (K : PySem.W.Frag) : R2 := fun x y H Q => ∃ d ds, Dp K H x d ∧ (Dp K H y (.list ds) ∨ Dp K H y (.tuple ds)) ∧ SeqAt.shaped d = true ∧ SeqAt.shaped (.list ds) = true ∧ Q (.bl (!ds.any fun z => PyData.eqv z d)) H
theorem op_niD {X : Cx} (hu : X.A.units + 65 < cLine) : OpR X (compareOp .NotIn) (rNiD X.K) := by
  intro pins s σ H x y v u Q I rx ry h
  obtain ⟨d, ds, hd, he, sd, se, q⟩ := h
  obtain ⟨as, r1⟩ := Dp.reads I d x v hd rx
  have c1 := SeqAt.canLay_of_shaped se
  have c2 := SeqAt.canLay_of_shaped sd
  have d2 := SeqAt.depth_of_shaped sd
  have room : X.A.units + 1 + min (PyData.depthAll ds) d.depth < cLine := by
    have := Nat.min_le_right (PyData.depthAll ds) d.depth
    omega
  rcases he with he | he
  · obtain ⟨bs, r2⟩ := Dp.reads I (.list ds) y u he ry
    exact SeqAt.notIn_list_reads r2 r1 (by simpa only [PyData.canLay0] using c1) c2 room ⟨.bl _, H, I, rfl, q⟩
  · obtain ⟨bs, r2⟩ := Dp.reads I (.tuple ds) y u he ry
    exact SeqAt.notIn_tuple_reads r2 r1 (by simpa only [PyData.canLay0] using c1) c2 room ⟨.bl _, H, I, rfl, q⟩

/-! ### table words of the law, the buffer's mirror -/
inductive Wd where
  | frame (f : Int) (w : Bool)
  | non
  | swap (n : Int)
  | file
  | held
def Wd.leads : Wd → Bool
  | .frame _ _ => true
  | _ => false
def wD : Wd → PyData
  | .frame f w => .tuple [.str "frame", .int f, .bool w]
  | .non => .none
  | .swap n => .tuple [.str "swap", .int n]
  | .file => .tuple [.str "file", .int 1, .int 2]
  | .held => .tuple [.str "held"]
def last2 (es : List En) : List En := if 2 < es.length then es.drop 1 else es
def putM (s p : Int) (x : Wd) (es : List En) : List En := match x with
  | .frame f w => last2 (es.filter (keep [(s, p)]) ++ [⟨s, p, f, w⟩])
  | _ => es.filter (keep [(s, p)])
theorem cut_last2 (xs : List V) : cutV xs (some (-2)) none = xs.drop (xs.length - 2) := by
  unfold cutV
  have e1 : HT.sIx xs.length 0 (some (-2)) = xs.length - 2 := by
    show (if (-2 : Int) < 0 then ((-2 : Int) + (xs.length : Int)).toNat else min (-2 : Int).toNat xs.length) = _
    rw [if_pos (by decide)]
    omega
  rw [e1, HT.sIx_none]
  refine List.take_of_length_le ?_
  rw [List.length_drop]
  omega
theorem last2_drop (es : List En) (e : En) {n : Nat} (hn : n = es.length + 1 ∧ es.length ≤ 2) : (es ++ [e]).drop (n - 2) = last2 (es ++ [e]) := by
  unfold last2
  rw [List.length_append, List.length_singleton]
  by_cases h : 2 < es.length + 1
  · rw [if_pos h, show n - 2 = 1 by omega]
  · rw [if_neg h, show n - 2 = 0 by omega]
    rfl
def midM (s p : Int) (x : Wd) (es : List En) : List En := match x with
  | .frame f w => es.filter (keep [(s, p)]) ++ [⟨s, p, f, w⟩]
  | _ => es.filter (keep [(s, p)])
theorem last2_mid (s p : Int) (x : Wd) {es : List En} (h : es.length ≤ 2) : last2 (midM s p x es) = putM s p x es := by
  have l : (es.filter (keep [(s, p)])).length ≤ 2 := Nat.le_trans (List.length_filter_le _ _) h
  cases x with
  | frame f w => rfl
  | _ => exact if_neg (by show ¬ 2 < (es.filter (keep [(s, p)])).length; omega)
theorem putM_len (s p : Int) (x : Wd) {es : List En} (h : es.length ≤ 2) : (putM s p x es).length ≤ 2 := by
  have l : (es.filter (keep [(s, p)])).length ≤ 2 := Nat.le_trans (List.length_filter_le _ _) h
  cases x with
  | frame f w =>
    show (last2 _).length ≤ 2
    unfold last2
    split
    · rw [List.length_drop, List.length_append, List.length_singleton]
      omega
    · omega
  | _ => exact l
theorem midM_len (s p : Int) (x : Wd) {es : List En} (h : es.length ≤ 2) : (midM s p x es).length ≤ 3 := by
  have l : (es.filter (keep [(s, p)])).length ≤ 2 := Nat.le_trans (List.length_filter_le _ _) h
  cases x with
  | frame f w =>
    show (_ ++ [_]).length ≤ 3
    rw [List.length_append, List.length_singleton]
    omega
  | _ => exact Nat.le_trans l (by decide)
theorem keep_one (s p : Int) (e : En) : keep [(s, p)] e = !decide ((e.s, e.p) = (s, p)) := by
  unfold keep
  simp only [List.any_cons, List.any_nil, Bool.or_false]
  by_cases h : (s, p) = (e.s, e.p)
  · rw [decide_eq_true h, decide_eq_true h.symm]
  · rw [decide_eq_false h, decide_eq_false (fun z => h z.symm)]
def fits (s p : Int) (wr : Bool) (e : En) : Bool := decide ((e.s, e.p) = (s, p)) && (e.w || !wr)
def frameM (s p : Int) (wr : Bool) (es : List En) : Option Int := (es.find? (fits s p wr)).map (·.f)
def optV : Option Int → V
  | none => .non
  | some i => .int i
theorem find_at {es : List En} {c : En → Bool} : ∀ {i : Nat} {e : En}, es[i]? = some e → (∀ y ∈ es.take i, c y = false) → c e = true → es.find? c = some e := by
  induction es with
  | nil => intro i e h _ _; simp at h
  | cons x es ih =>
    intro i e h hn hc
    cases i with
    | zero =>
      simp at h
      subst h
      simp [hc]
    | succ i =>
      have hx : c x = false := hn x (by simp)
      rw [List.find?_cons, hx]
      exact ih (i := i) (by simpa using h) (fun y hy => hn y (by simp [hy])) hc
theorem find_no {es : List En} {c : En → Bool} (h : ∀ y ∈ es, c y = false) : es.find? c = none := List.find?_eq_none.mpr fun y hy => by simp [h y hy]
end Nk
/-! Tests of data (whole numbers, tuples, words), the sizes' fields, promises that several laws share. -/
namespace Wk
open PySem PySem.Spec PyProof.Rows L2 Dk Ek Nk
/-! ### tests of data -/
def wholeD : PyData → Bool
  | .int _ => true
  | _ => false
def belowD (d : PyData) (n : Int) : Bool := match d with
  | .int i => decide (0 ≤ i) && decide (i < n)
  | _ => false
def tupD (d : PyData) (n : Int) : Bool := match d with
  | .tuple ds => decide ((ds.length : Int) = n)
  | _ => false
theorem tup2 {d : PyData} (h : tupD d 2 = true) : ∃ x y, d = .tuple [x, y] := by
  cases d with
  | tuple ds =>
    match ds, h with
    | [x, y], _ => exact ⟨x, y, rfl⟩
    | [], h => simp [tupD] at h
    | [x], h => simp [tupD] at h
    | x :: y :: z :: r, h =>
      simp only [tupD, List.length_cons, decide_eq_true_eq] at h
      omega
  | _ => simp [tupD] at h
theorem tup3 {d : PyData} (h : tupD d 3 = true) : ∃ x y z, d = .tuple [x, y, z] := by
  cases d with
  | tuple ds =>
    match ds, h with
    | [x, y, z], _ => exact ⟨x, y, z, rfl⟩
    | [], h => simp [tupD] at h
    | [x], h => simp [tupD] at h
    | [x, y], h => simp [tupD] at h
    | x :: y :: z :: u :: r, h =>
      simp only [tupD, List.length_cons, decide_eq_true_eq] at h
      omega
  | _ => simp [tupD] at h
/-- the value is the text z -/
def isS (d : PyData) (z : Str) : Bool := match d with
  | .str y => y == z
  | _ => false
theorem eqv_str (d : PyData) (z : Str) : PyData.eqv d (.str z) = isS d z := by
  cases d <;> simp [PyData.eqv, isS]
theorem isS_iff {d : PyData} {z : Str} : isS d z = true ↔ d = .str z := by
  cases d <;> simp [isS]
theorem Sh.elem {n : Nat} {ds : List PyData} {d : PyData} (h : Sh n (.tuple ds)) (m : d ∈ ds) : Sh n d := by
  have l := h.lay
  have e := h.deep
  simp only [PyData.canLay0] at l
  simp only [PyData.depth] at e
  have key : ∀ es : List PyData, d ∈ es → PyData.canLayAll0 es = true → d.canLay0 = true ∧ d.depth ≤ PyData.depthAll es := by
    intro es
    induction es with
    | nil => intro m _; exact absurd m List.not_mem_nil
    | cons x es ih =>
      intro m k
      simp only [PyData.canLayAll0, Bool.and_eq_true] at k
      simp only [PyData.depthAll]
      rcases List.mem_cons.mp m with rfl | m
      · exact ⟨k.1, Nat.le_max_left _ _⟩
      · obtain ⟨h1, h2⟩ := ih m k.2
        exact ⟨h1, Nat.le_trans h2 (Nat.le_max_right _ _)⟩
  obtain ⟨h1, h2⟩ := key ds m l
  exact ⟨h1, by omega⟩
theorem sh_str (s : Str) (h : PyData.canLay0 (.str s) = true) : Sh 0 (.str s) := ⟨h, by simp only [PyData.depth]; omega⟩
/-! ### promises of the small tests -/
def spNop (K : PySem.W.Frag) : Sp := fun vs H Q _ => ∃ (a C : Addr), vs = [.ref a] ∧ OexC K C ∧ H a = some (exo a C none) ∧ Q .non H
def spWhole (K : PySem.W.Frag) : Sp := fun vs H Q _ => ∃ (v : V) (d : PyData), vs = [v] ∧ Dp K H v d ∧ Q (.bl (wholeD d)) H
def spBelow (K : PySem.W.Frag) : Sp := fun vs H Q _ => ∃ (v : V) (d : PyData) (n : Int), vs = [v, .int n] ∧ Dp K H v d ∧ Q (.bl (belowD d n)) H
def spTupOf (K : PySem.W.Frag) : Sp := fun vs H Q _ => ∃ (v : V) (d : PyData) (n : Int), vs = [v, .int n] ∧ Dp K H v d ∧ Q (.bl (tupD d n)) H
def spBetween : Sp := fun vs H Q _ => ∃ v l m : Int, vs = [.int v, .int l, .int m] ∧ Q (.bl (decide (l ≤ v) && decide (v ≤ m))) H
/-! ### words that lead to frames -/
def leadsD : PyData → Bool
  | .tuple [x, _, _] => isS x "frame"
  | _ => false
theorem leads_no {d : PyData} (h : tupD d 3 = false) : leadsD d = false := by
  unfold leadsD
  split
  · simp [tupD] at h
  · rfl
theorem leads_yes {d : PyData} (h : leadsD d = true) : ∃ f w, d = .tuple [.str "frame", f, w] := by
  unfold leadsD at h
  split at h
  · rename_i x f w
    rw [isS_iff] at h
    exact ⟨f, w, by rw [h]⟩
  · cases h
def spLeads (K : PySem.W.Frag) : Sp := fun vs H Q _ => ∃ (y : V) (d : PyData), vs = [y] ∧ Dp K H y d ∧ Sh 60 d ∧ Q (.bl (leadsD d)) H
/-! ### the sizes -/
def szF (p f b : Int) : List (Str × V) := [("processors", .int p), ("frames", .int f), ("blocks", .int b), ("_acknowledges", .int 1), ("_words", .int (1 + p)), ("_frame_cells", .int (1 + p + 4 * 8)),
  ("_swap_blocks", .int (1 + p + 4 * 8 + 2 * f)), ("_file_blocks", .int (1 + p + 4 * 8 + 2 * f + b))]
def okSz (p f b : Int) : Bool := decide (1 ≤ p) && decide (p ≤ 3) && (decide (2 ≤ f) && decide (f ≤ 12)) && (decide (0 ≤ b) && decide (b ≤ 12))
def spSizesInit (C N : Addr) : Sp := fun vs H Q E => ∃ (z dx : Addr) (p f b : Int), vs = [.ref z, .int p, .int f, .int b] ∧ H z = some (.ins C dx []) ∧
  (okSz p f b = true → ∀ H', SameBut z H H' → H' z = some (.ins C dx (szF p f b)) → Q .non H') ∧ (okSz p f b = false → ∀ H', Same H H' → E (.ref N) none H')
/-! ### table words -/
def isStr : PyData → Bool
  | .str _ => true
  | _ => false
theorem kit_str {K : PySem.W.Frag} (d : PyData) : PySem.W.kitOne K (.type (tyN d)) (.type "str") = some (isStr d) := by
  refine (kit_ty (kits_at (by decide +kernel : kits "str" = [some false, some false, some false, some true, some false, some false, some false]) d)).trans ?_
  cases d <;> rfl
def frB (F : Int) : List PyData → Bool
  | [x, y] => belowD x F && isBool y
  | _ => false
def swB (B : Int) : List PyData → Bool
  | [x] => belowD x B
  | _ => false
def flB : List PyData → Bool
  | [x, y] => belowD x 2 && belowD y 4
  | _ => false
def wordB (F B : Int) (x : PyData) (r : List PyData) : Bool :=
  if isS x "frame" = true then frB F r else if isS x "swap" = true then swB B r else if isS x "file" = true then flB r else isS x "held" && r.isEmpty
def wordM (F B : Int) : PyData → Bool
  | .none => true
  | .tuple (x :: r) => wordB F B x r
  | _ => false
theorem frB_no {F : Int} {r : List PyData} (h : r.length ≠ 2) : frB F r = false := by
  unfold frB
  split
  · exact absurd rfl h
  · rfl
theorem swB_no {F : Int} {r : List PyData} (h : r.length ≠ 1) : swB F r = false := by
  unfold swB
  split
  · exact absurd rfl h
  · rfl
theorem flB_no {r : List PyData} (h : r.length ≠ 2) : flB r = false := by
  unfold flB
  split
  · exact absurd rfl h
  · rfl
theorem len2 {r : List PyData} (h : r.length = 2) : ∃ x y, r = [x, y] := by
  match r, h with
  | [x, y], _ => exact ⟨x, y, rfl⟩
theorem len1 {r : List PyData} (h : r.length = 1) : ∃ x, r = [x] := by
  match r, h with
  | [x], _ => exact ⟨x, rfl⟩
theorem isS_ne {d : PyData} {y z : Str} (h : isS d y = true) (n : (y == z) = false) : isS d z = false := by
  rw [isS_iff] at h
  subst h
  exact n
/-- the words whose numbers exist -/
inductive W2 where
  | frame (f : Int) (w : Bool)
  | non
  | swap (n : Int)
  | file (f p : Int)
  | held
def w2D : W2 → PyData
  | .frame f w => .tuple [.str "frame", .int f, .bool w]
  | .non => .none
  | .swap n => .tuple [.str "swap", .int n]
  | .file f p => .tuple [.str "file", .int f, .int p]
  | .held => .tuple [.str "held"]
theorem below_int {d : PyData} {n : Int} (h : belowD d n = true) : ∃ i, d = .int i := by
  cases d with
  | int i => exact ⟨i, rfl⟩
  | _ => simp [belowD] at h
theorem bool_of {d : PyData} (h : isBool d = true) : ∃ b, d = .bool b := by
  cases d with
  | bool b => exact ⟨b, rfl⟩
  | _ => simp [isBool] at h
theorem w2_of {F B : Int} {d : PyData} (h : wordM F B d = true) : ∃ x, d = w2D x := by
  unfold wordM at h
  split at h
  · exact ⟨.non, rfl⟩
  · rename_i x r
    unfold wordB at h
    split at h
    · rename_i e
      rw [isS_iff] at e
      unfold frB at h
      split at h
      · rename_i u v
        rw [Bool.and_eq_true] at h
        obtain ⟨i, rfl⟩ := below_int h.1
        obtain ⟨b, rfl⟩ := bool_of h.2
        exact ⟨.frame i b, by rw [e]; rfl⟩
      · cases h
    · split at h
      · rename_i e
        rw [isS_iff] at e
        unfold swB at h
        split at h
        · obtain ⟨i, rfl⟩ := below_int h
          exact ⟨.swap i, by rw [e]; rfl⟩
        · cases h
      · split at h
        · rename_i e
          rw [isS_iff] at e
          unfold flB at h
          split at h
          · rw [Bool.and_eq_true] at h
            obtain ⟨i, rfl⟩ := below_int h.1
            obtain ⟨j, rfl⟩ := below_int h.2
            exact ⟨.file i j, by rw [e]; rfl⟩
          · cases h
        · rw [Bool.and_eq_true, isS_iff] at h
          obtain ⟨e, e2⟩ := h
          exact ⟨.held, by rw [e, List.isEmpty_iff.mp e2]; rfl⟩
  · cases h
def W2.frame? : W2 → Option Int
  | .frame f _ => some f
  | _ => none
def W2.block? : W2 → Option Int
  | .swap n => some n
  | _ => none
def W2.wr : W2 → Bool
  | .frame _ w => w
  | _ => false
def W2.less : W2 → W2
  | .frame f _ => .frame f false
  | x => x
def W2.leads : W2 → Bool
  | .frame _ _ => true
  | _ => false
theorem leads_w2 (x : W2) : leadsD (w2D x) = x.leads := by
  cases x with
  | frame f w => rfl
  | file f p => exact (by decide : isS (.str "file") "frame" = false)
  | _ => rfl
theorem sh_c {n : Nat} {d : PyData} {ds : List PyData} (h : Sh n d) (k : ∀ x ∈ ds, Sh n x) : ∀ x ∈ d :: ds, Sh n x := fun x hx => (List.mem_cons.mp hx).elim (fun e => e ▸ h) (k x)
theorem sh_n {n : Nat} : ∀ x ∈ ([] : List PyData), Sh n x := fun _ h => absurd h List.not_mem_nil
theorem sh_w2 (x : W2) : Sh 1 (w2D x) := by
  have sF : Sh 0 (.str "frame") := sh_str _ (by decide +kernel)
  have sS : Sh 0 (.str "swap") := sh_str _ (by decide +kernel)
  have sL : Sh 0 (.str "file") := sh_str _ (by decide +kernel)
  have sH : Sh 0 (.str "held") := sh_str _ (by decide +kernel)
  cases x with
  | non => exact sh_none.up (by decide)
  | frame f w => exact sh_tup (sh_c sF (sh_c (sh_int _) (sh_c (sh_bool _) sh_n)))
  | swap n => exact sh_tup (sh_c sS (sh_c (sh_int _) sh_n))
  | file f p => exact sh_tup (sh_c sL (sh_c (sh_int _) (sh_c (sh_int _) sh_n)))
  | held => exact sh_tup (sh_c sH sh_n)
def spIsWord (K : PySem.W.Frag) (C : Addr) : Sp := fun vs H Q _ => ∃ (y : V) (d : PyData) (z dx : Addr) (p f b : Int), vs = [y, .ref z] ∧ Dp K H y d ∧ Sh 60 d ∧ H z = some (.ins C dx (szF p f b)) ∧ ∀ H', Same H H' → Q (.bl (wordM f b d)) H'
def spFrameOf (K : PySem.W.Frag) : Sp := fun vs H Q _ => ∃ (y : V) (x : W2), vs = [y] ∧ Dp K H y (w2D x) ∧ Q (optV x.frame?) H
def spBlockOf (K : PySem.W.Frag) : Sp := fun vs H Q _ => ∃ (y : V) (x : W2), vs = [y] ∧ Dp K H y (w2D x) ∧ Q (optV x.block?) H
def spIsWr (K : PySem.W.Frag) : Sp := fun vs H Q _ => ∃ (y : V) (x : W2), vs = [y] ∧ Dp K H y (w2D x) ∧ Q (.bl x.wr) H
def spReadOnly (K : PySem.W.Frag) : Sp := fun vs H Q _ => ∃ (y : V) (x : W2), vs = [y] ∧ Dp K H y (w2D x) ∧ ∀ y' H', Same H H' → Dp K H' y' (w2D x.less) → Q y' H'
end Wk
/-! Loops and comprehensions over enumerate(list), zip of two tuples. -/
namespace Lk
open PySem PySem.Spec PyProof.Rows L2 RZ
theorem for_enum {K : PySem.W.Frag} {a : Addr} {xs : List V} {g : TG} {tb : TS} {D : Ends} {σ : L2.St} {H : Hp} (Pv : Nat → L2.St → Hp → Prop) (h0 : Pv 0 σ H) (hq : ∀ i σ H, Pv i σ H → SqL K H a xs)
    (hs : ∀ (i : Nat) (x : V) (T : Addr) (σ : L2.St) (H : Hp), xs[i]? = some x → Pv i σ H → H T = none → g (.ref T) σ (upd H T (.tup [.int (i : Nat), x])) fun σ2 H2 => tb { D with nx := Pv (i + 1), ct := Pv (i + 1), bk := D.nx } σ2 H2) (hd : ∀ σ H, Pv xs.length σ H → D.nx σ H) :
    ∃ W : Nat → Nat → L2.St → Hp → Prop, (∃ m, W 0 m σ H) ∧ ∀ i m σ H, W i m σ H →
      ((Ite K a).stop i H ∧ D.nx σ H) ∨ ((Ite K a).go i H ∧ ∃ N : L2.St → Hp → Prop, (∀ σ' H', N σ' H' → ∃ m', m' < m ∧ W (i + 1) m' σ' H') ∧ ∀ v H', (Ite K a).yld i H v H' → g v σ H' fun σ2 H2 => tb { D with nx := N, ct := N, bk := D.nx } σ2 H2) := by
  refine ⟨fun i m σ H => m = xs.length - i ∧ i ≤ xs.length ∧ Pv i σ H, ⟨xs.length, rfl, Nat.zero_le _, h0⟩, ?_⟩
  rintro i m σ H ⟨rfl, hi, p⟩
  have qx := hq i σ H p
  by_cases hlt : i < xs.length
  · have hx : xs[i]? = some xs[i] := List.getElem?_eq_getElem hlt
    refine .inr ⟨⟨xs, _, qx, hx⟩, Pv (i + 1), fun σ' H' p' => ⟨xs.length - (i + 1), by omega, rfl, hlt, p'⟩, fun v H' y => ?_⟩
    obtain ⟨T, x', rfl, hT, rfl, f1⟩ := y
    exact hs i x' T σ H (f1 xs qx) p hT
  · have e : i = xs.length := by omega
    subst e
    exact .inl ⟨⟨xs, qx, Nat.le_refl _⟩, hd σ H p⟩
theorem lc_enum {K : PySem.W.Frag} {a : Addr} {xs : List V} {g : TG} {tt : TT} {te : TE} {vs : List Nat} {σ : L2.St} {H1 : Hp} {D : Addr} {Qd : Hp → Prop} (Pv : Nat → Hp → Prop) (h0 : Pv 0 (upd H1 D (.lst []))) (hl : ∀ i H, i ≤ xs.length → Pv i H → SqL K H a xs)
    (hs : ∀ (i : Nat) (x : V) (T : Addr) (H : Hp), xs[i]? = some x → Pv i H → H T = none → g (.ref T) (wipe σ vs) (upd H T (.tup [.int (i : Nat), x])) fun σ2 H2 => wipe σ2 vs = wipe σ vs ∧ tt σ2 H2 fun b H3 =>
      if b = true then te σ2 H3 fun y H4 => ∃ acc, H4 D = some (.lst acc) ∧ acc.length < sizeLine ∧ Pv (i + 1) (upd H4 D (.lst (acc ++ [y]))) else Pv (i + 1) H3) (hd : ∀ H, Pv xs.length H → Qd H) :
    ∃ W : Nat → Nat → Hp → Prop, (∃ m, W 0 m (upd H1 D (.lst []))) ∧ ∀ i m H, W i m H →
      ((Ite K a).stop i H ∧ Qd H) ∨ ((Ite K a).go i H ∧ ∃ Nx : Hp → Prop, (∀ H', Nx H' → ∃ m', m' < m ∧ W (i + 1) m' H') ∧ ∀ x H', (Ite K a).yld i H x H' → g x (wipe σ vs) H' fun σ2 H2 => wipe σ2 vs = wipe σ vs ∧ tt σ2 H2 fun b H3 =>
        if b = true then te σ2 H3 fun y H4 => ∃ acc, H4 D = some (.lst acc) ∧ acc.length < sizeLine ∧ Nx (upd H4 D (.lst (acc ++ [y]))) else Nx H3) := by
  refine ⟨fun i m H => m = xs.length - i ∧ i ≤ xs.length ∧ Pv i H, ⟨xs.length, by simp, Nat.zero_le _, h0⟩, ?_⟩
  rintro i m H ⟨rfl, hi, p⟩
  have q := hl i H hi p
  by_cases hlt : i < xs.length
  · refine .inr ⟨⟨xs, xs[i], q, by simp [hlt]⟩, Pv (i + 1), fun H' p' => ⟨xs.length - (i + 1), by omega, rfl, hlt, p'⟩, fun x H' y => ?_⟩
    obtain ⟨T, x', rfl, hT, rfl, f1⟩ := y
    exact hs i x' T _ (f1 xs q) p hT
  · have e : i = xs.length := by omega
    subst e
    exact .inl ⟨⟨xs, q, Nat.le_refl _⟩, hd H p⟩
theorem lc_zipT {K : PySem.W.Frag} {a b : Addr} {xs ys : List V} {g : TG} {tt : TT} {te : TE} {vs : List Nat} {σ : L2.St} {H1 : Hp} {D : Addr} {Qd : Hp → Prop} (he : xs.length = ys.length) (Pv : Nat → Hp → Prop) (h0 : Pv 0 (upd H1 D (.lst []))) (hl : ∀ i H, i ≤ xs.length → Pv i H → SqT K H a xs ∧ SqT K H b ys)
    (hs : ∀ (i : Nat) (x y : V) (T : Addr) (H : Hp), xs[i]? = some x → ys[i]? = some y → Pv i H → H T = none → g (.ref T) (wipe σ vs) (upd H T (.tup [x, y])) fun σ2 H2 => wipe σ2 vs = wipe σ vs ∧ tt σ2 H2 fun b H3 =>
      if b = true then te σ2 H3 fun y H4 => ∃ acc, H4 D = some (.lst acc) ∧ acc.length < sizeLine ∧ Pv (i + 1) (upd H4 D (.lst (acc ++ [y]))) else Pv (i + 1) H3) (hd : ∀ H, Pv xs.length H → Qd H) :
    ∃ W : Nat → Nat → Hp → Prop, (∃ m, W 0 m (upd H1 D (.lst []))) ∧ ∀ i m H, W i m H →
      ((ItzT K a b).stop i H ∧ Qd H) ∨ ((ItzT K a b).go i H ∧ ∃ Nx : Hp → Prop, (∀ H', Nx H' → ∃ m', m' < m ∧ W (i + 1) m' H') ∧ ∀ x H', (ItzT K a b).yld i H x H' → g x (wipe σ vs) H' fun σ2 H2 => wipe σ2 vs = wipe σ vs ∧ tt σ2 H2 fun b H3 =>
        if b = true then te σ2 H3 fun y H4 => ∃ acc, H4 D = some (.lst acc) ∧ acc.length < sizeLine ∧ Nx (upd H4 D (.lst (acc ++ [y]))) else Nx H3) := by
  refine ⟨fun i m H => m = xs.length - i ∧ i ≤ xs.length ∧ Pv i H, ⟨xs.length, by simp, Nat.zero_le _, h0⟩, ?_⟩
  rintro i m H ⟨rfl, hi, p⟩
  obtain ⟨qx, qy⟩ := hl i H hi p
  by_cases hlt : i < xs.length
  · have hlt2 : i < ys.length := by omega
    refine .inr ⟨⟨xs, ys, xs[i], ys[i], qx, qy, by simp [hlt], by simp [hlt2]⟩, Pv (i + 1), fun H' p' => ⟨xs.length - (i + 1), by omega, rfl, hlt, p'⟩, fun x H' y => ?_⟩
    obtain ⟨T, x', y', rfl, hT, rfl, f1, f2⟩ := y
    exact hs i x' y' T _ (f1 xs qx) (f2 ys qy) p hT
  · have e : i = xs.length := by omega
    subst e
    exact .inl ⟨⟨xs, ys, qx, qy, Or.inl (Nat.le_refl _)⟩, hd H p⟩
theorem at_nat {xs : List V} {n : Nat} {x : V} (h : xs[n]? = some x) : atI xs (n : Int) = some x := at_of (j := n) rfl h
theorem ixN_nat {len n : Nat} (h : n < len) : ixN len (n : Int) = some n := by
  unfold ixN
  simp [seqIndex?]
  omega
end Lk
/-! Owners of frames and blocks: lists of tuples within a list; the held flags; list.remove over data. -/
namespace Fk
open PySem PySem.Spec PyProof.Rows L2 Dk Ek Nk Wk

/-! ### list.remove over data -/
def rRemD (K : PySem.W.Frag) : V → List V → Hp → VK → Prop := fun x xs H Q => ∃ (l : Addr) (vs : List V) (y : V) (d : PyData) (ds : List PyData) (j : Nat) (z : PyData), x = .ref l ∧ xs = [y] ∧ H l = some (.lst vs) ∧ DpAll K H vs ds ∧ Dp K H y d ∧
  SeqAt.shaped (.list ds) = true ∧ SeqAt.shaped d = true ∧ ds[j]? = some z ∧ PyData.eqv z d = true ∧ (∀ (m : Nat) (z' : PyData), m < j → ds[m]? = some z' → PyData.eqv z' d = false) ∧ Q .non (upd H l (.lst (vs.eraseIdx j)))
theorem vals_erase : ∀ {xs : List V} {us : List Value} (j : Nat), Vals xs us → Vals (xs.eraseIdx j) (us.eraseIdx j)
  | _, _, _, .nil => .nil
  | _, _, 0, .cons _ r => r
  | _, _, j + 1, .cons a r => .cons a (vals_erase j r)
section
variable {X : Cx}
theorem mt_removeD (hu : X.A.units + 65 < cLine) : MtM X "list.remove" (rRemD X.K) := by
  intro pins s σ H x xs v us Q I rx rxs h
  obtain ⟨l, vs, y, d, ds, j, z, rfl, rfl, hl, ha, hy, sl, sd, hz, hzj, hno, q⟩ := h
  cases rx
  cases rxs with
  | cons ry rt =>
    rename_i uy ut
    cases rt
    obtain ⟨bs, r1⟩ := Dp.reads I d y uy hy ry
    have hxs : PyData.canLayAll0 ds = true := SeqAt.canLay_of_shaped sl
    have d2 := SeqAt.depth_of_shaped sd
    have hroom : X.A.units + 1 + min (PyData.depthAll ds) d.depth < cLine := by
      have := Nat.min_le_right (PyData.depthAll ds) d.depth
      omega
    obtain ⟨z9, its, n, rv, hlen, ho⟩ := I.lstM hl
    obtain ⟨as, h4⟩ := Dp.readsAll I ds _ its ha rv
    have hn : its.length = ds.length := SeqAt.ReadsAll.length ds its as h4
    have hmap : its.map (SeqAt.readOf s.heap) = ds := SeqAt.readsAll_map ds its as hxs h4
    have hsl := sizeLine_eq
    obtain ⟨hjd, _⟩ := List.getElem?_eq_some_iff.mp hz
    have hjl : j < its.length := by omega
    have hj : j < its.toArray.size := by simpa using hjl
    have at_ : ∀ (m : Nat) (hm : m < its.toArray.size) (z' : PyData), ds[m]? = some z' → SeqAt.readOf s.heap its.toArray[m] = z' := by
      intro m hm z' hz'
      have hml : m < its.length := by simpa using hm
      rw [← hmap, List.getElem?_map, List.getElem?_eq_getElem hml] at hz'
      have e1 : SeqAt.readOf s.heap its[m] = z' := Option.some.inj (show some (SeqAt.readOf s.heap its[m]) = some z' from hz')
      simpa using e1
    refine call_meets PySem.F.slot_list_remove ⟨_, ho, rfl⟩ PySem.F.entry_list_remove (PySem.F.args_list_remove_2 _ _)
      (SeqAt.list_removeAt l its.toArray n none #[] uy (fun u => PyData.eqv (SeqAt.readOf s.heap u) d) j hj ?_ ?_ (by rw [List.size_toArray]; omega)) ⟨ho, SeqAt.items_eqAt (vs := its.toArray) (show ReadsAll s.heap its.toArray.toList ds as from h4) r1 hxs (SeqAt.canLay_of_shaped sd) hroom, ?_⟩
    · show PyData.eqv (SeqAt.readOf s.heap its.toArray[j]) d = true
      rw [at_ j hj z hz]
      exact hzj
    · intro m hm hmj
      have hmd : m < ds.length := by omega
      have hz' : ds[m]? = some ds[m] := List.getElem?_eq_getElem hmd
      show PyData.eqv (SeqAt.readOf s.heap its.toArray[m]) d = false
      rw [at_ m hm _ hz']
      exact hno m _ hmj hz'
    · refine ⟨.non, _, I.lset (its' := its.eraseIdx j) (t' := s.toks) hl ho ?_ (vals_erase j rv) ?_, rfl, q⟩
      · show its.toArray.eraseIdxIfInBounds j = (its.eraseIdx j).toArray
        rw [List.eraseIdxIfInBounds_toArray]
      · have := List.length_eraseIdx_le vs j
        omega
end

/-! ### owners -/
inductive Ow where
  | pr (s p : Int)
  | fl (f p : Int)
  deriving DecidableEq
def oV : Ow → List V
  | .pr s p => [.int s, .int p]
  | .fl f p => [.str "file", .int f, .int p]
def oD : Ow → PyData
  | .pr s p => .tuple [.int s, .int p]
  | .fl f p => .tuple [.str "file", .int f, .int p]
theorem shO (o : Ow) : Sh 1 (oD o) := by
  have sL : Sh 0 (.str "file") := sh_str _ (by decide +kernel)
  cases o with
  | pr s p => exact sh_tup (sh_c (sh_int _) (sh_c (sh_int _) sh_n))
  | fl f p => exact sh_tup (sh_c sL (sh_c (sh_int _) (sh_c (sh_int _) sh_n)))
theorem eqv_oD (a b : Ow) : PyData.eqv (oD a) (oD b) = decide (a = b) := by
  rw [Bool.eq_iff_iff]
  cases a <;> cases b <;> simp [oD, PyData.eqv, PyData.eqvAll]
def wV (z : Addr × Ow) : V := .ref z.1
def OAll (H : Hp) (c : List (Addr × Ow)) : Prop := ∀ z ∈ c, H z.1 = some (.tup (oV z.2))
theorem o_dp {K : PySem.W.Frag} {H : Hp} {t : Addr} {o : Ow} (h : H t = some (.tup (oV o))) : Dp K H (.ref t) (oD o) := by
  cases o with
  | pr s p => exact .tup (SqT.of h) (.cons (.int _) (.cons (.int _) .nil))
  | fl f p => exact .tup (SqT.of h) (.cons (.str _) (.cons (.int _) (.cons (.int _) .nil)))
theorem OAll.dp {K : PySem.W.Frag} {H : Hp} : ∀ {c : List (Addr × Ow)}, OAll H c → DpAll K H (c.map wV) ((c.map Prod.snd).map oD)
  | [], _ => .nil
  | z :: c, h => .cons (o_dp (h z (List.mem_cons_self ..))) (OAll.dp fun y hy => h y (List.mem_cons_of_mem _ hy))
theorem OAll.kt {H H' : Hp} {c : List (Addr × Ow)} (h : OAll H c) (e : KT H H') : OAll H' c := fun z hz => e _ _ (h z hz) True.intro
theorem shOs (os : List Ow) : Sh 2 (.list (os.map oD)) := sh_lst fun d hd => by
  obtain ⟨e, _, rfl⟩ := List.mem_map.mp hd
  exact shO e
theorem any_oD (os : List Ow) (o : Ow) : ((os.map oD).any fun z => PyData.eqv z (oD o)) = decide (o ∈ os) := by
  rw [List.any_map]
  induction os with
  | nil => rfl
  | cons a os ih =>
    simp only [List.any_cons, List.mem_cons, Function.comp] at ih ⊢
    rw [ih, eqv_oD]
    by_cases h : o = a
    · simp [h]
    · have h2 : ¬ a = o := fun z => h z.symm
      simp [h, h2]
theorem any_intD (ns : List Int) (n : Int) : ((ns.map PyData.int).any fun z => PyData.eqv z (.int n)) = decide (n ∈ ns) := by
  rw [List.any_map]
  induction ns with
  | nil => rfl
  | cons a ns ih =>
    simp only [List.any_cons, List.mem_cons, Function.comp] at ih ⊢
    rw [ih]
    by_cases h : n = a
    · simp [h, PyData.eqv]
    · have : ¬ a = n := fun z => h z.symm
      simp [h, this, PyData.eqv]
theorem shInts (ns : List Int) : Sh 1 (.list (ns.map PyData.int)) := sh_lst fun d hd => by
  obtain ⟨e, _, rfl⟩ := List.mem_map.mp hd
  exact sh_int e
theorem ints_dp {K : PySem.W.Frag} {H : Hp} {t : Addr} {ns : List Int} (h : SqL K H t (ns.map V.int)) : Dp K H (.ref t) (.list (ns.map PyData.int)) := .lst h (dpAll_ints ns)
theorem eqv_nilD (ds : List PyData) : PyData.eqv (.list ds) (.list []) = ds.isEmpty := by
  cases ds <;> simp [PyData.eqv, PyData.eqvAll]
theorem shNil : Sh 1 (.list []) := sh_lst sh_n

/-! ### what a call may change -/
def Keep (F : List Addr) (H H' : Hp) : Prop := ∀ a o, a ∉ F → H a = some o → H' a = some o
theorem Keep.same {F : List Addr} {H H' : Hp} (e : Same H H') : Keep F H H' := fun a o _ h => e a o h
theorem Keep.trans {F : List Addr} {H H1 H2 : Hp} (e : Keep F H H1) (f : Keep F H1 H2) : Keep F H H2 := fun a o n h => f a o n (e a o n h)
theorem Keep.put {F : List Addr} {H : Hp} {a : Addr} {o : HO} (h : a ∈ F) : Keep F H (upd H a o) := fun x u n k => (upd_ne (by rintro rfl; exact n h)).trans k
theorem Keep.up {F G : List Addr} {H H' : Hp} (e : Keep F H H') (s : ∀ a ∈ F, a ∈ G) : Keep G H H' := fun a o n h => e a o (fun z => n (s a z)) h

theorem nodup_at {α : Type} : ∀ {l : List α}, l.Nodup → ∀ {i j : Nat} (hi : i < l.length) (hj : j < l.length), l[i] = l[j] → i = j
  | [], _, i, j, hi, _, _ => absurd hi (Nat.not_lt_zero _)
  | x :: l, h, 0, 0, _, _, _ => rfl
  | x :: l, h, 0, j + 1, _, hj, e => by
    have := (List.nodup_cons.mp h).1
    simp only [List.getElem_cons_zero, List.getElem_cons_succ] at e
    exact absurd (e ▸ List.getElem_mem _) this
  | x :: l, h, i + 1, 0, hi, _, e => by
    have := (List.nodup_cons.mp h).1
    simp only [List.getElem_cons_zero, List.getElem_cons_succ] at e
    exact absurd (e ▸ List.getElem_mem _) this
  | x :: l, h, i + 1, j + 1, hi, hj, e => congrArg (· + 1) (nodup_at (List.nodup_cons.mp h).2 (Nat.lt_of_succ_lt_succ hi) (Nat.lt_of_succ_lt_succ hj) (by simpa only [List.getElem_cons_succ] using e))
/-! ### the owners of frames or blocks -/
/-- rows of owners: lists at the addresses as, what they hold is cs -/
structure Rows (H : Hp) (as : List Addr) (cs : List (List (Addr × Ow))) : Prop where
  len : as.length = cs.length
  row : ∀ (j : Nat) (p : Addr) (c : List (Addr × Ow)), as[j]? = some p → cs[j]? = some c → H p = some (.lst (c.map wV))
  tup : ∀ c ∈ cs, OAll H c
theorem Rows.same {H H' : Hp} {as : List Addr} {cs : List (List (Addr × Ow))} (h : Rows H as cs) (e : Same H H') : Rows H' as cs :=
  ⟨h.len, fun j p c h1 h2 => e _ _ (h.row j p c h1 h2), fun c hc z hz => e _ _ (h.tup c hc z hz)⟩
theorem Rows.keep {H H' : Hp} {as F : List Addr} {cs : List (List (Addr × Ow))} (h : Rows H as cs) (e : Keep F H H') (n : ∀ p ∈ as, p ∉ F) (k : KT H H') : Rows H' as cs :=
  ⟨h.len, fun j p c h1 h2 => e _ _ (n p (mem_of_get h1)) (h.row j p c h1 h2), fun c hc => (h.tup c hc).kt k⟩
/-- one row is written -/
theorem Rows.put {H : Hp} {as : List Addr} {cs : List (List (Addr × Ow))} {j : Nat} {p : Addr} {c : List (Addr × Ow)} (h : Rows H as cs) (nd : as.Nodup) (hp : as[j]? = some p) (ho : OAll H c) :
    Rows (upd H p (.lst (c.map wV))) as (cs.set j c) := by
  have hj : j < as.length := (List.getElem?_eq_some_iff.mp hp).1
  have hc0 : ∃ c0, cs[j]? = some c0 := ⟨cs[j]'(by rw [← h.len]; exact hj), List.getElem?_eq_getElem _⟩
  obtain ⟨c0, hc0⟩ := hc0
  have kt : KT H (upd H p (.lst (c.map wV))) := KT.lst (h.row j p c0 hp hc0)
  refine ⟨by rw [List.length_set]; exact h.len, fun i q e h1 h2 => ?_, fun e he => ?_⟩
  · by_cases ij : i = j
    · subst ij
      rw [h1] at hp
      cases hp
      rw [List.getElem?_set_self (by rw [← h.len]; exact hj)] at h2
      cases h2
      exact upd_same
    · rw [List.getElem?_set_ne (Ne.symm ij)] at h2
      have ne : q ≠ p := fun z => ij (by
        obtain ⟨hi, e1⟩ := List.getElem?_eq_some_iff.mp h1
        obtain ⟨_, e2⟩ := List.getElem?_eq_some_iff.mp hp
        exact nodup_at nd hi _ (by rw [e1, e2, z]))
      rw [upd_ne ne]
      exact h.row i q e h1 h2
  · rcases List.mem_or_eq_of_mem_set he with he | rfl
    · exact (h.tup e he).kt kt
    · exact ho.kt kt
structure OwnAt (C : Addr) (H : Hp) (o dx L M : Addr) (as : List Addr) (cs : List (List (Addr × Ow))) (hs : List Bool) : Prop where
  ins : H o = some (.ins C dx [("_owners", .ref L), ("_held", .ref M)])
  own : H L = some (.lst (as.map V.ref))
  rows : Rows H as cs
  held : H M = some (.lst (hs.map V.bl))
  lenH : hs.length = cs.length
  nd : (L :: M :: as).Nodup
  few : cs.length ≤ 100
  thin : ∀ c ∈ cs, c.length ≤ 1000
theorem OwnAt.same {C o dx L M : Addr} {H H' : Hp} {as : List Addr} {cs : List (List (Addr × Ow))} {hs : List Bool} (h : OwnAt C H o dx L M as cs hs) (e : Same H H') : OwnAt C H' o dx L M as cs hs :=
  ⟨e _ _ h.ins, e _ _ h.own, h.rows.same e, e _ _ h.held, h.lenH, h.nd, h.few, h.thin⟩
/-- what another call leaves -/
theorem OwnAt.keep {C o dx L M : Addr} {H H' : Hp} {as F : List Addr} {cs : List (List (Addr × Ow))} {hs : List Bool} (h : OwnAt C H o dx L M as cs hs) (e : Keep F H H') (n : ∀ p ∈ o :: L :: M :: as, p ∉ F) (k : KT H H') : OwnAt C H' o dx L M as cs hs :=
  ⟨e _ _ (n _ (by simp)) h.ins, e _ _ (n _ (by simp)) h.own, h.rows.keep e (fun p hp => n p (by simp [hp])) k, e _ _ (n _ (by simp)) h.held, h.lenH, h.nd, h.few, h.thin⟩
theorem OwnAt.row {C o dx L M : Addr} {H : Hp} {as : List Addr} {cs : List (List (Addr × Ow))} {hs : List Bool} (h : OwnAt C H o dx L M as cs hs) {j : Nat} (hj : j < cs.length) :
    ∃ p, as[j]? = some p ∧ (as.map V.ref)[j]? = some (.ref p) ∧ H p = some (.lst (cs[j].map wV)) ∧ OAll H cs[j] ∧ p ∈ as := by
  have hj2 : j < as.length := by rw [h.rows.len]; exact hj
  refine ⟨as[j], List.getElem?_eq_getElem hj2, by rw [List.getElem?_map, List.getElem?_eq_getElem hj2]; rfl, h.rows.row j _ _ (List.getElem?_eq_getElem hj2) (List.getElem?_eq_getElem hj), h.rows.tup _ (List.getElem_mem hj), List.getElem_mem hj2⟩
theorem OwnAt.flag {C o dx L M : Addr} {H : Hp} {as : List Addr} {cs : List (List (Addr × Ow))} {hs : List Bool} (h : OwnAt C H o dx L M as cs hs) {j : Nat} (hj : j < cs.length) : (hs.map V.bl)[j]? = some (.bl (hs[j]'(by rw [h.lenH]; exact hj))) := by
  rw [List.getElem?_map, List.getElem?_eq_getElem (by rw [h.lenH]; exact hj)]
  rfl
/-- a flag is written -/
theorem OwnAt.setH {C o dx L M : Addr} {H : Hp} {as : List Addr} {cs : List (List (Addr × Ow))} {hs : List Bool} (h : OwnAt C H o dx L M as cs hs) (j : Nat) (b : Bool) :
    OwnAt C (upd H M (.lst ((hs.set j b).map V.bl))) o dx L M as cs (hs.set j b) := by
  have nM := h.nd
  simp only [List.nodup_cons, List.mem_cons, not_or] at nM
  refine ⟨(upd_ne (ne_of h.ins h.held (fun z => nomatch z))).trans h.ins, (upd_ne nM.1.1).trans h.own, h.rows.keep (F := [M]) (Keep.put (by simp)) (fun p hp z => nM.2.1 (List.mem_singleton.mp z ▸ hp)) (KT.lst h.held), upd_same, by rw [List.length_set]; exact h.lenH, h.nd, h.few, h.thin⟩
/-- a row is written -/
theorem OwnAt.setR {C o dx L M : Addr} {H : Hp} {as : List Addr} {cs : List (List (Addr × Ow))} {hs : List Bool} (h : OwnAt C H o dx L M as cs hs) {j : Nat} {p : Addr} {c : List (Addr × Ow)} (hp : as[j]? = some p) (ho : OAll H c) (hl : c.length ≤ 1000) :
    OwnAt C (upd H p (.lst (c.map wV))) o dx L M as (cs.set j c) hs := by
  have nM := h.nd
  simp only [List.nodup_cons, List.mem_cons, not_or] at nM
  have pm := mem_of_get hp
  have hj : j < cs.length := by rw [← h.rows.len]; exact (List.getElem?_eq_some_iff.mp hp).1
  have hr := h.rows.row j p cs[j] hp (List.getElem?_eq_getElem hj)
  refine ⟨(upd_ne (ne_of h.ins hr (fun z => nomatch z))).trans h.ins, (upd_ne (fun z : L = p => nM.1.2 (z.symm ▸ pm))).trans h.own, h.rows.put nM.2.2 hp ho, (upd_ne (fun z : M = p => nM.2.1 (z.symm ▸ pm))).trans h.held, by rw [List.length_set]; exact h.lenH, h.nd, by rw [List.length_set]; exact h.few, fun e he => ?_⟩
  rcases List.mem_or_eq_of_mem_set he with he | rfl
  · exact h.thin e he
  · exact hl

/-! ### mirrors -/
def freeB (cs : List (List (Addr × Ow))) (hs : List Bool) (n : Nat) : Bool := match cs[n]?, hs[n]? with
  | some c, some b => c.isEmpty && !b
  | _, _ => false
def freeL (cs : List (List (Addr × Ow))) (hs : List Bool) : List Nat := (List.range cs.length).filter (freeB cs hs)
def heldL (hs : List Bool) : List Nat := (List.range hs.length).filter fun n => hs[n]?.getD false
def owns (o : Ow) (c : List (Addr × Ow)) : Bool := decide (o ∈ c.map Prod.snd)
def placeM (cs : List (List (Addr × Ow))) (o : Ow) : Option Nat := cs.findIdx? (owns o)
def natV : Option Nat → V
  | none => .non
  | some n => .int n
def nInt (ns : List Nat) : List V := ns.map fun n => V.int (n : Nat)
/-- the victim, from the place on -/
def vicM (cs : List (List (Addr × Ow))) (ps : List Int) (pl : Int) (many : Nat) : Option Nat :=
  ((List.range many).map fun d => ((pl + (d : Nat)) % (many : Int)).toNat).find? fun n => !((cs[n]?.getD []).isEmpty) && !decide ((n : Int) ∈ ps)
theorem freeB_at {cs : List (List (Addr × Ow))} {hs : List Bool} {n : Nat} (h1 : n < cs.length) (h2 : n < hs.length) : freeB cs hs n = (cs[n].isEmpty && !hs[n]) := by
  unfold freeB
  rw [List.getElem?_eq_getElem h1, List.getElem?_eq_getElem h2]

/-! ### promises -/
def inR (n : Int) (m : Nat) : Prop := 0 ≤ n ∧ n < (m : Int)
def spOwnInit (C : Addr) : Sp := fun vs H Q _ => ∃ (o dx : Addr) (many : Nat), vs = [.ref o, .int (many : Nat)] ∧ H o = some (.ins C dx []) ∧ many ≤ 100 ∧
  ∀ H' L M as, SameBut o H H' → H L = none → H M = none → (∀ p ∈ as, H p = none) → OwnAt C H' o dx L M as (List.replicate many []) (List.replicate many false) → Q .non H'
def spCheck (C N : Addr) : Sp := fun vs H Q E => ∃ (o dx L M : Addr) (as : List Addr) (cs : List (List (Addr × Ow))) (hs : List Bool) (n : Int), vs = [.ref o, .int n] ∧ OwnAt C H o dx L M as cs hs ∧
  (inR n cs.length → Q .non H) ∧ (¬ inR n cs.length → ∀ H', Same H H' → E (.ref N) none H')
def spIsFree (C : Addr) : Sp := fun vs H Q _ => ∃ (o dx L M : Addr) (as : List Addr) (cs : List (List (Addr × Ow))) (hs : List Bool) (n : Nat), vs = [.ref o, .int (n : Nat)] ∧ OwnAt C H o dx L M as cs hs ∧ n < cs.length ∧ Q (.bl (freeB cs hs n)) H
def spFree (C : Addr) : Sp := fun vs H Q _ => ∃ (o dx L M : Addr) (as : List Addr) (cs : List (List (Addr × Ow))) (hs : List Bool), vs = [.ref o] ∧ OwnAt C H o dx L M as cs hs ∧
  ∀ H' p, Same H H' → H p = none → H' p = some (.lst (nInt (freeL cs hs))) → Q (.ref p) H'
def spHands (C : Addr) : Sp := fun vs H Q _ => ∃ (o dx L M : Addr) (as : List Addr) (cs : List (List (Addr × Ow))) (hs : List Bool), vs = [.ref o] ∧ OwnAt C H o dx L M as cs hs ∧
  ∀ H' p, Same H H' → H p = none → H' p = some (.lst (nInt (heldL hs))) → Q (.ref p) H'
def spTake (C : Addr) : Sp := fun vs H Q _ => ∃ (o dx L M : Addr) (as : List Addr) (cs : List (List (Addr × Ow))) (hs : List Bool), vs = [.ref o] ∧ OwnAt C H o dx L M as cs hs ∧
  ((freeL cs hs)[0]? = none → ∀ H', Same H H' → Q .non H') ∧ (∀ j, (freeL cs hs)[0]? = some j → ∀ H', Keep [M] H H' → KT H H' → OwnAt C H' o dx L M as cs (hs.set j true) → Q (.int (j : Nat)) H')
def spPlaceOf (K : PySem.W.Frag) (C : Addr) : Sp := fun vs H Q _ => ∃ (o dx L M : Addr) (as : List Addr) (cs : List (List (Addr × Ow))) (hs : List Bool) (t : Addr) (w : Ow), vs = [.ref o, .ref t] ∧ OwnAt C H o dx L M as cs hs ∧ H t = some (.tup (oV w)) ∧
  ∀ H', Same H H' → Q (natV (placeM cs w)) H'
def spOwnersOf (C N : Addr) : Sp := fun vs H Q E => ∃ (o dx L M : Addr) (as : List Addr) (cs : List (List (Addr × Ow))) (hs : List Bool) (n : Int), vs = [.ref o, .int n] ∧ OwnAt C H o dx L M as cs hs ∧
  (∀ j : Nat, n = (j : Int) → ∀ c, cs[j]? = some c → ∀ p, H p = none → Q (.ref p) (upd H p (.lst (c.map wV)))) ∧ (¬ inR n cs.length → ∀ H', Same H H' → E (.ref N) none H')
def spGive (C N : Addr) : Sp := fun vs H Q E => ∃ (o dx L M : Addr) (as : List Addr) (cs : List (List (Addr × Ow))) (hs : List Bool) (n : Int), vs = [.ref o, .int n] ∧ OwnAt C H o dx L M as cs hs ∧
  (∀ j : Nat, n = (j : Int) → hs[j]? = some true → ∀ H', Keep [M] H H' → KT H H' → OwnAt C H' o dx L M as cs (hs.set j false) → Q .non H') ∧
  ((∀ j : Nat, n = (j : Int) → hs[j]? ≠ some true) → ∀ H', Same H H' → E (.ref N) none H')
def spHold (C N : Addr) : Sp := fun vs H Q E => ∃ (o dx L M : Addr) (as : List Addr) (cs : List (List (Addr × Ow))) (hs : List Bool) (n : Int), vs = [.ref o, .int n] ∧ OwnAt C H o dx L M as cs hs ∧
  (∀ j : Nat, n = (j : Int) → freeB cs hs j = true → ∀ H', Keep [M] H H' → KT H H' → OwnAt C H' o dx L M as cs (hs.set j true) → Q .non H') ∧
  ((∀ j : Nat, n = (j : Int) → freeB cs hs j = false) → ∀ H', Same H H' → E (.ref N) none H')
def spAdd (K : PySem.W.Frag) (C N : Addr) : Sp := fun vs H Q E => ∃ (o dx L M : Addr) (as : List Addr) (cs : List (List (Addr × Ow))) (hs : List Bool) (n : Int) (t : Addr) (w : Ow), vs = [.ref o, .int n, .ref t] ∧ OwnAt C H o dx L M as cs hs ∧ H t = some (.tup (oV w)) ∧ (∀ c ∈ cs, c.length ≤ 900) ∧
  (∀ j : Nat, n = (j : Int) → ∀ c, cs[j]? = some c → freeB cs hs j = false → placeM cs w = none → ∀ H', Keep (M :: as) H H' → KT H H' → OwnAt C H' o dx L M as (cs.set j (c ++ [(t, w)])) (hs.set j false) → Q .non H') ∧
  ((∀ j : Nat, n = (j : Int) → j < cs.length → freeB cs hs j = true ∨ placeM cs w ≠ none) → ∀ H', Same H H' → E (.ref N) none H')
/-- where the owner stands -/
def atOw (w : Ow) (c : List (Addr × Ow)) : Option Nat := c.findIdx? fun z => decide (z.2 = w)
theorem map_eraseIdxO {α β : Type} (f : α → β) : ∀ (l : List α) (j : Nat), (l.map f).eraseIdx j = (l.eraseIdx j).map f
  | [], _ => rfl
  | _ :: _, 0 => rfl
  | x :: l, j + 1 => by
    show f x :: (l.map f).eraseIdx j = f x :: (l.eraseIdx j).map f
    rw [map_eraseIdxO f l j]
theorem at_ow {w : Ow} {c : List (Addr × Ow)} (h : w ∈ c.map Prod.snd) : ∃ i, atOw w c = some i := by
  unfold atOw
  cases e : c.findIdx? fun z => decide (z.2 = w) with
  | some i => exact ⟨i, rfl⟩
  | none =>
    rw [List.findIdx?_eq_none_iff] at e
    obtain ⟨z, hz, hw⟩ := List.mem_map.mp h
    have := e z hz
    simp [hw] at this
theorem at_ow_spec {w : Ow} {c : List (Addr × Ow)} {i : Nat} (h : atOw w c = some i) : ((c.map Prod.snd).map oD)[i]? = some (oD w) ∧
    (∀ (m : Nat) (z' : PyData), m < i → ((c.map Prod.snd).map oD)[m]? = some z' → PyData.eqv z' (oD w) = false) ∧ ∀ f : Addr × Ow → V, (c.map f).eraseIdx i = (c.eraseIdx i).map f := by
  unfold atOw at h
  rw [List.findIdx?_eq_some_iff_getElem] at h
  obtain ⟨hi, h1, h2⟩ := h
  refine ⟨?_, fun m z' hm hz => ?_, fun f => map_eraseIdxO f c i⟩
  · rw [List.getElem?_map, List.getElem?_map, List.getElem?_eq_getElem hi]
    simp [of_decide_eq_true h1]
  · have hm2 : m < c.length := by omega
    rw [List.getElem?_map, List.getElem?_map, List.getElem?_eq_getElem hm2] at hz
    have e := Option.some.inj hz
    rw [← e, eqv_oD]
    have := h2 m hm
    simpa using this
def spRemove (K : PySem.W.Frag) (C N : Addr) : Sp := fun vs H Q E => ∃ (o dx L M : Addr) (as : List Addr) (cs : List (List (Addr × Ow))) (hs : List Bool) (n : Int) (t : Addr) (w : Ow), vs = [.ref o, .int n, .ref t] ∧ OwnAt C H o dx L M as cs hs ∧ H t = some (.tup (oV w)) ∧
  (∀ j : Nat, n = (j : Int) → ∀ c, cs[j]? = some c → ∀ i, atOw w c = some i → ∀ H', Keep (M :: as) H H' → KT H H' → OwnAt C H' o dx L M as (cs.set j (c.eraseIdx i)) hs → Q .non H') ∧
  ((∀ j : Nat, n = (j : Int) → ∀ c, cs[j]? = some c → owns w c = false) → ∀ H', Same H H' → E (.ref N) none H')
structure HandAt (C : Addr) (H : Hp) (h dx : Addr) (many : Nat) (pl : Int) : Prop where
  ins : H h = some (.ins C dx [("_many", .int (many : Nat)), ("_frame", .int pl)])
def spHandInit (C : Addr) : Sp := fun vs H Q _ => ∃ (o dx : Addr) (many : Nat), vs = [.ref o, .int (many : Nat)] ∧ H o = some (.ins C dx []) ∧ ∀ H', SameBut o H H' → HandAt C H' o dx many 0 → Q .non H'
def spVictim (K : PySem.W.Frag) (Co C : Addr) : Sp := fun vs H Q _ => ∃ (h hx o dx L M r : Addr) (as : List Addr) (cs : List (List (Addr × Ow))) (hs : List Bool) (pl : Int) (ps : List Int), vs = [.ref h, .ref o, .ref r] ∧ OwnAt Co H o dx L M as cs hs ∧ HandAt C H h hx cs.length pl ∧
  SqL K H r (ps.map V.int) ∧ ps.length ≤ 1000 ∧ 0 ≤ pl ∧ (vicM cs ps pl cs.length = none → ∀ H', Same H H' → Q .non H') ∧
  (∀ j, vicM cs ps pl cs.length = some j → ∀ H', SameBut h H H' → HandAt C H' h hx cs.length (((j : Nat) + 1) % (cs.length : Int)) → Q (.int (j : Nat)) H')
def spPoints (C : Addr) : Sp := fun vs H Q _ => ∃ (h hx : Addr) (many : Nat) (pl : Int), vs = [.ref h] ∧ HandAt C H h hx many pl ∧ Q (.int pl) H
end Fk
/-! The law's own owners: lists, what is taken; each act as a step of both. -/
namespace Gk
open PySem PySem.Spec PyProof.Rows L2 Dk Ek Nk Wk Lk Fk
def hsOf (many : Nat) (tk : List Int) : List Bool := (List.range many).map fun n : Nat => decide ((n : Int) ∈ tk)
theorem hsOf_len (many : Nat) (tk : List Int) : (hsOf many tk).length = many := by simp [hsOf]
theorem hsOf_get {many : Nat} {tk : List Int} {j : Nat} (h : j < many) : (hsOf many tk)[j]? = some (decide ((j : Int) ∈ tk)) := by
  unfold hsOf
  rw [List.getElem?_map, List.getElem?_range h]
  rfl
theorem hsOf_none {many : Nat} {tk : List Int} {j : Nat} (h : ¬ j < many) : (hsOf many tk)[j]? = none := List.getElem?_eq_none (by rw [hsOf_len]; omega)
theorem hsOf_set (many : Nat) (tk tk' : List Int) (j : Nat) (b : Bool) (hj : j < many → b = decide ((j : Int) ∈ tk')) (ho : ∀ i : Nat, i ≠ j → decide ((i : Int) ∈ tk') = decide ((i : Int) ∈ tk)) : (hsOf many tk).set j b = hsOf many tk' := by
  apply List.ext_getElem?
  intro i
  by_cases hi : i < many
  · by_cases e : i = j
    · subst e
      rw [List.getElem?_set_self (by rw [hsOf_len]; exact hi), hsOf_get hi, hj hi]
    · rw [List.getElem?_set_ne (Ne.symm e), hsOf_get hi, hsOf_get hi, ho i e]
  · rw [hsOf_none hi, List.getElem?_eq_none (by rw [List.length_set, hsOf_len]; omega)]
theorem hsOf_add (many : Nat) (tk : List Int) (j : Nat) : (hsOf many tk).set j true = hsOf many (tk ++ [(j : Int)]) := by
  refine hsOf_set _ _ _ _ _ (fun _ => by simp) fun i hi => ?_
  have : ¬ (i : Int) = (j : Int) := by omega
  simp [this]
theorem hsOf_erase (many : Nat) {tk : List Int} (nd : tk.Nodup) (j : Nat) : (hsOf many tk).set j false = hsOf many (tk.erase (j : Int)) := by
  refine hsOf_set _ _ _ _ _ (fun _ => by simp [List.Nodup.mem_erase_iff nd]) fun i hi => ?_
  have : ¬ (i : Int) = (j : Int) := by omega
  simp [List.Nodup.mem_erase_iff nd, this]
theorem freeB_hs {cs : List (List (Addr × Ow))} {many : Nat} {tk : List Int} {j : Nat} (hl : cs.length = many) (h : j < cs.length) : freeB cs (hsOf many tk) j = (cs[j].isEmpty && !decide ((j : Int) ∈ tk)) := by
  rw [freeB_at h (by rw [hsOf_len]; omega)]
  have := hsOf_get (tk := tk) (by omega : j < many)
  rw [List.getElem?_eq_getElem (by rw [hsOf_len]; omega)] at this
  rw [Option.some.inj this]
theorem freeB_out {cs : List (List (Addr × Ow))} {hs : List Bool} {j : Nat} (h : ¬ j < cs.length) : freeB cs hs j = false := by
  unfold freeB
  rw [List.getElem?_eq_none (by omega)]
/-! ### a sorted list of few numbers -/
theorem eq_of_lt : ∀ {l m : List Int}, l.Pairwise (· < ·) → m.Pairwise (· < ·) → (∀ x, x ∈ l ↔ x ∈ m) → l = m
  | [], [], _, _, _ => rfl
  | [], y :: m, _, _, h => absurd ((h y).mpr (List.mem_cons_self ..)) List.not_mem_nil
  | x :: l, [], _, _, h => absurd ((h x).mp (List.mem_cons_self ..)) List.not_mem_nil
  | x :: l, y :: m, hl, hm, h => by
    have l1 := List.pairwise_cons.mp hl
    have m1 := List.pairwise_cons.mp hm
    have e : x = y := by
      rcases List.mem_cons.mp ((h x).mp (List.mem_cons_self ..)) with e | e
      · exact e
      · rcases List.mem_cons.mp ((h y).mpr (List.mem_cons_self ..)) with f | f
        · exact f.symm
        · have a1 := m1.1 x e
          have a2 := l1.1 y f
          omega
    subst e
    rw [eq_of_lt l1.2 m1.2 fun z => ?_]
    constructor
    · intro hz
      rcases List.mem_cons.mp ((h z).mp (List.mem_cons_of_mem _ hz)) with e | e
      · have := l1.1 z hz
        omega
      · exact e
    · intro hz
      rcases List.mem_cons.mp ((h z).mpr (List.mem_cons_of_mem _ hz)) with e | e
      · have := m1.1 z hz
        omega
      · exact e
theorem held_sorted {many : Nat} {tk ns : List Int} (nd : tk.Nodup) (hin : ∀ k ∈ tk, 0 ≤ k ∧ k < (many : Int)) (p : ns.Perm tk) (s : ns.Pairwise (· ≤ ·)) : ns = (heldL (hsOf many tk)).map fun n => ((n : Nat) : Int) := by
  have nd2 : ns.Nodup := p.nodup_iff.mpr nd
  have s2 : ns.Pairwise (· < ·) := (s.and nd2).imp fun {a b} h => by
    have h1 := h.1
    have h2 := h.2
    omega
  refine eq_of_lt s2 ?_ fun x => ?_
  · unfold heldL
    rw [List.pairwise_map]
    exact (List.Pairwise.filter _ List.pairwise_lt_range).imp fun {a b} h => by omega
  · rw [p.mem_iff]
    constructor
    · intro h
      have := hin x h
      refine List.mem_map.mpr ⟨x.toNat, List.mem_filter.mpr ⟨List.mem_range.mpr (by rw [hsOf_len]; omega), ?_⟩, by omega⟩
      rw [hsOf_get (by omega)]
      have e : ((x.toNat : Nat) : Int) = x := by omega
      rw [e]
      simpa using h
    · intro h
      obtain ⟨n, hn, rfl⟩ := List.mem_map.mp h
      have h2 := (List.mem_filter.mp hn)
      have h3 := List.mem_range.mp h2.1
      rw [hsOf_len] at h3
      rw [hsOf_get h3] at h2
      simpa using h2.2
theorem nInt_map (ns : List Nat) : nInt ns = (ns.map fun n => ((n : Nat) : Int)).map V.int := by
  unfold nInt
  rw [List.map_map]
  rfl

/-! ### steps -/
inductive Ac where
  | give
  | add
  | remove
  | hold
def acS : Ac → Str
  | .give => "give"
  | .add => "add"
  | .remove => "remove"
  | .hold => "hold"
abbrev Cs := List (List (Addr × Ow))
def stepJ (cs : Cs) (tk : List Int) (a : Ac) (j : Nat) (t : Addr) (w : Ow) : Option (Cs × List Int) :=
  let c := cs[j]?.getD []
  match a with
  | .give => if (j : Int) ∈ tk then some (cs, tk.erase (j : Int)) else none
  | .add => if (c.isEmpty && !decide ((j : Int) ∈ tk)) || (placeM cs w).isSome then none else some (cs.set j (c ++ [(t, w)]), tk.erase (j : Int))
  | .remove => match atOw w c with
    | some i => some (cs.set j (c.eraseIdx i), tk)
    | none => none
  | .hold => if c.isEmpty && !decide ((j : Int) ∈ tk) then some (cs, tk ++ [(j : Int)]) else none
def stepM (cs : Cs) (tk : List Int) (a : Ac) (n : Int) (t : Addr) (w : Ow) : Option (Cs × List Int) :=
  if 0 ≤ n ∧ n < (cs.length : Int) then stepJ cs tk a n.toNat t w else none
theorem at_no {w : Ow} {c : List (Addr × Ow)} (h : atOw w c = none) : owns w c = false := by
  cases e : owns w c with
  | false => rfl
  | true =>
    obtain ⟨i, hi⟩ := at_ow (of_decide_eq_true e)
    rw [h] at hi
    cases hi

/-- the law's part -/
structure LawAt (H : Hp) (LL TK tp : Addr) (bs : List Addr) (cs : Cs) (tk : List Int) (ts : List Int) : Prop where
  lists : H LL = some (.lst (bs.map V.ref))
  rows : Rows H bs cs
  taken : H TK = some (.lst (tk.map V.int))
  tape : H tp = some (.lst (ts.map V.int))
  nd : (LL :: TK :: tp :: bs).Nodup
  few : cs.length ≤ 100
  thin : ∀ c ∈ cs, c.length ≤ 1000
  tknd : tk.Nodup
  tkin : ∀ k ∈ tk, 0 ≤ k ∧ k < (cs.length : Int)
theorem LawAt.same {H H' : Hp} {LL TK tp : Addr} {bs : List Addr} {cs : Cs} {tk ts : List Int} (h : LawAt H LL TK tp bs cs tk ts) (e : Same H H') : LawAt H' LL TK tp bs cs tk ts :=
  ⟨e _ _ h.lists, h.rows.same e, e _ _ h.taken, e _ _ h.tape, h.nd, h.few, h.thin, h.tknd, h.tkin⟩
theorem LawAt.keep {F : List Addr} {H H' : Hp} {LL TK tp : Addr} {bs : List Addr} {cs : Cs} {tk ts : List Int} (h : LawAt H LL TK tp bs cs tk ts) (e : Keep F H H') (n : ∀ p ∈ LL :: TK :: tp :: bs, p ∉ F) (k : KT H H') : LawAt H' LL TK tp bs cs tk ts :=
  ⟨e _ _ (n _ (by simp)) h.lists, h.rows.keep e (fun p hp => n p (by simp [hp])) k, e _ _ (n _ (by simp)) h.taken, e _ _ (n _ (by simp)) h.tape, h.nd, h.few, h.thin, h.tknd, h.tkin⟩
theorem LawAt.row {H : Hp} {LL TK tp : Addr} {bs : List Addr} {cs : Cs} {tk ts : List Int} (h : LawAt H LL TK tp bs cs tk ts) {j : Nat} (hj : j < cs.length) :
    ∃ p, bs[j]? = some p ∧ (bs.map V.ref)[j]? = some (.ref p) ∧ H p = some (.lst (cs[j].map wV)) ∧ OAll H cs[j] ∧ p ∈ bs := by
  have hj2 : j < bs.length := by rw [h.rows.len]; exact hj
  refine ⟨bs[j], List.getElem?_eq_getElem hj2, by rw [List.getElem?_map, List.getElem?_eq_getElem hj2]; rfl, h.rows.row j _ _ (List.getElem?_eq_getElem hj2) (List.getElem?_eq_getElem hj), h.rows.tup _ (List.getElem_mem hj), List.getElem_mem hj2⟩
theorem LawAt.setT {H : Hp} {LL TK tp : Addr} {bs : List Addr} {cs : Cs} {tk ts : List Int} (h : LawAt H LL TK tp bs cs tk ts) (tk' : List Int) (n1 : tk'.Nodup) (n2 : ∀ k ∈ tk', 0 ≤ k ∧ k < (cs.length : Int)) :
    LawAt (upd H TK (.lst (tk'.map V.int))) LL TK tp bs cs tk' ts := by
  have nM := h.nd
  simp only [List.nodup_cons, List.mem_cons, not_or] at nM
  exact ⟨(upd_ne nM.1.1).trans h.lists, h.rows.keep (F := [TK]) (Keep.put (by simp)) (fun p hp z => nM.2.1.2 (List.mem_singleton.mp z ▸ hp)) (KT.lst h.taken), upd_same, (upd_ne (Ne.symm nM.2.1.1)).trans h.tape, h.nd, h.few, h.thin, n1, n2⟩
theorem LawAt.setR {H : Hp} {LL TK tp : Addr} {bs : List Addr} {cs : Cs} {tk ts : List Int} (h : LawAt H LL TK tp bs cs tk ts) {j : Nat} {p : Addr} {c : List (Addr × Ow)} (hp : bs[j]? = some p) (ho : OAll H c) (hl : c.length ≤ 1000) :
    LawAt (upd H p (.lst (c.map wV))) LL TK tp bs (cs.set j c) tk ts := by
  have nM := h.nd
  simp only [List.nodup_cons, List.mem_cons, not_or] at nM
  have pm := mem_of_get hp
  refine ⟨(upd_ne (fun z : LL = p => nM.1.2.2 (z.symm ▸ pm))).trans h.lists, h.rows.put nM.2.2.2 hp ho, (upd_ne (fun z : TK = p => nM.2.1.2 (z.symm ▸ pm))).trans h.taken, (upd_ne (fun z : tp = p => nM.2.2.1 (z.symm ▸ pm))).trans h.tape, h.nd, by rw [List.length_set]; exact h.few, fun e he => ?_, h.tknd, by rw [List.length_set]; exact h.tkin⟩
  rcases List.mem_or_eq_of_mem_set he with he | rfl
  · exact h.thin e he
  · exact hl
/-! ### promises -/
def spDo (K : PySem.W.Frag) (C : Addr) : Sp := fun vs H Q _ => ∃ (o dx L M : Addr) (as : List Addr) (cs : Cs) (tk : List Int) (a : Ac) (n : Int) (t : Addr) (w : Ow), vs = [.ref o, .str (acS a), .int n, .ref t] ∧ OwnAt C H o dx L M as cs (hsOf cs.length tk) ∧ tk.Nodup ∧ H t = some (.tup (oV w)) ∧
  (∀ c ∈ cs, c.length ≤ 900) ∧ (∀ k ∈ tk, 0 ≤ k ∧ k < (cs.length : Int)) ∧ (∀ cs' tk', stepM cs tk a n t w = some (cs', tk') → ∀ H', Keep (M :: as) H H' → KT H H' → OwnAt C H' o dx L M as cs' (hsOf cs.length tk') → Q .non H') ∧
  (stepM cs tk a n t w = none → ∀ H' p, Same H H' → H' p = some (.lst [.bl true]) → Q (.ref p) H')
def spDue (K : PySem.W.Frag) : Sp := fun vs H Q _ => ∃ (LL TK tp : Addr) (bs : List Addr) (cs : Cs) (tk ts : List Int) (a : Ac) (n : Int) (t : Addr) (w : Ow), vs = [.ref LL, .ref TK, .str (acS a), .int n, .ref t] ∧ LawAt H LL TK tp bs cs tk ts ∧ H t = some (.tup (oV w)) ∧ tk.length ≤ 1000 ∧
  (∀ c ∈ cs, c.length ≤ 900) ∧ (∀ cs' tk', stepM cs tk a n t w = some (cs', tk') → ∀ H', Keep (TK :: bs) H H' → KT H H' → LawAt H' LL TK tp bs cs' tk' ts → Q .non H') ∧
  (stepM cs tk a n t w = none → ∀ H' p, Same H H' → H' p = some (.lst [.bl true]) → Q (.ref p) H')
def spLFree : Sp := fun vs H Q _ => ∃ (LL TK tp : Addr) (bs : List Addr) (cs : Cs) (tk ts : List Int), vs = [.ref LL, .ref TK] ∧ LawAt H LL TK tp bs cs tk ts ∧
  ∀ H' p, Same H H' → H p = none → H' p = some (.lst (nInt (freeL cs (hsOf cs.length tk)))) → Q (.ref p) H'
def spLPlace : Sp := fun vs H Q _ => ∃ (LL TK tp : Addr) (bs : List Addr) (cs : Cs) (tk ts : List Int) (t : Addr) (w : Ow), vs = [.ref LL, .ref t] ∧ LawAt H LL TK tp bs cs tk ts ∧ H t = some (.tup (oV w)) ∧ ∀ H', Same H H' → Q (natV (placeM cs w)) H'
def spLVictim (K : PySem.W.Frag) : Sp := fun vs H Q _ => ∃ (LL TK tp r : Addr) (bs : List Addr) (cs : Cs) (tk ts ps : List Int) (pl : Int), vs = [.ref LL, .int pl, .ref r] ∧ LawAt H LL TK tp bs cs tk ts ∧ SqL K H r (ps.map V.int) ∧ ps.length ≤ 1000 ∧ 0 ≤ pl ∧
  ∀ H', Same H H' → Q (natV (vicM cs ps pl cs.length)) H'
/-- both parts, and the hand -/
structure LS (Co Ch : Addr) (H : Hp) (o dx L M hd hx LL TK tp : Addr) (as bs : List Addr) (cs : Cs) (tk ts : List Int) (pl : Int) : Prop where
  own : OwnAt Co H o dx L M as cs (hsOf cs.length tk)
  law : LawAt H LL TK tp bs cs tk ts
  hand : HandAt Ch H hd hx cs.length pl
  apart : ∀ p ∈ L :: M :: as, p ∉ LL :: TK :: tp :: bs
  pl0 : 0 ≤ pl
theorem LS.same {Co Ch o dx L M hd hx LL TK tp : Addr} {H H' : Hp} {as bs : List Addr} {cs : Cs} {tk ts : List Int} {pl : Int} (h : LS Co Ch H o dx L M hd hx LL TK tp as bs cs tk ts pl) (e : Same H H') : LS Co Ch H' o dx L M hd hx LL TK tp as bs cs tk ts pl :=
  ⟨h.own.same e, h.law.same e, ⟨e _ _ h.hand.ins⟩, h.apart, h.pl0⟩
def spLSame (Co Ch : Addr) : Sp := fun vs H Q _ => ∃ (o dx L M hd hx LL TK tp : Addr) (as bs : List Addr) (cs : Cs) (tk ts : List Int) (pl : Int), vs = [.ref o, .ref LL, .ref TK] ∧ LS Co Ch H o dx L M hd hx LL TK tp as bs cs tk ts pl ∧ tk.length ≤ 1000 ∧ ∀ H', Same H H' → Q (.bl true) H'
def spLTaken (Co Ch : Addr) : Sp := fun vs H Q _ => ∃ (o dx L M hd hx LL TK tp : Addr) (as bs : List Addr) (cs : Cs) (tk ts : List Int) (pl : Int), vs = [.ref o, .ref LL, .ref TK] ∧ LS Co Ch H o dx L M hd hx LL TK tp as bs cs tk ts pl ∧ tk.length ≤ 1000 ∧
  ∀ H' tk', LS Co Ch H' o dx L M hd hx LL TK tp as bs cs tk' ts pl → tk'.length ≤ tk.length + 1 → KT H H' → Q (.bl true) H'
def spLHand (K : PySem.W.Frag) (Co Ch : Addr) : Sp := fun vs H Q _ => ∃ (o dx L M hd hx LL TK tp r : Addr) (as bs : List Addr) (cs : Cs) (tk ts ps : List Int) (pl : Int), vs = [.ref hd, .ref o, .ref LL, .int pl, .ref r] ∧ LS Co Ch H o dx L M hd hx LL TK tp as bs cs tk ts pl ∧ H r = some (.lst (ps.map V.int)) ∧ ps.length ≤ 1000 ∧
  ∀ H' pl', LS Co Ch H' o dx L M hd hx LL TK tp as bs cs tk ts pl' → SameBut hd H H' → Q (.int pl') H'
theorem find_range {c : Nat → Bool} {g : Nat → Nat} {n i : Nat} (hi : i < n) (h : c (g i) = true) (hn : ∀ d, d < i → c (g d) = false) : ((List.range n).map g).find? c = some (g i) := by
  rw [List.find?_eq_some_iff_getElem]
  refine ⟨h, i, by simpa using hi, by simp, fun j hj => ?_⟩
  simp [hn j hj]
theorem find_none {c : Nat → Bool} {g : Nat → Nat} {n : Nat} (hn : ∀ d, d < n → c (g d) = false) : ((List.range n).map g).find? c = none := by
  rw [List.find?_eq_none]
  intro x hx
  obtain ⟨d, hd, rfl⟩ := List.mem_map.mp hx
  simp [hn d (List.mem_range.mp hd)]
theorem cut_ints (ns : List Int) (lo hi : Option Int) : ∃ ps : List Int, cutV (ns.map V.int) lo hi = ps.map V.int ∧ ps.length ≤ ns.length := by
  unfold cutV
  refine ⟨(ns.drop (HT.sIx (ns.map V.int).length 0 lo)).take (HT.sIx (ns.map V.int).length (ns.map V.int).length hi - HT.sIx (ns.map V.int).length 0 lo), by rw [List.map_take, List.map_drop], ?_⟩
  rw [List.length_take, List.length_drop]
  omega
theorem step_len {cs : Cs} {tk : List Int} {a : Ac} {n : Int} {t : Addr} {w : Ow} {cs' : Cs} {tk' : List Int} {i : Nat} (thin : ∀ c ∈ cs, c.length ≤ i) (st : stepM cs tk a n t w = some (cs', tk')) :
    (∀ c ∈ cs', c.length ≤ i + 1) ∧ tk'.length ≤ tk.length + 1 ∧ cs'.length = cs.length := by
  unfold stepM at st
  split at st
  · rename_i hr
    have hj : n.toNat < cs.length := by omega
    have ec : cs[n.toNat]?.getD [] = cs[n.toNat] := by rw [List.getElem?_eq_getElem hj]; rfl
    have tc := thin _ (List.getElem_mem hj)
    have up : ∀ c ∈ cs, c.length ≤ i + 1 := fun c hc => Nat.le_succ_of_le (thin c hc)
    have er : ∀ x, (tk.erase x).length ≤ tk.length + 1 := fun x => Nat.le_succ_of_le List.length_erase_le
    cases a with
    | give =>
      simp only [stepJ] at st
      split at st
      · cases st
        exact ⟨up, er _, rfl⟩
      · cases st
    | add =>
      simp only [stepJ, ec] at st
      split at st
      · cases st
      · cases st
        refine ⟨fun c hc => ?_, er _, by rw [List.length_set]⟩
        rcases List.mem_or_eq_of_mem_set hc with hc | rfl
        · exact up c hc
        · rw [List.length_append, List.length_singleton]
          omega
    | remove =>
      simp only [stepJ, ec] at st
      split at st
      · cases st
        refine ⟨fun c hc => ?_, by omega, by rw [List.length_set]⟩
        rcases List.mem_or_eq_of_mem_set hc with hc | rfl
        · exact up c hc
        · exact Nat.le_trans (List.length_eraseIdx_le _ _) (by omega)
      · cases st
    | hold =>
      simp only [stepJ] at st
      split at st
      · cases st
        exact ⟨up, by rw [List.length_append, List.length_singleton]; omega, rfl⟩
      · cases st
  · cases st
end Gk
namespace K07
open PySem L2 Dk Ek Nk Wk Lk Fk Gk
def top (i : Nat) : Stmt := PySem.Challenge.pw_frametally_k07_owners_and_hand.main.body.getD i (.Pass ⟨0, 0, 0, 0⟩)
abbrev s_PageError_init : Stmt := inClass (top 1) 0
abbrev s_is_whole : Stmt := top 4
abbrev s_is_number_below : Stmt := top 5
abbrev s_Owners_init : Stmt := inClass (top 7) 0
abbrev s_Owners_take : Stmt := inClass (top 7) 1
abbrev s_Owners_give_back : Stmt := inClass (top 7) 2
abbrev s_Owners_add : Stmt := inClass (top 7) 3
abbrev s_Owners_remove : Stmt := inClass (top 7) 4
abbrev s_Owners_hold : Stmt := inClass (top 7) 5
abbrev s_Owners_owners : Stmt := inClass (top 7) 6
abbrev s_Owners_place_of : Stmt := inClass (top 7) 7
abbrev s_Owners_free : Stmt := inClass (top 7) 8
abbrev s_Owners_in_hands : Stmt := inClass (top 7) 9
abbrev s_Owners__check : Stmt := inClass (top 7) 10
abbrev s_Owners__is_free : Stmt := inClass (top 7) 11
abbrev s_Hand_init : Stmt := inClass (top 8) 0
abbrev s_Hand_victim : Stmt := inClass (top 8) 1
abbrev s_Hand_points_to : Stmt := inClass (top 8) 2
abbrev s__law_tape : Stmt := top 10
abbrev s__law_at : Stmt := top 11
abbrev s__law_do : Stmt := top 12
abbrev s__law_free : Stmt := top 13
abbrev s__law_place : Stmt := top 14
abbrev s__law_due : Stmt := top 15
abbrev s__law_victim : Stmt := top 16
abbrev s__law_same : Stmt := top 17
abbrev s__law_taken : Stmt := top 18
abbrev s__law_hand : Stmt := top 19
abbrev s_law : Stmt := top 20
theorem sc_PageError_init : FnScope ["self"] ["self"] (defScope s_PageError_init) := ⟨rfl, rfl, rfl, by decide +kernel, rfl, by decide +kernel, by decide +kernel⟩
theorem sc_is_whole : FnScope ["value"] ["value"] (defScope s_is_whole) := ⟨rfl, rfl, rfl, by decide +kernel, rfl, by decide +kernel, by decide +kernel⟩
theorem sc_is_number_below : FnScope ["value", "many"] ["value", "many"] (defScope s_is_number_below) := ⟨rfl, rfl, rfl, by decide +kernel, rfl, by decide +kernel, by decide +kernel⟩
theorem sc_Owners_init : FnScope ["self", "many", "_"] ["self", "many"] (defScope s_Owners_init) := ⟨rfl, rfl, rfl, by decide +kernel, rfl, by decide +kernel, by decide +kernel⟩
theorem sc_Owners_take : FnScope ["self", "free"] ["self"] (defScope s_Owners_take) := ⟨rfl, rfl, rfl, by decide +kernel, rfl, by decide +kernel, by decide +kernel⟩
theorem sc_Owners_give_back : FnScope ["self", "number"] ["self", "number"] (defScope s_Owners_give_back) := ⟨rfl, rfl, rfl, by decide +kernel, rfl, by decide +kernel, by decide +kernel⟩
theorem sc_Owners_add : FnScope ["self", "number", "owner"] ["self", "number", "owner"] (defScope s_Owners_add) := ⟨rfl, rfl, rfl, by decide +kernel, rfl, by decide +kernel, by decide +kernel⟩
theorem sc_Owners_remove : FnScope ["self", "number", "owner"] ["self", "number", "owner"] (defScope s_Owners_remove) := ⟨rfl, rfl, rfl, by decide +kernel, rfl, by decide +kernel, by decide +kernel⟩
theorem sc_Owners_hold : FnScope ["self", "number"] ["self", "number"] (defScope s_Owners_hold) := ⟨rfl, rfl, rfl, by decide +kernel, rfl, by decide +kernel, by decide +kernel⟩
theorem sc_Owners_owners : FnScope ["self", "number"] ["self", "number"] (defScope s_Owners_owners) := ⟨rfl, rfl, rfl, by decide +kernel, rfl, by decide +kernel, by decide +kernel⟩
theorem sc_Owners_place_of : FnScope ["self", "owner", "number", "owners"] ["self", "owner"] (defScope s_Owners_place_of) := ⟨rfl, rfl, rfl, by decide +kernel, rfl, by decide +kernel, by decide +kernel⟩
theorem sc_Owners_free : FnScope ["self", "number"] ["self"] (defScope s_Owners_free) := ⟨rfl, rfl, rfl, by decide +kernel, rfl, by decide +kernel, by decide +kernel⟩
theorem sc_Owners_in_hands : FnScope ["self", "number", "held"] ["self"] (defScope s_Owners_in_hands) := ⟨rfl, rfl, rfl, by decide +kernel, rfl, by decide +kernel, by decide +kernel⟩
theorem sc_Owners__check : FnScope ["self", "number"] ["self", "number"] (defScope s_Owners__check) := ⟨rfl, rfl, rfl, by decide +kernel, rfl, by decide +kernel, by decide +kernel⟩
theorem sc_Owners__is_free : FnScope ["self", "number"] ["self", "number"] (defScope s_Owners__is_free) := ⟨rfl, rfl, rfl, by decide +kernel, rfl, by decide +kernel, by decide +kernel⟩
theorem sc_Hand_init : FnScope ["self", "many"] ["self", "many"] (defScope s_Hand_init) := ⟨rfl, rfl, rfl, by decide +kernel, rfl, by decide +kernel, by decide +kernel⟩
theorem sc_Hand_victim : FnScope ["self", "owners", "passed_over", "distance", "frame"] ["self", "owners", "passed_over"] (defScope s_Hand_victim) := ⟨rfl, rfl, rfl, by decide +kernel, rfl, by decide +kernel, by decide +kernel⟩
theorem sc_Hand_points_to : FnScope ["self"] ["self"] (defScope s_Hand_points_to) := ⟨rfl, rfl, rfl, by decide +kernel, rfl, by decide +kernel, by decide +kernel⟩
theorem sc__law_tape : FnScope ["script", "tape", "k", "value", "step"] ["script"] (defScope s__law_tape) := ⟨rfl, rfl, rfl, by decide +kernel, rfl, by decide +kernel, by decide +kernel⟩
theorem sc__law_at : FnScope ["tape", "k"] ["tape", "k"] (defScope s__law_at) := ⟨rfl, rfl, rfl, by decide +kernel, rfl, by decide +kernel, by decide +kernel⟩
theorem sc__law_do : FnScope ["owners", "act", "number", "owner", "e"] ["owners", "act", "number", "owner"] (defScope s__law_do) := ⟨rfl, rfl, rfl, by decide +kernel, rfl, by decide +kernel, by decide +kernel⟩
theorem sc__law_free : FnScope ["lists", "taken", "n"] ["lists", "taken"] (defScope s__law_free) := ⟨rfl, rfl, rfl, by decide +kernel, rfl, by decide +kernel, by decide +kernel⟩
theorem sc__law_place : FnScope ["lists", "owner", "n"] ["lists", "owner"] (defScope s__law_place) := ⟨rfl, rfl, rfl, by decide +kernel, rfl, by decide +kernel, by decide +kernel⟩
theorem sc__law_due : FnScope ["lists", "taken", "act", "number", "owner", "free"] ["lists", "taken", "act", "number", "owner"] (defScope s__law_due) := ⟨rfl, rfl, rfl, by decide +kernel, rfl, by decide +kernel, by decide +kernel⟩
theorem sc__law_victim : FnScope ["lists", "place", "passed", "step", "frame"] ["lists", "place", "passed"] (defScope s__law_victim) := ⟨rfl, rfl, rfl, by decide +kernel, rfl, by decide +kernel, by decide +kernel⟩
theorem sc__law_same : FnScope ["owners", "lists", "taken", "n"] ["owners", "lists", "taken"] (defScope s__law_same) := ⟨rfl, rfl, rfl, by decide +kernel, rfl, by decide +kernel, by decide +kernel⟩
theorem sc__law_taken : FnScope ["owners", "lists", "taken", "told", "free"] ["owners", "lists", "taken"] (defScope s__law_taken) := ⟨rfl, rfl, rfl, by decide +kernel, rfl, by decide +kernel, by decide +kernel⟩
theorem sc__law_hand : FnScope ["hand", "owners", "lists", "place", "passed", "due", "kept", "told"] ["hand", "owners", "lists", "place", "passed"] (defScope s__law_hand) := ⟨rfl, rfl, rfl, by decide +kernel, rfl, by decide +kernel, by decide +kernel⟩
theorem sc_law : FnScope ["script", "tape", "many", "owners", "hand", "lists", "taken", "place", "k", "number", "pick", "owner", "act", "target", "at", "told", "due", "found", "n"] ["script"] (defScope s_law) := ⟨rfl, rfl, rfl, by decide +kernel, rfl, by decide +kernel, by decide +kernel⟩
structure Ad where
  (C_PageError C_NotValid C_Owners C_Hand f_PageError_init f_is_whole f_is_number_below f_Owners_init f_Owners_take f_Owners_give_back f_Owners_add f_Owners_remove f_Owners_hold f_Owners_owners f_Owners_place_of f_Owners_free f_Owners_in_hands f_Owners__check f_Owners__is_free f_Hand_init f_Hand_victim f_Hand_points_to f__law_tape f__law_at f__law_do f__law_free f__law_place f__law_due f__law_victim f__law_same f__law_taken f__law_hand f_law : Addr)
  (d_PageError_init d_is_whole d_is_number_below d_Owners_init d_Owners_take d_Owners_give_back d_Owners_add d_Owners_remove d_Owners_hold d_Owners_owners d_Owners_place_of d_Owners_free d_Owners_in_hands d_Owners__check d_Owners__is_free d_Hand_init d_Hand_victim d_Hand_points_to d__law_tape d__law_at d__law_do d__law_free d__law_place d__law_due d__law_victim d__law_same d__law_taken d__law_hand d_law : FuncData)
structure Txt (K : PySem.W.Frag) (mg : Str → Option Value) (a : Ad) : Prop where
  m_PageError : mg "PageError" = some (.ref a.C_PageError)
  m_NotValid : mg "NotValid" = some (.ref a.C_NotValid)
  m_Owners : mg "Owners" = some (.ref a.C_Owners)
  m_Hand : mg "Hand" = some (.ref a.C_Hand)
  F_PageError_init : Fun K "__init__" "PageError.__init__" s_PageError_init a.f_PageError_init a.d_PageError_init
  B_PageError_init : Binds K a.d_PageError_init ["self"] []
  F_is_whole : Fun K "is_whole" "is_whole" s_is_whole a.f_is_whole a.d_is_whole
  B_is_whole : Binds K a.d_is_whole ["value"] []
  m_is_whole : mg "is_whole" = some (.ref a.f_is_whole)
  F_is_number_below : Fun K "is_number_below" "is_number_below" s_is_number_below a.f_is_number_below a.d_is_number_below
  B_is_number_below : Binds K a.d_is_number_below ["value", "many"] []
  m_is_number_below : mg "is_number_below" = some (.ref a.f_is_number_below)
  F_Owners_init : Fun K "__init__" "Owners.__init__" s_Owners_init a.f_Owners_init a.d_Owners_init
  B_Owners_init : Binds K a.d_Owners_init ["self", "many"] []
  F_Owners_take : Fun K "take" "Owners.take" s_Owners_take a.f_Owners_take a.d_Owners_take
  B_Owners_take : Binds K a.d_Owners_take ["self"] []
  M_Owners_take : Meth K a.C_Owners "take" a.f_Owners_take
  F_Owners_give_back : Fun K "give_back" "Owners.give_back" s_Owners_give_back a.f_Owners_give_back a.d_Owners_give_back
  B_Owners_give_back : Binds K a.d_Owners_give_back ["self", "number"] []
  M_Owners_give_back : Meth K a.C_Owners "give_back" a.f_Owners_give_back
  F_Owners_add : Fun K "add" "Owners.add" s_Owners_add a.f_Owners_add a.d_Owners_add
  B_Owners_add : Binds K a.d_Owners_add ["self", "number", "owner"] []
  M_Owners_add : Meth K a.C_Owners "add" a.f_Owners_add
  F_Owners_remove : Fun K "remove" "Owners.remove" s_Owners_remove a.f_Owners_remove a.d_Owners_remove
  B_Owners_remove : Binds K a.d_Owners_remove ["self", "number", "owner"] []
  M_Owners_remove : Meth K a.C_Owners "remove" a.f_Owners_remove
  F_Owners_hold : Fun K "hold" "Owners.hold" s_Owners_hold a.f_Owners_hold a.d_Owners_hold
  B_Owners_hold : Binds K a.d_Owners_hold ["self", "number"] []
  M_Owners_hold : Meth K a.C_Owners "hold" a.f_Owners_hold
  F_Owners_owners : Fun K "owners" "Owners.owners" s_Owners_owners a.f_Owners_owners a.d_Owners_owners
  B_Owners_owners : Binds K a.d_Owners_owners ["self", "number"] []
  M_Owners_owners : Meth K a.C_Owners "owners" a.f_Owners_owners
  F_Owners_place_of : Fun K "place_of" "Owners.place_of" s_Owners_place_of a.f_Owners_place_of a.d_Owners_place_of
  B_Owners_place_of : Binds K a.d_Owners_place_of ["self", "owner"] []
  M_Owners_place_of : Meth K a.C_Owners "place_of" a.f_Owners_place_of
  F_Owners_free : Fun K "free" "Owners.free" s_Owners_free a.f_Owners_free a.d_Owners_free
  B_Owners_free : Binds K a.d_Owners_free ["self"] []
  M_Owners_free : Meth K a.C_Owners "free" a.f_Owners_free
  F_Owners_in_hands : Fun K "in_hands" "Owners.in_hands" s_Owners_in_hands a.f_Owners_in_hands a.d_Owners_in_hands
  B_Owners_in_hands : Binds K a.d_Owners_in_hands ["self"] []
  M_Owners_in_hands : Meth K a.C_Owners "in_hands" a.f_Owners_in_hands
  F_Owners__check : Fun K "_check" "Owners._check" s_Owners__check a.f_Owners__check a.d_Owners__check
  B_Owners__check : Binds K a.d_Owners__check ["self", "number"] []
  M_Owners__check : Meth K a.C_Owners "_check" a.f_Owners__check
  F_Owners__is_free : Fun K "_is_free" "Owners._is_free" s_Owners__is_free a.f_Owners__is_free a.d_Owners__is_free
  B_Owners__is_free : Binds K a.d_Owners__is_free ["self", "number"] []
  M_Owners__is_free : Meth K a.C_Owners "_is_free" a.f_Owners__is_free
  F_Hand_init : Fun K "__init__" "Hand.__init__" s_Hand_init a.f_Hand_init a.d_Hand_init
  B_Hand_init : Binds K a.d_Hand_init ["self", "many"] []
  F_Hand_victim : Fun K "victim" "Hand.victim" s_Hand_victim a.f_Hand_victim a.d_Hand_victim
  B_Hand_victim : Binds K a.d_Hand_victim ["self", "owners", "passed_over"] []
  M_Hand_victim : Meth K a.C_Hand "victim" a.f_Hand_victim
  F_Hand_points_to : Fun K "points_to" "Hand.points_to" s_Hand_points_to a.f_Hand_points_to a.d_Hand_points_to
  B_Hand_points_to : Binds K a.d_Hand_points_to ["self"] []
  M_Hand_points_to : Meth K a.C_Hand "points_to" a.f_Hand_points_to
  F__law_tape : Fun K "_law_tape" "_law_tape" s__law_tape a.f__law_tape a.d__law_tape
  B__law_tape : Binds K a.d__law_tape ["script"] []
  m__law_tape : mg "_law_tape" = some (.ref a.f__law_tape)
  F__law_at : Fun K "_law_at" "_law_at" s__law_at a.f__law_at a.d__law_at
  B__law_at : Binds K a.d__law_at ["tape", "k"] []
  m__law_at : mg "_law_at" = some (.ref a.f__law_at)
  F__law_do : Fun K "_law_do" "_law_do" s__law_do a.f__law_do a.d__law_do
  B__law_do : Binds K a.d__law_do ["owners", "act", "number", "owner"] []
  m__law_do : mg "_law_do" = some (.ref a.f__law_do)
  F__law_free : Fun K "_law_free" "_law_free" s__law_free a.f__law_free a.d__law_free
  B__law_free : Binds K a.d__law_free ["lists", "taken"] []
  m__law_free : mg "_law_free" = some (.ref a.f__law_free)
  F__law_place : Fun K "_law_place" "_law_place" s__law_place a.f__law_place a.d__law_place
  B__law_place : Binds K a.d__law_place ["lists", "owner"] []
  m__law_place : mg "_law_place" = some (.ref a.f__law_place)
  F__law_due : Fun K "_law_due" "_law_due" s__law_due a.f__law_due a.d__law_due
  B__law_due : Binds K a.d__law_due ["lists", "taken", "act", "number", "owner"] []
  m__law_due : mg "_law_due" = some (.ref a.f__law_due)
  F__law_victim : Fun K "_law_victim" "_law_victim" s__law_victim a.f__law_victim a.d__law_victim
  B__law_victim : Binds K a.d__law_victim ["lists", "place", "passed"] []
  m__law_victim : mg "_law_victim" = some (.ref a.f__law_victim)
  F__law_same : Fun K "_law_same" "_law_same" s__law_same a.f__law_same a.d__law_same
  B__law_same : Binds K a.d__law_same ["owners", "lists", "taken"] []
  m__law_same : mg "_law_same" = some (.ref a.f__law_same)
  F__law_taken : Fun K "_law_taken" "_law_taken" s__law_taken a.f__law_taken a.d__law_taken
  B__law_taken : Binds K a.d__law_taken ["owners", "lists", "taken"] []
  m__law_taken : mg "_law_taken" = some (.ref a.f__law_taken)
  F__law_hand : Fun K "_law_hand" "_law_hand" s__law_hand a.f__law_hand a.d__law_hand
  B__law_hand : Binds K a.d__law_hand ["hand", "owners", "lists", "place", "passed"] []
  m__law_hand : mg "_law_hand" = some (.ref a.f__law_hand)
  F_law : Fun K "law" "law" s_law a.f_law a.d_law
  B_law : Binds K a.d_law ["script"] []
  m_law : mg "law" = some (.ref a.f_law)
  c_Owners : Cls K a.C_Owners
  mk_Owners : Mk K a.C_Owners a.f_Owners_init
  n_Owners__owners : NoAttr K a.C_Owners "_owners"
  n_Owners__held : NoAttr K a.C_Owners "_held"
  c_Hand : Cls K a.C_Hand
  mk_Hand : Mk K a.C_Hand a.f_Hand_init
  n_Hand__many : NoAttr K a.C_Hand "_many"
  n_Hand__frame : NoAttr K a.C_Hand "_frame"
  b_ValueError : mg "ValueError" = none
  b_abs : mg "abs" = none
  b_bool : mg "bool" = none
  b_enumerate : mg "enumerate" = none
  b_int : mg "int" = none
  b_isinstance : mg "isinstance" = none
  b_len : mg "len" = none
  b_list : mg "list" = none
  b_max : mg "max" = none
  b_min : mg "min" = none
  b_range : mg "range" = none
  b_sorted : mg "sorted" = none
  vV : PySem.W.findCls K (.type "ValueError") (.type "type") "__init__" = some (.val (.builtin "ValueError.__init__"))
  xi_NotValid : PySem.W.findIn K (.ref a.C_NotValid) "__init__" = some (some (.ref a.f_PageError_init))
  xt_NotValid : PySem.W.typeIn K (.ref a.f_PageError_init) = some (.type "function")
  xs_NotValid : PySem.W.findIn K (.ref a.C_NotValid) "__setattr__" = some (some (.builtin "object.__setattr__"))
  xb_NotValid : PySem.W.subIn K (.ref a.C_NotValid) (.type "BaseException") = some true
  xy_NotValid : PySem.W.typeIn K (.ref a.C_NotValid) = some (.type "type")
  xk_NotValid : PySem.W.keepIn K (.ref a.C_NotValid) = true
  e1 : PySem.W.findIn K (.ref a.C_NotValid) "__getattribute__" = some (some (.builtin "BaseException.__getattribute__"))
  e2 : PySem.W.findIn K (.ref a.C_NotValid) "__getattr__" = some none
  e4 : PySem.W.hasDictIn K a.C_NotValid = true
  e5 : PySem.W.findIn K (.ref a.C_NotValid) "__class__" = some (some (.builtin "object.__class__"))
  e6 : PySem.W.specialIn K (.builtin "object.__class__") "__get__" = some (some (.builtin "getset_descriptor.__get__"))
  e7 : PySem.W.takesIn K (.builtin "object.__class__") = some true
  e8 : PySem.W.mroIn K a.C_NotValid (.type "object") = some true
  p1 : PySem.W.subIn K (.ref a.C_PageError) (.type "BaseException") = some true
  p2 : PySem.W.hasDictIn K a.C_PageError = true
  p3 : PySem.W.typeIn K (.ref a.C_PageError) = some (.type "type")
  p4 : PySem.W.subIn K (.ref a.C_NotValid) (.ref a.C_PageError) = some true
  q4 : PySem.W.kitOne K (.ref a.C_NotValid) (.ref a.C_NotValid) = some true
  x_NotValid : OexC K a.C_NotValid
  e_NotValid : ExcC K a.C_NotValid
/-! ### the tape: what it holds does not matter, only that it holds few numbers from 0 to 999 -/
def Dig (ts : List Int) : Prop := ∀ t ∈ ts, 0 ≤ t ∧ t < 1000
theorem Dig.nil : Dig [] := fun _ h => absurd h List.not_mem_nil
theorem Dig.snoc {ts : List Int} {x : Int} (h : Dig ts) (h0 : 0 ≤ x) (h1 : x < 1000) : Dig (ts ++ [x]) := fun t ht => by
  rcases List.mem_append.mp ht with ht | ht
  · exact h t ht
  · rw [List.mem_singleton.mp ht]
    exact ⟨h0, h1⟩
def spTape (K : PySem.W.Frag) : Sp := fun vs H Q _ => ∃ (p : Addr) (ns : List Int), vs = [.ref p] ∧ SqL K H p (ns.map V.int) ∧ ns.length ≤ 63 ∧
  ∀ (H' : Hp) (t : Addr) (ts : List Int), Same H H' → H t = none → H' t = some (.lst (ts.map V.int)) → Dig ts → ts.length ≤ 3780 → Q (.ref t) H'
def spAt (K : PySem.W.Frag) : Sp := fun vs H Q _ => ∃ (t : Addr) (ts : List Int) (k : Int), vs = [.ref t, .int k] ∧ SqL K H t (ts.map V.int) ∧ 0 ≤ k ∧ Dig ts ∧ ∀ x : Int, 0 ≤ x → x < 1000 → Q (.int x) H
section
variable {P : Program} {w : World} {K : PySem.W.Frag} {mg : Str → Option Value} {base : Heap} {a : Ad}
theorem mod1000 (v : Int) : 0 ≤ v % 1000 ∧ v % 1000 < 1000 := ⟨Int.emod_nonneg _ (by decide), Int.emod_lt_of_pos _ (by decide)⟩
theorem snoc_int (ts : List Int) (x : Int) : ts.map V.int ++ [V.int x] = (ts ++ [x]).map V.int := by rw [List.map_append]; rfl
theorem ok__law_tape (T : Txt K mg a) : FnOk P w K mg base CX0 1 a.f__law_tape a.d__law_tape ["script"] (spTape K) := by
  refine T.F__law_tape.ok sc__law_tape (fun vs H Q E h => ?_) (fun cdv A outer s H vs Q E hr h => ?_)
  · obtain ⟨p, ns, rfl, _⟩ := h
    rfl
  · obtain ⟨sp, ns, rfl, hS, hlen, q⟩ := h
    refine ⟨_, (pss_cons (ps_set (i := 1) sc__law_tape.nd rfl (Or.inl rfl) (pe_lst pa_nil))
    (pss_cons (ps_for PassesOwn.never rfl (pi_range1 rfl T.b_range (pa_cons (pe_callB call_len_seq (by rfl) T.b_len (by decide +kernel) (pa_cons (pv 0) pa_nil)) pa_nil)) (pg_name (i := 2) sc__law_tape.nd rfl (Or.inl rfl))
    (pss_cons (ps_set (i := 3) sc__law_tape.nd rfl (Or.inl rfl) (pe_callB call_abs (by rfl) T.b_abs (by decide +kernel) (pa_cons (pe_callTy call_int1 (by rfl) T.b_int (by decide +kernel) (pa_cons (pe_ix ix_list (pv 0) (pv 2) (fun _ _ => rfl)) pa_nil)) pa_nil)))
    (pss_one (ps_if (pt_cmpR (op_ge) (pv 3) (pe_op op_pow pe_int pe_int) (nomark _)) (pss_one (ps_for PassesOwn.never rfl (pi_range1 rfl T.b_range (pa_cons pe_int pa_nil)) (pg_name (i := 4) sc__law_tape.nd rfl (Or.inl rfl))
    (pss_one (ps_if (pt_cmpR (op_gt) (pv 3) pe_int (nomark _)) (pss_cons (ps_expr (pe_bm PySem.F.plainAttrs_list PySem.F.slot_list_append PySem.F.type_list_append mt_append (pv 1) (pa_cons (pe_op op_mod (pv 3) pe_int) pa_nil)))
    (pss_one (ps_set (i := 3) sc__law_tape.nd rfl (Or.inl rfl) (pe_op op_fdiv (pv 3) pe_int)))) pss_nil)))) (pss_one (ps_for PassesOwn.never rfl (pi_range1 rfl T.b_range (pa_cons pe_int pa_nil)) (pg_name (i := 4) sc__law_tape.nd rfl (Or.inl rfl))
    (pss_cons (ps_set (i := 3) sc__law_tape.nd rfl (Or.inl rfl) (pe_op op_mod (pe_op op_add (pe_op op_add (pe_op op_mul (pv 3) pe_int) (pe_op op_mul pe_int (pe_op op_add (pv 2) pe_int))) (pe_op op_mul pe_int (pv 4))) pe_int))
    (pss_cons (ps_set (i := 3) sc__law_tape.nd rfl (Or.inl rfl) (pe_op op_mod (pe_op op_mul (pv 3) pe_int) pe_int))
    (pss_one (ps_expr (pe_bm PySem.F.plainAttrs_list PySem.F.slot_list_append PySem.F.type_list_append mt_append (pv 1) (pa_cons (pe_op op_mod (pe_op op_fdiv (pv 3) pe_int) pe_int) pa_nil))))))))))))
    (pss_one (ps_ret (pv 1))))), ?_⟩
    have len0 : ((List.length (ns.map V.int) : Nat) : Int) ≤ 63 := by rw [List.length_map]; omega
    refine ⟨Nat.zero_le _, fun p hp => ?_⟩
    refine ⟨_, rfl, sp, _, rfl, .inl ((Same.new hp).seq hS), _, rfl, by omega, by omega,
      for_range (lo := 0) (n := ((List.length (ns.map V.int) : Nat) : Int).toNat)
        (fun i σ H' => ∃ (x2 x3 x4 : Option V) (ts : List Int), σ = [some (.ref sp), some (.ref p), x2, x3, x4] ∧ Same H H' ∧ H' p = some (.lst (ts.map V.int)) ∧ Dig ts ∧ ts.length ≤ 60 * i)
        ⟨none, none, none, [], rfl, Same.new hp, upd_same, Dig.nil, Nat.le_refl _⟩ ?_ ?_⟩
    · rintro i σ H' hi ⟨x2, x3, x4, ts, rfl, eS, hL, dg, hl⟩
      rw [List.length_map] at hi
      have hi2 : i < ns.length := by omega
      refine ⟨_, rfl, _, rfl, _, _, _, .int ns[i], rfl, rfl, eS.seq hS, at_of (j := i) (by omega) (by rw [List.getElem?_map, List.getElem?_eq_getElem hi2]; rfl), ?_⟩
      refine .inl ⟨_, rfl, _, rfl, ?_⟩
      refine ⟨_, rfl, _, _, rfl, rfl, ⟨by decide, by decide, by decide⟩, _, _, rfl, rfl, _, rfl, ?_⟩
      refine ite2 (fun c => ?_) (fun c => ?_)
      · refine ⟨60, rfl, by decide, by decide, for_range (lo := 0) (n := (60 : Int).toNat)
          (fun j σ H' => ∃ (v : Int) (x4 : Option V) (ts : List Int), σ = [some (.ref sp), some (.ref p), some (.int (0 + (i : Int))), some (.int v), x4] ∧ Same H H' ∧ H' p = some (.lst (ts.map V.int)) ∧ Dig ts ∧ ts.length ≤ 60 * i + j)
          ⟨_, _, ts, rfl, eS, hL, dg, hl⟩ ?_ ?_⟩
        · rintro j σ H2 hj ⟨v, x4, ts, rfl, eS, hL, dg, hl⟩
          refine ⟨_, rfl, _, _, rfl, rfl, _, rfl, ?_⟩
          have hj2 : j < 60 := hj
          refine ite2 (fun c2 => ?_) (fun c2 => ?_)
          · obtain ⟨m0, m1⟩ := mod1000 v
            refine ⟨_, rfl, .inl ⟨rfl, _, SqL.of hL⟩, _, rfl, _, _, rfl, rfl, (by show (0 : Int) < 1000; decide), p, _, _, rfl, rfl, hL, ?_, ?_⟩
            · rw [List.length_map]
              exact Nat.lt_of_le_of_lt (by omega : ts.length ≤ 4000) (by decide)
            · refine ⟨_, rfl, _, _, rfl, rfl, ⟨by decide, by decide⟩, ?_⟩
              refine ⟨_, _, ts ++ [v % 1000], rfl, Same.put eS hp, ?_, dg.snoc m0 m1, ?_⟩
              · rw [upd_same, snoc_int]
              · rw [List.length_append, List.length_singleton]
                omega
          · exact ⟨v, _, ts, rfl, eS, hL, dg, by omega⟩
        · rintro σ H2 ⟨v, x4, ts, rfl, eS, hL, dg, hl⟩
          exact ⟨_, _, _, ts, rfl, eS, hL, dg, by simp at hl; omega⟩
      · refine ⟨4, rfl, by decide, by decide, for_range (lo := 0) (n := (4 : Int).toNat)
          (fun j σ H' => ∃ (v : Int) (x4 : Option V) (ts : List Int), σ = [some (.ref sp), some (.ref p), some (.int (0 + (i : Int))), some (.int v), x4] ∧ Same H H' ∧ H' p = some (.lst (ts.map V.int)) ∧ Dig ts ∧ ts.length ≤ 60 * i + j)
          ⟨_, _, ts, rfl, eS, hL, dg, hl⟩ ?_ ?_⟩
        · rintro j σ H2 hj ⟨v, x4, ts, rfl, eS, hL, dg, hl⟩
          have hj2 : j < 4 := hj
          refine ⟨_, rfl, _, _, rfl, rfl, .inr ⟨by decide, by decide⟩, _, rfl, _, _, rfl, rfl, _, _, rfl, rfl, .inl ⟨by decide, by decide⟩, _, _, rfl, rfl, _, rfl, _, _, rfl, rfl, .inl ⟨by decide, by decide⟩,
            _, _, rfl, rfl, _, _, rfl, rfl, (by show (0 : Int) < 2147483647; decide), ?_⟩
          refine ⟨_, rfl, _, _, rfl, rfl, .inr ⟨by decide, by decide⟩, _, _, rfl, rfl, (by show (0 : Int) < 2147483647; decide), ?_⟩
          refine ⟨_, rfl, .inl ⟨rfl, _, SqL.of hL⟩, _, rfl, _, _, rfl, rfl, ⟨by decide, by decide⟩, _, _, rfl, rfl, (by show (0 : Int) < 1000; decide), p, _, _, rfl, rfl, hL, ?_, ?_⟩
          · rw [List.length_map]
            exact Nat.lt_of_le_of_lt (by omega : ts.length ≤ 4000) (by decide)
          · refine ⟨_, _, ts ++ [((v * 48271 + 69621 * (0 + (i : Int) + 1) + 7 * (0 + (j : Int))) % 2147483647 * 16807 % 2147483647 / 1000) % 1000], rfl, Same.put eS hp, ?_, dg.snoc (mod1000 _).1 (mod1000 _).2, ?_⟩
            · rw [upd_same, snoc_int]
            · rw [List.length_append, List.length_singleton]
              omega
        · rintro σ H2 ⟨v, x4, ts, rfl, eS, hL, dg, hl⟩
          exact ⟨_, _, _, ts, rfl, eS, hL, dg, by simp at hl; omega⟩
    · rintro σ H' ⟨x2, x3, x4, ts, rfl, eS, hL, dg, hl⟩
      refine ⟨_, rfl, q H' p ts eS hp hL dg ?_⟩
      omega
theorem ok__law_at (T : Txt K mg a) : FnOk P w K mg base CX0 1 a.f__law_at a.d__law_at ["tape", "k"] (spAt K) := by
  refine T.F__law_at.ok sc__law_at (fun vs H Q E h => ?_) (fun cdv A outer s H vs Q E hr h => ?_)
  · obtain ⟨t, ts, k, rfl, _⟩ := h
    rfl
  · obtain ⟨t, ts, k, rfl, hS, hk, dg, q⟩ := h
    refine ⟨_, (pss_cons (ps_if (pt_cmpR (op_lt) (pv 1) (pe_callB call_len_seq (by rfl) T.b_len (by decide +kernel) (pa_cons (pv 0) pa_nil)) (nomark _)) (pss_one (ps_ret (pe_ix ix_list (pv 0) (pv 1) (fun _ _ => rfl)))) pss_nil)
    (pss_one (ps_ret pe_int))), ?_⟩
    refine ⟨_, rfl, _, rfl, t, _, rfl, .inl hS, _, _, rfl, rfl, _, rfl, ?_⟩
    refine ite2 (fun c => ?_) (fun c => ?_)
    · have hk2 : k.toNat < ts.length := by
        rw [List.length_map] at c
        have c2 := of_decide_eq_true c
        omega
      obtain ⟨h0, h1⟩ := dg ts[k.toNat] (List.getElem_mem _)
      refine ⟨_, rfl, _, rfl, t, _, _, .int ts[k.toNat], rfl, rfl, hS, at_of (j := k.toNat) (by omega) (by rw [List.getElem?_map, List.getElem?_eq_getElem hk2]; rfl), q _ h0 h1⟩
    · exact q 0 (by decide) (by decide)
end

section
variable {P : Program} {w : World} {K : PySem.W.Frag} {mg : Str → Option Value} {base : Heap} {a : Ad}
theorem ok_PageError_init (T : Txt K mg a) : FnOk P w K mg base CX0 1 a.f_PageError_init a.d_PageError_init ["self"] (spNop K) := by
  refine T.F_PageError_init.ok sc_PageError_init (fun vs H Q E h => ?_) (fun cdv A outer s H vs Q E hr h => ?_)
  · obtain ⟨x, C, rfl, _⟩ := h
    rfl
  · obtain ⟨x, C, rfl, hC, hx, q⟩ := h
    refine ⟨_, (pss_one (ps_expr (pe_veinit rfl T.b_ValueError T.vV (pa_cons (pv 0) pa_nil)))), ?_⟩
    exact ⟨_, rfl, x, C, [], rfl, Nat.zero_le _, hC, hx, q⟩

theorem ok_is_whole (T : Txt K mg a) : FnOk P w K mg base CX0 1 a.f_is_whole a.d_is_whole ["value"] (spWhole K) := by
  refine T.F_is_whole.ok sc_is_whole (fun vs H Q E h => ?_) (fun cdv A outer s H vs Q E hr h => ?_)
  · obtain ⟨v, d, rfl, _⟩ := h
    rfl
  · obtain ⟨v, d, rfl, hd, q⟩ := h
    refine ⟨_, (pss_one (ps_ret (pe_and (pe_callB call_isi (by rfl) T.b_isinstance (by decide +kernel) (pa_cons (pv 0) (pa_cons (pe_bltn (v := .ty "int") rfl T.b_int (by decide +kernel) rfl) pa_nil))) (pe_one (pe_not (pe_callB call_isi (by rfl) T.b_isinstance (by decide +kernel) (pa_cons (pv 0) (pa_cons (pe_bltn (v := .ty "bool") rfl T.b_bool (by decide +kernel) rfl) pa_nil)))))))), ?_⟩
    have ty := tyx hd
    refine ⟨_, rfl, _, _, _, _, _, rfl, .ty _, ty, kit_int d, _, rfl, ?_⟩
    cases d with
    | int i => exact iteT ⟨_, rfl, _, _, _, _, _, rfl, .ty _, ty, kit_bool _, _, rfl, q⟩
    | bool b => exact iteT ⟨_, rfl, _, _, _, _, _, rfl, .ty _, ty, kit_bool _, _, rfl, q⟩
    | none => exact iteF q
    | str x => exact iteF q
    | list xs => exact iteF q
    | tuple xs => exact iteF q
    | dict xs => exact iteF q
theorem ok_is_number_below (T : Txt K mg a) : FnOk P w K mg base CX0 2 a.f_is_number_below a.d_is_number_below ["value", "many"] (spBelow K) := by
  refine T.F_is_number_below.ok sc_is_number_below (fun vs H Q E h => ?_) (fun cdv A outer s H vs Q E hr h => ?_)
  · obtain ⟨v, d, n, rfl, _⟩ := h
    rfl
  · obtain ⟨v, d, n, rfl, hd, q⟩ := h
    refine ⟨_, (pss_one (ps_ret (pe_and (pe_call (ok_is_whole T) (hr.mono (by decide)) rfl T.m_is_whole T.F_is_whole.kp T.B_is_whole .nil pass0 (pa_cons (pv 0) pa_nil)) (pe_one (pe_chain (op_le) (op_lt) pe_int (pv 0) (pv 1)))))), ?_⟩
    refine ⟨_, rfl, _, d, rfl, hd, _, rfl, ?_⟩
    cases d with
    | int i =>
      cases hd
      refine iteT ⟨_, rfl, _, _, rfl, rfl, _, rfl, ?_⟩
      refine ite2 (fun c => ?_) (fun c => ?_)
      · refine ⟨_, rfl, _, _, rfl, rfl, ?_⟩
        have e : belowD (.int i) n = decide (i < n) := by simp only [belowD, c, Bool.true_and]
        rw [e] at q
        exact q
      · have e : belowD (.int i) n = false := by simp only [belowD, Bool.eq_false_iff.mpr c, Bool.false_and]
        rw [e] at q
        exact q
    | bool b => exact iteF q
    | none => exact iteF q
    | str x => exact iteF q
    | list xs => exact iteF q
    | tuple xs => exact iteF q
    | dict xs => exact iteF q

theorem ok_Owners__check (T : Txt K mg a) : FnOk P w K mg base (L2.CX P w) 4 a.f_Owners__check a.d_Owners__check ["self", "number"] (spCheck a.C_Owners a.C_NotValid) := by
  refine T.F_Owners__check.okX sc_Owners__check (fun vs H Q E h => ?_) (fun cdv A outer s H vs Q E hr h => ?_)
  · obtain ⟨o, dx, L, M, as, cs, hs, n, rfl, _⟩ := h
    rfl
  · obtain ⟨o, dx, L, M, as, cs, hs, n, rfl, hO, yes, no⟩ := h
    refine ⟨_, (pss_one (ps_if (pt_not (pt_val (pe_call (ok_is_number_below T) (hr.mono (by decide)) rfl T.m_is_number_below T.F_is_number_below.kp T.B_is_number_below .nil pass0 (pa_cons (pv 1) (pa_cons (pe_callB call_len_seq (by rfl) T.b_len (by decide +kernel) (pa_cons (pe_fld (pv 0) rfl) pa_nil)) pa_nil))))) (pss_one (ps_raise rfl (takes_of rfl rfl rfl rfl) (mk_exc0 T.x_NotValid T.xi_NotValid T.xt_NotValid (ok_PageError_init T) (hr.mono (by decide)) T.B_PageError_init pass0 rfl T.m_NotValid))) pss_nil)), ?_⟩
    have eL : ((as.map V.ref).length : Int) = (cs.length : Int) := by rw [List.length_map, hO.rows.len]
    refine ⟨_, rfl, _, rfl, o, _, dx, _, _, rfl, hO.ins, T.c_Owners, T.n_Owners__owners, rfl, L, _, rfl, .inl (SqL.of hO.own), _, .int n, _, rfl, .int n, _, rfl, ?_⟩
    rw [eL]
    by_cases c : inR n cs.length
    · have e : belowD (.int n) (cs.length : Int) = true := by simp only [belowD, decide_eq_true c.1, decide_eq_true c.2, Bool.and_self]
      rw [e]
      exact iteF (yes c)
    · have e : belowD (.int n) (cs.length : Int) = false := by
        simp only [belowD, Bool.and_eq_false_iff, decide_eq_false_iff_not]
        by_cases z : 0 ≤ n
        · exact .inr fun k => c ⟨z, k⟩
        · exact .inl z
      rw [e]
      refine iteT fun x hx => ⟨x, a.C_NotValid, rfl, T.x_NotValid, upd_same, rfl, upd_same, ?_⟩
      refine no c _ fun b2 u h2 => ?_
      have ne := ne_of_none h2 hx
      rw [del_ne ne, upd_ne ne]
      exact h2
theorem ok_Owners__is_free (T : Txt K mg a) : FnOk P w K mg base CX0 1 a.f_Owners__is_free a.d_Owners__is_free ["self", "number"] (spIsFree a.C_Owners) := by
  refine T.F_Owners__is_free.ok sc_Owners__is_free (fun vs H Q E h => ?_) (fun cdv A outer s H vs Q E hr h => ?_)
  · obtain ⟨o, dx, L, M, as, cs, hs, n, rfl, _⟩ := h
    rfl
  · obtain ⟨o, dx, L, M, as, cs, hs, n, rfl, hO, hn, q⟩ := h
    refine ⟨_, (pss_one (ps_ret (pe_and (pe_cmpR (op_eq) (pe_callB call_len_seq (by rfl) T.b_len (by decide +kernel) (pa_cons (pe_ix ix_list (pe_fld (pv 0) rfl) (pv 1) (fun _ _ => rfl)) pa_nil)) pe_int (nomark _)) (pe_one (pe_not (pe_ix ix_list (pe_fld (pv 0) rfl) (pv 1) (fun _ _ => rfl))))))), ?_⟩
    obtain ⟨p, h1, h2, h3, _, _⟩ := hO.row hn
    have hn2 : n < hs.length := by rw [hO.lenH]; exact hn
    rw [freeB_at hn hn2] at q
    refine ⟨_, rfl, o, _, dx, _, _, rfl, hO.ins, T.c_Owners, T.n_Owners__owners, rfl, _, rfl, L, _, _, _, rfl, rfl, SqL.of hO.own, at_nat h2, p, _, rfl, .inl (SqL.of h3), rfl, _, rfl, ?_⟩
    have e : decide (V.int (((cs[n].map wV).length : Nat) : Int) = V.int 0) = cs[n].isEmpty := by
      cases cs[n] <;> simp
      omega
    rw [e]
    cases e2 : cs[n].isEmpty with
    | false =>
      rw [e2, Bool.false_and] at q
      exact iteF q
    | true =>
      rw [e2, Bool.true_and] at q
      exact iteT ⟨_, rfl, o, _, dx, _, _, rfl, hO.ins, T.c_Owners, T.n_Owners__held, rfl, _, rfl, M, _, _, _, rfl, rfl, SqL.of hO.held, at_nat (hO.flag hn), _, rfl, q⟩
theorem ok_Owners_free (T : Txt K mg a) : FnOk P w K mg base CX0 2 a.f_Owners_free a.d_Owners_free ["self"] (spFree a.C_Owners) := by
  refine T.F_Owners_free.ok sc_Owners_free (fun vs H Q E h => ?_) (fun cdv A outer s H vs Q E hr h => ?_)
  · obtain ⟨o, dx, L, M, as, cs, hs, rfl, _⟩ := h
    rfl
  · obtain ⟨o, dx, L, M, as, cs, hs, rfl, hO, q⟩ := h
    refine ⟨_, (pss_one (ps_ret (pe_lc (own := [("number", 1)]) (g := gName 1) (tt := _) rfl sc_Owners_free.nd (pi_range1 rfl T.b_range (pa_cons (pe_callB call_len_seq (by rfl) T.b_len (by decide +kernel) (pa_cons (pe_fld (pv 0) rfl) pa_nil)) pa_nil)) (blkOk_by (own := [("number", 1)]) (N := ["self", "number"]) (sc := defScope s_Owners_free) (by decide +kernel)) (fun _ _ _ _ _ => (pg_name (i := 1) sc_Owners_free.nd rfl (Or.inl rfl))) (fun _ _ _ _ _ => (pts_one (pt_val (pe_meth (pv 0) T.c_Owners T.M_Owners__is_free (ok_Owners__is_free T) (hr.mono (by decide)) T.B_Owners__is_free .nil pass0 (pa_cons (pv 1) pa_nil))))) (fun _ _ _ _ _ => (pv 1))))), ?_⟩
    have eL : ((as.map V.ref).length : Int).toNat = cs.length := by rw [List.length_map, hO.rows.len]; simp
    have few := hO.few
    refine ⟨_, rfl, o, _, dx, _, _, rfl, hO.ins, T.c_Owners, T.n_Owners__owners, rfl, L, _, rfl, .inl (SqL.of hO.own), _, rfl, by rw [List.length_map, hO.rows.len]; omega, by rw [List.length_map, hO.rows.len]; omega, fun D hD => ?_⟩
    refine lc_range (lo := 0) (n := ((as.map V.ref).length : Int).toNat) (fun i H' => i ≤ cs.length ∧ Same H H' ∧ H' D = some (.lst (nInt ((List.range i).filter (freeB cs hs)))))
      ⟨Nat.zero_le _, Same.new hD, upd_same⟩ ?_ ?_
    · rintro i H' hi ⟨_, eS, eD⟩
      rw [eL] at hi
      refine ⟨rfl, _, rfl, o, dx, _, rfl, eS _ _ hO.ins, rfl, _, rfl, o, dx, L, M, as, cs, hs, i, by simp, hO.same eS, hi, _, rfl, ?_⟩
      cases e : freeB cs hs i with
      | false =>
        refine iteF ⟨hi, eS, ?_⟩
        rw [eD, List.range_succ, List.filter_append, List.filter_cons, if_neg (by rw [e]; decide), List.filter_nil, List.append_nil]
      | true =>
        refine iteT ⟨_, rfl, _, eD, ?_, hi, Same.put eS hD, ?_⟩
        · unfold nInt
          rw [List.length_map]
          refine Nat.lt_of_le_of_lt (Nat.le_trans (List.length_filter_le _ _) (by rw [List.length_range]; omega : (List.range i).length ≤ 100)) (by decide)
        · rw [upd_same, List.range_succ, List.filter_append, List.filter_cons, if_pos e, List.filter_nil]
          unfold nInt
          rw [List.map_append]
          simp
    · rintro H' ⟨_, eS, eD⟩
      rw [eL] at eD
      exact q H' D eS hD eD
theorem ok_Owners_in_hands (T : Txt K mg a) : FnOk P w K mg base CX0 2 a.f_Owners_in_hands a.d_Owners_in_hands ["self"] (spHands a.C_Owners) := by
  refine T.F_Owners_in_hands.ok sc_Owners_in_hands (fun vs H Q E h => ?_) (fun cdv A outer s H vs Q E hr h => ?_)
  · obtain ⟨o, dx, L, M, as, cs, hs, rfl, _⟩ := h
    rfl
  · obtain ⟨o, dx, L, M, as, cs, hs, rfl, hO, q⟩ := h
    refine ⟨_, (pss_one (ps_ret (pe_lc (own := [("number", 1), ("held", 2)]) (g := (gTup K 2 (gCons (gName 1) (gCons (gName 2) gNil)))) (tt := _) rfl sc_Owners_in_hands.nd (pi_enum (by rfl) T.b_enumerate (pa_cons (pe_fld (pv 0) rfl) pa_nil)) (blkOk_by (own := [("number", 1), ("held", 2)]) (N := ["self", "number", "held"]) (sc := defScope s_Owners_in_hands) (by decide +kernel)) (fun _ _ _ _ _ => (pg_tup rfl (pgs_cons (pg_name (i := 1) sc_Owners_in_hands.nd rfl (Or.inl rfl)) (pgs_cons (pg_name (i := 2) sc_Owners_in_hands.nd rfl (Or.inl rfl)) pgs_nil)))) (fun _ _ _ _ _ => (pts_one (pt_val (pv 2)))) (fun _ _ _ _ _ => (pv 1))))), ?_⟩
    have few := hO.few
    have lenH := hO.lenH
    refine ⟨_, rfl, o, _, dx, _, _, rfl, hO.ins, T.c_Owners, T.n_Owners__held, rfl, M, _, rfl, SqL.of hO.held, fun D hD => ?_⟩
    refine lc_enum (K := K) (a := M) (xs := hs.map V.bl) (fun i H' => ∃ G, H' = upd G D (.lst (nInt ((List.range i).filter fun n => hs[n]?.getD false))) ∧ Same H G ∧ G D = none)
      ⟨H, rfl, Same.refl H, hD⟩ (fun i H' _ ⟨G, e, eS, gD⟩ => by rw [e]; exact SqL.of ((Same.new gD) _ _ (eS _ _ hO.held))) ?_ ?_
    · rintro i x t H' hx ⟨G, rfl, eS, gD⟩ ht
      obtain ⟨b, hb, rfl⟩ := map_get hx
      have hi : i < hs.length := (List.getElem?_eq_some_iff.mp hb).1
      obtain ⟨eC, gt, gD2⟩ := new_under (o := .tup [.int (i : Nat), .bl b]) gD ht
      have eG : Same H (upd G t (.tup [.int (i : Nat), .bl b])) := eS.trans (Same.new gt)
      refine ⟨t, _, rfl, SqT.of upd_same, rfl, _, _, rfl, _, _, rfl, rfl, rfl, _, rfl, b, rfl, ?_⟩
      have e0 : (hs[i]?.getD false) = b := by rw [hb]; rfl
      cases b with
      | false =>
        refine iteF ⟨_, ?_, eG, gD2⟩
        rw [eC, List.range_succ, List.filter_append, List.filter_cons, if_neg (by rw [e0]; decide), List.filter_nil, List.append_nil]
      | true =>
        refine iteT ⟨_, rfl, _, by rw [eC]; exact upd_same, ?_, _, ?_, eG, gD2⟩
        · unfold nInt
          rw [List.length_map]
          refine Nat.lt_of_le_of_lt (Nat.le_trans (List.length_filter_le _ _) (by rw [List.length_range]; omega : (List.range i).length ≤ 100)) (by decide)
        · rw [eC, upd_upd, List.range_succ, List.filter_append, List.filter_cons, if_pos e0, List.filter_nil]
          unfold nInt
          rw [List.map_append]
          rfl
    · rintro H' ⟨G, rfl, eS, gD⟩
      rw [List.length_map]
      exact q _ D (eS.trans (Same.new gD)) hD upd_same
theorem ok_Owners_init (T : Txt K mg a) : FnOk P w K mg base CX0 1 a.f_Owners_init a.d_Owners_init ["self", "many"] (spOwnInit a.C_Owners) := by
  refine T.F_Owners_init.ok sc_Owners_init (fun vs H Q E h => ?_) (fun cdv A outer s H vs Q E hr h => ?_)
  · obtain ⟨o, dx, many, rfl, _⟩ := h
    rfl
  · obtain ⟨o, dx, many, rfl, ho, few, q⟩ := h
    refine ⟨_, (pss_cons (ps_fld (pv 0) (pe_lc (own := [("_", 2)]) (g := gName 2) (tt := tYes) rfl sc_Owners_init.nd (pi_range1 rfl T.b_range (pa_cons (pv 1) pa_nil)) (blkOk_by (own := [("_", 2)]) (N := ["self", "many", "_"]) (sc := defScope s_Owners_init) (by decide +kernel)) (fun _ _ _ _ _ => (pg_name (i := 2) sc_Owners_init.nd rfl (Or.inl rfl))) (fun _ _ _ _ _ => pts_nil) (fun _ _ _ _ _ => (pe_lst pa_nil))) rfl)
    (pss_one (ps_fld (pv 0) (pe_lc (own := [("_", 2)]) (g := gName 2) (tt := tYes) rfl sc_Owners_init.nd (pi_range1 rfl T.b_range (pa_cons (pv 1) pa_nil)) (blkOk_by (own := [("_", 2)]) (N := ["self", "many", "_"]) (sc := defScope s_Owners_init) (by decide +kernel)) (fun _ _ _ _ _ => (pg_name (i := 2) sc_Owners_init.nd rfl (Or.inl rfl))) (fun _ _ _ _ _ => pts_nil) (fun _ _ _ _ _ => pe_bl)) rfl))), ?_⟩
    refine ⟨_, rfl, _, rfl, by omega, by omega, fun L hL => ?_⟩
    refine lc_range (lo := 0) (n := ((many : Nat) : Int).toNat) (fun i H' => ∃ G as, H' = upd G L (.lst (as.map V.ref)) ∧ Same H G ∧ G L = none ∧ as.Nodup ∧ as.length = i ∧ i ≤ many ∧ ∀ p ∈ as, G p = some (.lst []) ∧ H p = none)
      ⟨H, [], rfl, Same.refl H, hL, List.nodup_nil, rfl, Nat.zero_le _, fun _ h => absurd h List.not_mem_nil⟩ ?_ ?_
    · rintro i H' hi ⟨G, as, rfl, eS, gL, nd, el, ei, hp⟩
      have hi2 : i < many := by simpa using hi
      refine ⟨rfl, Nat.zero_le _, fun p np => ?_⟩
      obtain ⟨eC, gp, gL2⟩ := new_under (o := .lst []) gL np
      have npa : p ∉ as := fun z => by rw [(hp p z).1] at gp; cases gp
      refine ⟨_, by rw [eC]; exact upd_same, ?_, upd G p (.lst []), as ++ [p], ?_, eS.trans (Same.new gp), gL2, ?_, ?_, hi2, ?_⟩
      · rw [List.length_map, el]
        exact Nat.lt_of_lt_of_le (by omega : i < 101) (by decide)
      · rw [eC, upd_upd, List.map_append]
        rfl
      · exact List.nodup_append.mpr ⟨nd, by simp, fun x hx y hy => by rw [List.mem_singleton.mp hy]; exact fun z => npa (z ▸ hx)⟩
      · rw [List.length_append, List.length_singleton, el]
      · intro x hx
        rcases List.mem_append.mp hx with hx | hx
        · have nx : x ≠ p := fun z => npa (z ▸ hx)
          exact ⟨(upd_ne nx).trans (hp x hx).1, (hp x hx).2⟩
        · rw [List.mem_singleton.mp hx]
          exact ⟨upd_same, eS.free gp⟩
    · rintro H' ⟨G, as, rfl, eS, gL, nd, el, _, hp⟩
      have el2 : as.length = many := by simpa using el
      have eS1 := eS.trans (Same.new (o := .lst (as.map V.ref)) gL)
      have noL : o ≠ L := ne_of_none ho hL
      refine ⟨_, rfl, o, a.C_Owners, dx, _, rfl, eS1 _ _ ho, T.c_Owners, T.n_Owners__owners, (by show 0 < 1000; decide), ?_⟩
      have h1 : SameBut o H (upd (upd G L (.lst (as.map V.ref))) o (.ins a.C_Owners dx [("_owners", .ref L)])) := (Same.but eS1).own
      have hL1 : upd (upd G L (.lst (as.map V.ref))) o (.ins a.C_Owners dx [("_owners", .ref L)]) L = some (.lst (as.map V.ref)) := (upd_ne (Ne.symm noL)).trans upd_same
      have hP1 : ∀ p ∈ as, upd (upd G L (.lst (as.map V.ref))) o (.ins a.C_Owners dx [("_owners", .ref L)]) p = some (.lst []) := fun p hpp => by
        have n1 : p ≠ o := fun z => by rw [z] at hpp; rw [(hp o hpp).2] at ho; cases ho
        have n2 : p ≠ L := fun z => by rw [z] at hpp; rw [(hp L hpp).1] at gL; cases gL
        rw [upd_ne n1, upd_ne n2]
        exact (hp p hpp).1
      have nLa : L ∉ as := fun z => by rw [(hp L z).1] at gL; cases gL
      have ho1 : upd (upd G L (.lst (as.map V.ref))) o (.ins a.C_Owners dx [("_owners", .ref L)]) o = some (.ins a.C_Owners dx [("_owners", .ref L)]) := upd_same
      refine ⟨_, rfl, _, rfl, by omega, by omega, fun M hM => ?_⟩
      refine lc_range (lo := 0) (n := ((many : Nat) : Int).toNat) (fun i H' => i ≤ many ∧ H' = upd (upd (upd G L (.lst (as.map V.ref))) o (.ins a.C_Owners dx [("_owners", .ref L)])) M (.lst ((List.replicate i false).map V.bl)))
        ⟨Nat.zero_le _, rfl⟩ ?_ ?_
      · rintro i H' hi ⟨_, rfl⟩
        have hi2 : i < many := by simpa using hi
        refine ⟨rfl, _, upd_same, ?_, hi2, ?_⟩
        · rw [List.length_map, List.length_replicate]
          exact Nat.lt_of_lt_of_le (by omega : i < 101) (by decide)
        · rw [upd_upd, List.replicate_succ', List.map_append]
          rfl
      · rintro H' ⟨_, rfl⟩
        change upd (upd G L (.lst (as.map V.ref))) o (.ins a.C_Owners dx [("_owners", .ref L)]) M = none at hM
        have hM0 : H M = none := by
          cases e : H M with
          | none => rfl
          | some u =>
            have nM : M ≠ o := fun z => by rw [z, ho1] at hM; cases hM
            rw [h1 M u nM e] at hM
            cases hM
        have noM : o ≠ M := fun z => by rw [← z, ho1] at hM; cases hM
        have nLM : L ≠ M := fun z => by rw [← z, hL1] at hM; cases hM
        have naM : ∀ p ∈ as, p ≠ M := fun p hp z => by rw [← z, hP1 p hp] at hM; cases hM
        refine ⟨_, rfl, o, a.C_Owners, dx, _, rfl, (upd_ne noM).trans ho1, T.c_Owners, T.n_Owners__held, (by show 1 < 1000; decide), ?_⟩
        refine q _ L M as (h1.trans (Same.but (Same.new hM))).own hL hM0 (fun p hpp => (hp p hpp).2) ⟨upd_same, ?_, ⟨?_, ?_, ?_⟩, ?_, ?_, ?_, ?_, ?_⟩
        · rw [upd_ne (Ne.symm noL), upd_ne nLM]
          exact hL1
        · rw [List.length_replicate]
          exact el2
        · intro j p c h1 h2
          have hpp := mem_of_get h1
          have ec : c = [] := by
            have := mem_of_get h2
            exact List.eq_of_mem_replicate this
          have n1 : p ≠ o := fun z => by rw [z] at hpp; rw [(hp o hpp).2] at ho; cases ho
          rw [upd_ne n1, upd_ne (naM p hpp), ec]
          exact hP1 p hpp
        · intro c hc
          rw [List.eq_of_mem_replicate hc]
          exact fun _ h => absurd h List.not_mem_nil
        · rw [upd_ne (Ne.symm noM), upd_same]
          simp
        · simp
        · exact List.nodup_cons.mpr ⟨fun z => (List.mem_cons.mp z).elim nLM nLa, List.nodup_cons.mpr ⟨fun z => naM M z rfl, nd⟩⟩
        · rw [List.length_replicate]
          exact few
        · intro c hc
          rw [List.eq_of_mem_replicate hc]
          exact Nat.zero_le _

theorem ok_Owners_take (T : Txt K mg a) : FnOk P w K mg base CX0 3 a.f_Owners_take a.d_Owners_take ["self"] (spTake a.C_Owners) := by
  refine T.F_Owners_take.ok sc_Owners_take (fun vs H Q E h => ?_) (fun cdv A outer s H vs Q E hr h => ?_)
  · obtain ⟨o, dx, L, M, as, cs, hs, rfl, _⟩ := h
    rfl
  · obtain ⟨o, dx, L, M, as, cs, hs, rfl, hO, q0, q1⟩ := h
    refine ⟨_, (pss_cons (ps_set (i := 1) sc_Owners_take.nd rfl (Or.inl rfl) (pe_meth0 (pv 0) T.c_Owners T.M_Owners_free (ok_Owners_free T) (hr.mono (by decide)) T.B_Owners_free .nil pass0))
    (pss_cons (ps_if (pt_cmpR (op_eq) (pe_callB call_len_seq (by rfl) T.b_len (by decide +kernel) (pa_cons (pv 1) pa_nil)) pe_int (nomark _)) (pss_one (ps_ret pe_non)) pss_nil)
    (pss_cons (ps_asg pe_bl (pg_sub (pe_fld (pv 0) rfl) (pe_ix ix_list (pv 1) pe_int (fun _ _ => rfl)) set_list))
    (pss_one (ps_ret (pe_ix ix_list (pv 1) pe_int (fun _ _ => rfl))))))), ?_⟩
    refine ⟨_, rfl, o, dx, _, rfl, hO.ins, rfl, o, dx, L, M, as, cs, hs, rfl, hO, fun H1 p e1 _ hp => ?_⟩
    refine ⟨_, rfl, p, _, rfl, .inl (SqL.of hp), rfl, _, rfl, ?_⟩
    cases ef : freeL cs hs with
    | nil => exact iteT (q0 (by rw [ef]; rfl) H1 e1)
    | cons j r =>
      refine iteF ?_
      have hO1 := hO.same e1
      rw [ef] at hp
      have hj : j < cs.length := by
        have : j ∈ freeL cs hs := by rw [ef]; exact List.mem_cons_self ..
        exact List.mem_range.mp (List.mem_filter.mp this).1
      have ix : ixN (hs.map V.bl).length ((j : Nat) : Int) = some j := ixN_nat (by rw [List.length_map, hO.lenH]; exact hj)
      refine ⟨_, rfl, o, _, dx, _, _, rfl, hO1.ins, T.c_Owners, T.n_Owners__held, rfl, _, rfl, p, _, _, _, rfl, rfl, SqL.of hp, at_of (j := 0) rfl rfl, M, _, _, j, rfl, rfl, hO1.held, ix, ?_⟩
      have nM := hO.nd
      have hO2 := hO1.setH j true
      have eq : (hs.map V.bl).set j (.bl true) = (hs.set j true).map V.bl := (List.map_set ..).symm
      rw [eq]
      have hp2 : upd H1 M (.lst ((hs.set j true).map V.bl)) p = some (.lst (nInt (j :: r))) := by
        by_cases z : p = M
        · exfalso
          rw [z, hO1.held] at hp
          have := congrArg (fun o => match o with | some (HO.lst (x :: _)) => x | _ => V.non) hp
          have h0 : hs.length ≠ 0 := by rw [hO.lenH]; omega
          cases hs with
          | nil => exact h0 rfl
          | cons b hs => simp [nInt] at this
        · rw [upd_ne z]
          exact hp
      exact ⟨_, rfl, p, _, _, _, rfl, rfl, SqL.of hp2, at_of (j := 0) rfl rfl, q1 j (by rw [ef]; rfl) _ ((Keep.same e1).trans (Keep.put (by simp))) ((KT.of e1).trans (KT.lst hO1.held)) hO2⟩
theorem ok_Owners_give_back (T : Txt K mg a) : FnOk P w K mg base (L2.CX P w) 5 a.f_Owners_give_back a.d_Owners_give_back ["self", "number"] (spGive a.C_Owners a.C_NotValid) := by
  refine T.F_Owners_give_back.okX sc_Owners_give_back (fun vs H Q E h => ?_) (fun cdv A outer s H vs Q E hr h => ?_)
  · obtain ⟨o, dx, L, M, as, cs, hs, n, rfl, _⟩ := h
    rfl
  · obtain ⟨o, dx, L, M, as, cs, hs, n, rfl, hO, yes, no⟩ := h
    refine ⟨_, (pss_cons (ps_expr (pe_methW (pv 0) T.c_Owners T.M_Owners__check (ok_Owners__check T) (hr.mono (by decide)) T.B_Owners__check (fun σ => passAt (takes_of rfl rfl rfl rfl) σ) (pa_cons (pv 1) pa_nil)))
    (pss_cons (ps_if (pt_not (pt_val (pe_ix ix_list (pe_fld (pv 0) rfl) (pv 1) (fun _ _ => rfl)))) (pss_one (ps_raise rfl (takes_of rfl rfl rfl rfl) (mk_exc0 T.x_NotValid T.xi_NotValid T.xt_NotValid (ok_PageError_init T) (hr.mono (by decide)) T.B_PageError_init pass0 rfl T.m_NotValid))) pss_nil)
    (pss_one (ps_asg pe_bl (pg_sub (pe_fld (pv 0) rfl) (pv 1) set_list))))), ?_⟩
    refine ⟨_, rfl, o, dx, _, rfl, hO.ins, rfl, _, rfl, o, dx, L, M, as, cs, hs, n, rfl, hO, fun hin => ?_, fun hout H1 e1 => no (fun j ej z => hout ⟨by omega, by
      have := (List.getElem?_eq_some_iff.mp z).1
      rw [hO.lenH] at this
      omega⟩) H1 e1⟩
    obtain ⟨j, ej⟩ : ∃ j : Nat, n = (j : Int) := ⟨n.toNat, by have := hin.1; omega⟩
    subst ej
    have hj : j < cs.length := by have := hin.2; omega
    have hj2 : j < hs.length := by rw [hO.lenH]; exact hj
    refine ⟨_, rfl, o, _, dx, _, _, rfl, hO.ins, T.c_Owners, T.n_Owners__held, rfl, _, rfl, M, _, _, _, rfl, rfl, SqL.of hO.held, at_nat (hO.flag hj), _, rfl, ?_⟩
    cases e : hs[j] with
    | false =>
      refine iteT fun x hx => ⟨x, a.C_NotValid, rfl, T.x_NotValid, upd_same, rfl, upd_same, ?_⟩
      refine no (fun i ei z => ?_) _ fun b2 u h2 => ?_
      · have : i = j := by omega
        subst this
        rw [List.getElem?_eq_getElem hj2, e] at z
        cases z
      · have ne := ne_of_none h2 hx
        rw [del_ne ne, upd_ne ne]
        exact h2
    | true =>
      have ix : ixN (hs.map V.bl).length ((j : Nat) : Int) = some j := ixN_nat (by rw [List.length_map]; exact hj2)
      refine iteF ⟨_, rfl, o, _, dx, _, _, rfl, hO.ins, T.c_Owners, T.n_Owners__held, rfl, _, rfl, M, _, _, j, rfl, rfl, hO.held, ix, ?_⟩
      have eq : (hs.map V.bl).set j (.bl false) = (hs.set j false).map V.bl := (List.map_set ..).symm
      rw [eq]
      exact yes j rfl (by rw [List.getElem?_eq_getElem hj2, e]) _ (Keep.put (by simp)) (KT.lst hO.held) (hO.setH j false)
theorem ok_Owners_hold (T : Txt K mg a) : FnOk P w K mg base (L2.CX P w) 5 a.f_Owners_hold a.d_Owners_hold ["self", "number"] (spHold a.C_Owners a.C_NotValid) := by
  refine T.F_Owners_hold.okX sc_Owners_hold (fun vs H Q E h => ?_) (fun cdv A outer s H vs Q E hr h => ?_)
  · obtain ⟨o, dx, L, M, as, cs, hs, n, rfl, _⟩ := h
    rfl
  · obtain ⟨o, dx, L, M, as, cs, hs, n, rfl, hO, yes, no⟩ := h
    refine ⟨_, (pss_cons (ps_expr (pe_methW (pv 0) T.c_Owners T.M_Owners__check (ok_Owners__check T) (hr.mono (by decide)) T.B_Owners__check (fun σ => passAt (takes_of rfl rfl rfl rfl) σ) (pa_cons (pv 1) pa_nil)))
    (pss_cons (ps_if (pt_not (pt_val (pe_meth (pv 0) T.c_Owners T.M_Owners__is_free (ok_Owners__is_free T) (hr.mono (by decide)) T.B_Owners__is_free .nil pass0 (pa_cons (pv 1) pa_nil)))) (pss_one (ps_raise rfl (takes_of rfl rfl rfl rfl) (mk_exc0 T.x_NotValid T.xi_NotValid T.xt_NotValid (ok_PageError_init T) (hr.mono (by decide)) T.B_PageError_init pass0 rfl T.m_NotValid))) pss_nil)
    (pss_one (ps_asg pe_bl (pg_sub (pe_fld (pv 0) rfl) (pv 1) set_list))))), ?_⟩
    have out : ∀ j : Nat, ¬ j < cs.length → freeB cs hs j = false := fun j hj => by
      unfold freeB
      rw [List.getElem?_eq_none (by omega)]
    refine ⟨_, rfl, o, dx, _, rfl, hO.ins, rfl, _, rfl, o, dx, L, M, as, cs, hs, n, rfl, hO, fun hin => ?_, fun hout H1 e1 => no (fun j ej => out j fun z => hout ⟨by omega, by omega⟩) H1 e1⟩
    obtain ⟨j, ej⟩ : ∃ j : Nat, n = (j : Int) := ⟨n.toNat, by have := hin.1; omega⟩
    subst ej
    have hj : j < cs.length := by have := hin.2; omega
    have hj2 : j < hs.length := by rw [hO.lenH]; exact hj
    refine ⟨_, rfl, o, dx, _, rfl, hO.ins, rfl, _, rfl, o, dx, L, M, as, cs, hs, j, rfl, hO, hj, _, rfl, ?_⟩
    cases e : freeB cs hs j with
    | false =>
      refine iteT fun x hx => ⟨x, a.C_NotValid, rfl, T.x_NotValid, upd_same, rfl, upd_same, ?_⟩
      refine no (fun i ei => ?_) _ fun b2 u h2 => ?_
      · have : i = j := by omega
        subst this
        exact e
      · have ne := ne_of_none h2 hx
        rw [del_ne ne, upd_ne ne]
        exact h2
    | true =>
      have ix : ixN (hs.map V.bl).length ((j : Nat) : Int) = some j := ixN_nat (by rw [List.length_map]; exact hj2)
      refine iteF ⟨_, rfl, o, _, dx, _, _, rfl, hO.ins, T.c_Owners, T.n_Owners__held, rfl, _, rfl, M, _, _, j, rfl, rfl, hO.held, ix, ?_⟩
      have eq : (hs.map V.bl).set j (.bl true) = (hs.set j true).map V.bl := (List.map_set ..).symm
      rw [eq]
      exact yes j rfl e _ (Keep.put (by simp)) (KT.lst hO.held) (hO.setH j true)
theorem ok_Owners_place_of (T : Txt K mg a) : FnOk P w K mg base CX0 1 a.f_Owners_place_of a.d_Owners_place_of ["self", "owner"] (spPlaceOf K a.C_Owners) := by
  refine T.F_Owners_place_of.ok sc_Owners_place_of (fun vs H Q E h => ?_) (fun cdv A outer s H vs Q E hr h => ?_)
  · obtain ⟨o, dx, L, M, as, cs, hs, t, ow, rfl, _⟩ := h
    rfl
  · obtain ⟨o, dx, L, M, as, cs, hs, t, ow, rfl, hO, ht, q⟩ := h
    refine ⟨_, (pss_cons (ps_for PassesOwn.never rfl (pi_enum (by rfl) T.b_enumerate (pa_cons (pe_fld (pv 0) rfl) pa_nil)) (pg_tup rfl (pgs_cons (pg_name (i := 2) sc_Owners_place_of.nd rfl (Or.inl rfl)) (pgs_cons (pg_name (i := 3) sc_Owners_place_of.nd rfl (Or.inl rfl)) pgs_nil)))
    (pss_one (ps_if (pt_cmpR (op_inD (hu65 hr)) (pv 1) (pv 3) rfl) (pss_one (ps_ret (pv 2))) pss_nil)))
    (pss_one (ps_ret pe_non))), ?_⟩
    have lenA := hO.rows.len
    refine ⟨_, rfl, o, _, dx, _, _, rfl, hO.ins, T.c_Owners, T.n_Owners__owners, rfl, L, _, rfl, SqL.of hO.own, ?_⟩
    refine for_enum (K := K) (a := L) (xs := as.map V.ref) (fun i σ H' => ∃ x2 x3, σ = [some (.ref o), some (.ref t), x2, x3] ∧ Same H H' ∧ ∀ c ∈ cs.take i, owns ow c = false)
      ⟨none, none, rfl, Same.refl H, fun _ h => absurd h (by simp)⟩ (fun i σ H' ⟨_, _, _, e, _⟩ => SqL.of (e _ _ hO.own)) ?_ ?_
    · rintro i x tp σ H' hx ⟨x2, x3, rfl, eS, hn⟩ htp
      obtain ⟨p, hp, rfl⟩ := map_get hx
      have hi : i < cs.length := by rw [← lenA]; exact (List.getElem?_eq_some_iff.mp hp).1
      have eS2 := eS.trans (Same.new (o := .tup [.int (i : Nat), .ref p]) htp)
      have hO2 := hO.same eS2
      obtain ⟨p2, h1, h2, h3, h4, _⟩ := hO2.row hi
      rw [hp] at h1
      cases h1
      refine ⟨tp, _, rfl, SqT.of upd_same, rfl, _, _, rfl, _, _, rfl, rfl, ?_⟩
      refine ⟨_, rfl, _, rfl, oD ow, _, o_dp (eS2 _ _ ht), .lst (SqL.of h3) h4.dp, (shO ow).ok, (shOs _).ok, _, rfl, ?_⟩
      rw [any_oD]
      cases e : decide (ow ∈ cs[i].map Prod.snd) with
      | true =>
        refine iteT ⟨_, rfl, ?_⟩
        have := q _ eS2
        have ep : placeM cs ow = some i := by
          unfold placeM
          rw [List.findIdx?_eq_some_iff_getElem]
          refine ⟨hi, e, fun k hk => ?_⟩
          have hm : cs[k] ∈ cs.take i := by
            rw [List.mem_take_iff_getElem]
            exact ⟨k, by omega, rfl⟩
          simp [hn _ hm]
        rw [ep] at this
        exact this
      | false =>
        refine iteF ⟨_, _, rfl, eS2, fun c hc => ?_⟩
        rw [take_snoc (List.getElem?_eq_getElem hi)] at hc
        rcases List.mem_append.mp hc with hc | hc
        · exact hn c hc
        · rw [List.mem_singleton.mp hc]
          exact e
    · rintro σ H' ⟨x2, x3, rfl, eS, hn⟩
      have := q H' eS
      have ep : placeM cs ow = none := by
        unfold placeM
        rw [List.findIdx?_eq_none_iff]
        intro c hc
        refine hn c ?_
        rw [List.length_map, lenA, List.take_length]
        exact hc
      rw [ep] at this
      exact this
theorem ok_Owners_owners (T : Txt K mg a) : FnOk P w K mg base (L2.CX P w) 5 a.f_Owners_owners a.d_Owners_owners ["self", "number"] (spOwnersOf a.C_Owners a.C_NotValid) := by
  refine T.F_Owners_owners.okX sc_Owners_owners (fun vs H Q E h => ?_) (fun cdv A outer s H vs Q E hr h => ?_)
  · obtain ⟨o, dx, L, M, as, cs, hs, n, rfl, _⟩ := h
    rfl
  · obtain ⟨o, dx, L, M, as, cs, hs, n, rfl, hO, yes, no⟩ := h
    refine ⟨_, (pss_cons (ps_expr (pe_methW (pv 0) T.c_Owners T.M_Owners__check (ok_Owners__check T) (hr.mono (by decide)) T.B_Owners__check (fun σ => passAt (takes_of rfl rfl rfl rfl) σ) (pa_cons (pv 1) pa_nil)))
    (pss_one (ps_ret (pe_callTy call_list_of (by rfl) T.b_list (by decide +kernel) (pa_cons (pe_ix ix_list (pe_fld (pv 0) rfl) (pv 1) (fun _ _ => rfl)) pa_nil))))), ?_⟩
    refine ⟨_, rfl, o, dx, _, rfl, hO.ins, rfl, _, rfl, o, dx, L, M, as, cs, hs, n, rfl, hO, fun hin => ?_, fun hout H1 e1 => no hout H1 e1⟩
    obtain ⟨j, ej⟩ : ∃ j : Nat, n = (j : Int) := ⟨n.toNat, by have := hin.1; omega⟩
    subst ej
    have hj : j < cs.length := by have := hin.2; omega
    obtain ⟨p, h1, h2, h3, h4, _⟩ := hO.row hj
    exact ⟨_, rfl, o, _, dx, _, _, rfl, hO.ins, T.c_Owners, T.n_Owners__owners, rfl, _, rfl, L, _, _, _, rfl, rfl, SqL.of hO.own, at_nat h2, p, _, rfl, .inl (SqL.of h3), yes j rfl _ (List.getElem?_eq_getElem hj)⟩
theorem ok_Owners_add (T : Txt K mg a) : FnOk P w K mg base (L2.CX P w) 5 a.f_Owners_add a.d_Owners_add ["self", "number", "owner"] (spAdd K a.C_Owners a.C_NotValid) := by
  refine T.F_Owners_add.okX sc_Owners_add (fun vs H Q E h => ?_) (fun cdv A outer s H vs Q E hr h => ?_)
  · obtain ⟨o, dx, L, M, as, cs, hs, n, t, ow, rfl, _⟩ := h
    rfl
  · obtain ⟨o, dx, L, M, as, cs, hs, n, t, ow, rfl, hO, ht, thin, yes, no⟩ := h
    refine ⟨_, (pss_cons (ps_expr (pe_methW (pv 0) T.c_Owners T.M_Owners__check (ok_Owners__check T) (hr.mono (by decide)) T.B_Owners__check (fun σ => passAt (takes_of rfl rfl rfl rfl) σ) (pa_cons (pv 1) pa_nil)))
    (pss_cons (ps_if (PW.pt (pw_or (pt_val (pe_meth (pv 0) T.c_Owners T.M_Owners__is_free (ok_Owners__is_free T) (hr.mono (by decide)) T.B_Owners__is_free .nil pass0 (pa_cons (pv 1) pa_nil))) (pw_or1 (pt_cmpR (op_notN) (pe_meth (pv 0) T.c_Owners T.M_Owners_place_of (ok_Owners_place_of T) (hr.mono (by decide)) T.B_Owners_place_of .nil pass0 (pa_cons (pv 2) pa_nil)) pe_non (by rfl))))) (pss_one (ps_raise rfl (takes_of rfl rfl rfl rfl) (mk_exc0 T.x_NotValid T.xi_NotValid T.xt_NotValid (ok_PageError_init T) (hr.mono (by decide)) T.B_PageError_init pass0 rfl T.m_NotValid))) pss_nil)
    (pss_cons (ps_expr (pe_bm PySem.F.plainAttrs_list PySem.F.slot_list_append PySem.F.type_list_append mt_append (pe_ix ix_list (pe_fld (pv 0) rfl) (pv 1) (fun _ _ => rfl)) (pa_cons (pv 2) pa_nil)))
    (pss_one (ps_asg pe_bl (pg_sub (pe_fld (pv 0) rfl) (pv 1) set_list)))))), ?_⟩
    refine ⟨_, rfl, o, dx, _, rfl, hO.ins, rfl, _, rfl, o, dx, L, M, as, cs, hs, n, rfl, hO, fun hin => ?_, fun hout H1 e1 => no (fun j ej hj => absurd ⟨by omega, by omega⟩ hout) H1 e1⟩
    obtain ⟨j, ej⟩ : ∃ j : Nat, n = (j : Int) := ⟨n.toNat, by have := hin.1; omega⟩
    subst ej
    have hj : j < cs.length := by have := hin.2; omega
    have hj2 : j < hs.length := by rw [hO.lenH]; exact hj
    have bad : freeB cs hs j = true ∨ placeM cs ow ≠ none → ∀ H1, Same H H1 → ∀ x : Addr, H1 x = none → E (.ref a.C_NotValid) none (del (upd H1 x (exo x a.C_NotValid none)) x) := fun k H1 e1 x hx => no (fun i ei _ => by
      have : i = j := by omega
      subst this
      exact k) _ fun b2 u h2 => by
        have ne := ne_of_none (e1 _ _ h2) hx
        rw [del_ne ne, upd_ne ne]
        exact e1 _ _ h2
    refine ⟨_, rfl, o, dx, _, rfl, hO.ins, rfl, _, rfl, o, dx, L, M, as, cs, hs, j, rfl, hO, hj, _, rfl, ?_⟩
    cases e : freeB cs hs j with
    | true => exact iteT (iteT fun x hx => ⟨x, a.C_NotValid, rfl, T.x_NotValid, upd_same, rfl, upd_same, bad (.inl e) H (Same.refl H) x hx⟩)
    | false =>
      refine iteF ⟨_, rfl, o, dx, _, rfl, hO.ins, rfl, _, rfl, o, dx, L, M, as, cs, hs, t, ow, rfl, hO, ht, fun H1 e1 => ?_⟩
      refine ⟨rfl, _, rfl, ?_⟩
      cases ep : placeM cs ow with
      | some i => exact iteT fun x hx => ⟨x, a.C_NotValid, rfl, T.x_NotValid, upd_same, rfl, upd_same, bad (.inr (by rw [ep]; exact fun z => nomatch z)) H1 e1 x hx⟩
      | none =>
        have hO1 := hO.same e1
        obtain ⟨p, h1, h2, h3, h4, pm⟩ := hO1.row hj
        refine iteF ⟨_, rfl, o, _, dx, _, _, rfl, hO1.ins, T.c_Owners, T.n_Owners__owners, rfl, _, rfl, L, _, _, _, rfl, rfl, SqL.of hO1.own, at_nat h2, .inl ⟨rfl, _, SqL.of h3⟩, _, rfl, p, _, _, rfl, rfl, h3, ?_, ?_⟩
        · rw [List.length_map]
          exact Nat.lt_of_le_of_lt (thin _ (List.getElem_mem hj)) (by decide)
        · have eA : cs[j].map wV ++ [V.ref t] = (cs[j] ++ [(t, ow)]).map wV := by rw [List.map_append]; rfl
          rw [eA]
          have ho2 : OAll H1 (cs[j] ++ [(t, ow)]) := fun z hz => by
            rcases List.mem_append.mp hz with hz | hz
            · exact h4 z hz
            · rw [List.mem_singleton.mp hz]
              exact e1 _ _ ht
          have hO2 := hO1.setR h1 ho2 (by rw [List.length_append, List.length_singleton]; have := thin _ (List.getElem_mem hj); omega)
          have kt2 : KT H1 (upd H1 p (.lst ((cs[j] ++ [(t, ow)]).map wV))) := KT.lst h3
          have kp2 : Keep (M :: as) H1 (upd H1 p (.lst ((cs[j] ++ [(t, ow)]).map wV))) := Keep.put (List.mem_cons_of_mem _ pm)
          generalize upd H1 p (.lst ((cs[j] ++ [(t, ow)]).map wV)) = H2 at hO2 kt2 kp2 ⊢
          have ix : ixN (hs.map V.bl).length ((j : Nat) : Int) = some j := ixN_nat (by rw [List.length_map]; exact hj2)
          refine ⟨_, rfl, o, _, dx, _, _, rfl, hO2.ins, T.c_Owners, T.n_Owners__held, rfl, _, rfl, M, _, _, j, rfl, rfl, hO2.held, ix, ?_⟩
          have eq : (hs.map V.bl).set j (.bl false) = (hs.set j false).map V.bl := (List.map_set ..).symm
          rw [eq]
          exact yes j rfl _ (List.getElem?_eq_getElem hj) e ep _ (((Keep.same e1).trans kp2).trans (Keep.put (by simp))) (((KT.of e1).trans kt2).trans (KT.lst hO2.held)) (hO2.setH j false)
theorem ok_Owners_remove (T : Txt K mg a) : FnOk P w K mg base (L2.CX P w) 5 a.f_Owners_remove a.d_Owners_remove ["self", "number", "owner"] (spRemove K a.C_Owners a.C_NotValid) := by
  refine T.F_Owners_remove.okX sc_Owners_remove (fun vs H Q E h => ?_) (fun cdv A outer s H vs Q E hr h => ?_)
  · obtain ⟨o, dx, L, M, as, cs, hs, n, t, ow, rfl, _⟩ := h
    rfl
  · obtain ⟨o, dx, L, M, as, cs, hs, n, t, ow, rfl, hO, ht, yes, no⟩ := h
    refine ⟨_, (pss_cons (ps_expr (pe_methW (pv 0) T.c_Owners T.M_Owners__check (ok_Owners__check T) (hr.mono (by decide)) T.B_Owners__check (fun σ => passAt (takes_of rfl rfl rfl rfl) σ) (pa_cons (pv 1) pa_nil)))
    (pss_cons (ps_if (pt_cmpR (op_notInD (hu65 hr)) (pv 2) (pe_ix ix_list (pe_fld (pv 0) rfl) (pv 1) (fun _ _ => rfl)) rfl) (pss_one (ps_raise rfl (takes_of rfl rfl rfl rfl) (mk_exc0 T.x_NotValid T.xi_NotValid T.xt_NotValid (ok_PageError_init T) (hr.mono (by decide)) T.B_PageError_init pass0 rfl T.m_NotValid))) pss_nil)
    (pss_one (ps_expr (pe_bm PySem.F.plainAttrs_list PySem.F.slot_list_remove PySem.F.type_list_remove (mt_removeD (hu65 hr)) (pe_ix ix_list (pe_fld (pv 0) rfl) (pv 1) (fun _ _ => rfl)) (pa_cons (pv 2) pa_nil)))))), ?_⟩
    refine ⟨_, rfl, o, dx, _, rfl, hO.ins, rfl, _, rfl, o, dx, L, M, as, cs, hs, n, rfl, hO, fun hin => ?_, fun hout H1 e1 => no (fun j ej c hc => absurd ⟨by omega, by have := (List.getElem?_eq_some_iff.mp hc).1; omega⟩ hout) H1 e1⟩
    obtain ⟨j, ej⟩ : ∃ j : Nat, n = (j : Int) := ⟨n.toNat, by have := hin.1; omega⟩
    subst ej
    have hj : j < cs.length := by have := hin.2; omega
    obtain ⟨p, h1, h2, h3, h4, pm⟩ := hO.row hj
    refine ⟨_, rfl, _, rfl, o, _, dx, _, _, rfl, hO.ins, T.c_Owners, T.n_Owners__owners, rfl, _, rfl, L, _, _, _, rfl, rfl, SqL.of hO.own, at_nat h2, oD ow, _, o_dp ht, .lst (SqL.of h3) h4.dp, (shO ow).ok, (shOs _).ok, _, rfl, ?_⟩
    rw [any_oD]
    cases e : decide (ow ∈ cs[j].map Prod.snd) with
    | false =>
      refine iteT fun x hx => ⟨x, a.C_NotValid, rfl, T.x_NotValid, upd_same, rfl, upd_same, ?_⟩
      refine no (fun i ei c hc => ?_) _ fun b2 u h2 => ?_
      · have : i = j := by omega
        subst this
        rw [List.getElem?_eq_getElem hj] at hc
        cases hc
        exact e
      · have ne := ne_of_none h2 hx
        rw [del_ne ne, upd_ne ne]
        exact h2
    | true =>
      obtain ⟨i, hi⟩ := at_ow (of_decide_eq_true e)
      obtain ⟨g1, g2, g3⟩ := at_ow_spec hi
      refine iteF ⟨_, rfl, o, _, dx, _, _, rfl, hO.ins, T.c_Owners, T.n_Owners__owners, rfl, _, rfl, L, _, _, _, rfl, rfl, SqL.of hO.own, at_nat h2, .inl ⟨rfl, _, SqL.of h3⟩, _, rfl, p, _, _, oD ow, _, i, oD ow, rfl, rfl, h3, h4.dp, o_dp ht, (shOs _).ok, (shO ow).ok, g1, (by rw [eqv_oD]; simp), g2, ?_⟩
      have eE : (cs[j].map wV).eraseIdx i = (cs[j].eraseIdx i).map wV := g3 wV
      rw [eE]
      exact yes j rfl _ (List.getElem?_eq_getElem hj) i hi _ (Keep.put (List.mem_cons_of_mem _ pm)) (KT.lst h3) (hO.setR h1 (fun z hz => h4 z (List.mem_of_mem_eraseIdx hz)) (Nat.le_trans (List.length_eraseIdx_le _ _) (hO.thin _ (List.getElem_mem hj))))

theorem ok_Hand_init (T : Txt K mg a) : FnOk P w K mg base CX0 1 a.f_Hand_init a.d_Hand_init ["self", "many"] (spHandInit a.C_Hand) := by
  refine T.F_Hand_init.ok sc_Hand_init (fun vs H Q E h => ?_) (fun cdv A outer s H vs Q E hr h => ?_)
  · obtain ⟨o, dx, many, rfl, _⟩ := h
    rfl
  · obtain ⟨o, dx, many, rfl, ho, q⟩ := h
    refine ⟨_, (pss_cons (ps_fld (pv 0) (pv 1) rfl)
    (pss_one (ps_fld (pv 0) pe_int rfl))), ?_⟩
    have s0 : SameBut o H H := fun _ _ _ h => h
    refine ⟨_, rfl, _, rfl, o, a.C_Hand, dx, _, rfl, ho, T.c_Hand, T.n_Hand__many, (by show 0 < 1000; decide), ?_⟩
    have s1 := s0.own (o := .ins a.C_Hand dx [("_many", .int (many : Nat))])
    refine ⟨_, rfl, o, a.C_Hand, dx, _, rfl, upd_same, T.c_Hand, T.n_Hand__frame, (by show 1 < 1000; decide), ?_⟩
    exact q _ s1.own ⟨upd_same⟩
theorem ok_Hand_points_to (T : Txt K mg a) : FnOk P w K mg base CX0 1 a.f_Hand_points_to a.d_Hand_points_to ["self"] (spPoints a.C_Hand) := by
  refine T.F_Hand_points_to.ok sc_Hand_points_to (fun vs H Q E h => ?_) (fun cdv A outer s H vs Q E hr h => ?_)
  · obtain ⟨o, dx, many, pl, rfl, _⟩ := h
    rfl
  · obtain ⟨o, dx, many, pl, rfl, ho, q⟩ := h
    refine ⟨_, (pss_one (ps_ret (pe_fld (pv 0) rfl))), ?_⟩
    exact ⟨_, rfl, o, _, dx, _, _, rfl, ho.ins, T.c_Hand, T.n_Hand__frame, rfl, q⟩
theorem ok_Hand_victim (T : Txt K mg a) : FnOk P w K mg base CX0 6 a.f_Hand_victim a.d_Hand_victim ["self", "owners", "passed_over"] (spVictim K a.C_Owners a.C_Hand) := by
  refine T.F_Hand_victim.ok sc_Hand_victim (fun vs H Q E h => ?_) (fun cdv A outer s H vs Q E hr h => ?_)
  · obtain ⟨h, hx, o, dx, L, M, r, as, cs, hs, pl, ps, rfl, _⟩ := h
    rfl
  · obtain ⟨h, hx, o, dx, L, M, r, as, cs, hs, pl, ps, rfl, hO, hH, hP, lp, pl0, q0, q1⟩ := h
    refine ⟨_, (pss_cons (ps_for PassesOwn.never rfl (pi_range1 rfl T.b_range (pa_cons (pe_fld (pv 0) rfl) pa_nil)) (pg_name (i := 3) sc_Hand_victim.nd rfl (Or.inl rfl))
    (pss_cons (ps_set (i := 4) sc_Hand_victim.nd rfl (Or.inl rfl) (pe_op op_mod (pe_op op_add (pe_fld (pv 0) rfl) (pv 3)) (pe_fld (pv 0) rfl)))
    (pss_one (ps_if (PW.pt (pw_and (pt_cmpR (op_gt) (pe_callB call_len_seq (by rfl) T.b_len (by decide +kernel) (pa_cons (pe_meth (pv 1) T.c_Owners T.M_Owners_owners (ok_Owners_owners T) (hr.mono (by decide)) T.B_Owners_owners .nil passL (pa_cons (pv 4) pa_nil)) pa_nil)) pe_int (nomark _)) (pw_and1 (pt_cmpR (op_notInD (hu65 hr)) (pv 4) (pv 2) rfl)))) (pss_cons (ps_fld (pv 0) (pe_op op_mod (pe_op op_add (pv 4) pe_int) (pe_fld (pv 0) rfl)) rfl)
    (pss_one (ps_ret (pv 4)))) pss_nil))))
    (pss_one (ps_ret pe_non))), ?_⟩
    have few := hO.few
    obtain ⟨c, ec⟩ : ∃ c : Nat → Bool, c = fun n : Nat => !((cs[n]?.getD []).isEmpty) && !decide ((n : Int) ∈ ps) := ⟨_, rfl⟩
    obtain ⟨g, eg⟩ : ∃ g : Nat → Nat, g = fun d => ((pl + (d : Nat)) % (cs.length : Int)).toNat := ⟨_, rfl⟩
    have eV : vicM cs ps pl cs.length = ((List.range cs.length).map g).find? c := by rw [ec, eg]; rfl
    refine ⟨_, rfl, h, _, hx, _, _, rfl, hH.ins, T.c_Hand, T.n_Hand__many, rfl, _, rfl, by omega, by omega, ?_⟩
    refine for_range (lo := 0) (n := ((cs.length : Nat) : Int).toNat) (fun i σ H' => ∃ x3 x4, σ = [some (.ref h), some (.ref o), some (.ref r), x3, x4] ∧ Same H H' ∧ ∀ d, d < i → c (g d) = false)
      ⟨none, none, rfl, Same.refl H, fun _ h => absurd h (Nat.not_lt_zero _)⟩ ?_ ?_
    · rintro i σ H' hi ⟨x3, x4, rfl, eS, hn⟩
      have hi2 : i < cs.length := by simpa using hi
      have a0 := Int.emod_nonneg (pl + (i : Int)) (by omega : (cs.length : Int) ≠ 0)
      have a1 := Int.emod_lt_of_pos (pl + (i : Int)) (by omega : (0 : Int) < (cs.length : Int))
      have hg : g i = ((pl + (i : Int)) % (cs.length : Int)).toNat := by rw [eg]
      have hgl : g i < cs.length := by rw [hg]; omega
      have ev : (pl + (0 + (i : Int))) % (cs.length : Int) = ((g i : Nat) : Int) := by rw [hg, Int.zero_add]; omega
      refine ⟨_, rfl, h, _, hx, _, _, rfl, eS _ _ hH.ins, T.c_Hand, T.n_Hand__frame, rfl, _, rfl, _, _, rfl, rfl, _, rfl, h, _, hx, _, _, rfl, eS _ _ hH.ins, T.c_Hand, T.n_Hand__many, rfl, _, _, rfl, rfl, (by show (0 : Int) < (cs.length : Int); omega), ?_⟩
      show _
      have hO1 := hO.same eS
      obtain ⟨p, h1, h2, h3, h4, _⟩ := hO1.row hgl
      have next : c (g i) = false → ∀ d, d < i + 1 → c (g d) = false := fun k d hd => by
        by_cases e : d = i
        · rw [e]
          exact k
        · exact hn d (by omega)
      have cgi : c (g i) = (!(cs[g i].isEmpty) && !decide (((g i : Nat) : Int) ∈ ps)) := by
        rw [ec]
        simp only [List.getElem?_eq_getElem hgl, Option.getD_some]
      refine ⟨_, rfl, o, dx, _, rfl, hO1.ins, rfl, _, rfl, o, dx, L, M, as, cs, hs, _, rfl, hO1, fun j ej c0 hc0 tp htp => ?_, fun hout => absurd ⟨by rw [Int.zero_add]; exact a0, by rw [Int.zero_add]; exact a1⟩ hout⟩
      have ej2 : j = g i := by
        have : ((j : Nat) : Int) = ((g i : Nat) : Int) := ej.symm.trans ev
        omega
      subst ej2
      have ec0 : c0 = cs[g i] := by rw [List.getElem?_eq_getElem hgl] at hc0; exact (Option.some.inj hc0).symm
      subst ec0
      have eS2 := eS.trans (Same.new (o := .lst (cs[g i].map wV)) htp)
      refine ⟨tp, _, rfl, .inl (SqL.of upd_same), _, _, rfl, rfl, _, rfl, ?_⟩
      cases ee : cs[g i].isEmpty with
      | true =>
        have len0 : cs[g i].length = 0 := by rw [List.isEmpty_iff.mp ee]; rfl
        refine ifF (by rw [List.length_map, len0]; decide) (iteF ⟨_, _, rfl, eS2, next (by rw [cgi, ee]; rfl)⟩)
      | false =>
        have len0 : cs[g i].length ≠ 0 := fun z => by rw [List.eq_nil_of_length_eq_zero z] at ee; cases ee
        refine ifT (by rw [List.length_map]; simp; omega) ⟨_, rfl, _, rfl, .int _, _, .int _, ints_dp (eS2.seq hP), (sh_int _).ok, (shInts _).ok, _, rfl, ?_⟩
        rw [any_intD]
        have emem : decide ((pl + (0 + (i : Int))) % (cs.length : Int) ∈ ps) = decide (((g i : Nat) : Int) ∈ ps) := by rw [ev]
        rw [emem]
        cases em : decide (((g i : Nat) : Int) ∈ ps) with
        | true => exact iteF ⟨_, _, rfl, eS2, next (by rw [cgi, ee, em]; rfl)⟩
        | false =>
          refine iteT ?_
          have hit : vicM cs ps pl cs.length = some (g i) := by
            rw [eV]
            exact find_range hi2 (by rw [cgi, ee, em]; rfl) hn
          refine ⟨_, rfl, _, _, rfl, rfl, _, rfl, h, _, hx, _, _, rfl, eS2 _ _ hH.ins, T.c_Hand, T.n_Hand__many, rfl, _, _, rfl, rfl, (by show (0 : Int) < (cs.length : Int); omega), _, rfl, h, _, hx, _, rfl, eS2 _ _ hH.ins, T.c_Hand, T.n_Hand__frame, (by show 2 < 1000; decide), _, rfl, ?_⟩
          have := q1 (g i) hit (upd (upd H' tp (.lst (cs[g i].map wV))) h (.ins a.C_Hand hx [("_many", .int (cs.length : Nat)), ("_frame", .int ((((g i : Nat) : Int) + 1) % (cs.length : Int)))])) ((Same.but eS2).own) ⟨upd_same⟩
          rw [← ev] at this
          exact this
    · rintro σ H' ⟨x3, x4, rfl, eS, hn⟩
      exact q0 (by rw [eV]; exact find_none fun d hd => hn d (by simpa using hd)) H' eS

theorem ok__law_do (T : Txt K mg a) : FnOk P w K mg base CX0 7 a.f__law_do a.d__law_do ["owners", "act", "number", "owner"] (spDo K a.C_Owners) := by
  refine T.F__law_do.ok sc__law_do (fun vs H Q E h => ?_) (fun cdv A outer s H vs Q E hr h => ?_)
  · obtain ⟨o, dx, L, M, as, cs, tk, ac, n, t, ow, rfl, _⟩ := h
    rfl
  · obtain ⟨o, dx, L, M, as, cs, tk, ac, n, t, ow, rfl, hO, nd, ht, thin, tin, yes, no⟩ := h
    refine ⟨_, (pss_one (ps_try_as (i := 4) rfl rfl sc__law_do.nd rfl rfl ⟨rfl, by decide, Or.inl T.m_PageError⟩ takes0 (fun W pn xe tk _ => (pss_cons (ps_if (pt_cmpR (op_eq) (pv 1) pe_str (nomark _)) (pss_one (ps_ret (pe_methW (pv 0) T.c_Owners T.M_Owners_give_back (ok_Owners_give_back T) (hr.mono (by decide)) T.B_Owners_give_back (fun σ => passAt tk σ) (pa_cons (pv 2) pa_nil)))) pss_nil)
    (pss_cons (ps_if (pt_cmpR (op_eq) (pv 1) pe_str (nomark _)) (pss_one (ps_ret (pe_methW (pv 0) T.c_Owners T.M_Owners_add (ok_Owners_add T) (hr.mono (by decide)) T.B_Owners_add (fun σ => passAt tk σ) (pa_cons (pv 2) (pa_cons (pv 3) pa_nil))))) pss_nil)
    (pss_cons (ps_if (pt_cmpR (op_eq) (pv 1) pe_str (nomark _)) (pss_one (ps_ret (pe_methW (pv 0) T.c_Owners T.M_Owners_remove (ok_Owners_remove T) (hr.mono (by decide)) T.B_Owners_remove (fun σ => passAt tk σ) (pa_cons (pv 2) (pa_cons (pv 3) pa_nil))))) pss_nil)
    (pss_one (ps_ret (pe_methW (pv 0) T.c_Owners T.M_Owners_hold (ok_Owners_hold T) (hr.mono (by decide)) T.B_Owners_hold (fun σ => passAt tk σ) (pa_cons (pv 2) pa_nil))))))))
    (fun ea oe cls d pn hz hf => pss_under (P := cls = .ref a.C_NotValid ∧ d = none) fun hh => by
      obtain ⟨rfl, rfl⟩ := hh
      exact (pss_one (ps_ret (pe_lst (pa_cons (pe_callB (call_isE T.e_NotValid hz hf) (by rfl) T.b_isinstance (by decide +kernel) (pa_cons (pv 4) (pa_cons (pe_glob (v := .ref a.C_NotValid) rfl T.m_NotValid rfl) pa_nil))) pa_nil))))))), ?_⟩
    have bad : stepM cs tk ac n t ow = none → ∀ H1, Same H H1 → ∀ p, H1 p = none → Q (.ref p) (upd H1 p (.lst [.bl true])) := fun k H1 e1 p hp => no k _ p (e1.trans (Same.new hp)) upd_same
    have out : ¬ (0 ≤ n ∧ n < (cs.length : Int)) → stepM cs tk ac n t ow = none := fun k => by
      unfold stepM
      rw [if_neg k]
    have at_ : ∀ j : Nat, n = (j : Int) → j < cs.length → stepM cs tk ac n t ow = stepJ cs tk ac j t ow := fun j ej hj => by
      subst ej
      unfold stepM
      rw [if_pos ⟨by omega, by omega⟩]
      rfl
    have inn : (0 ≤ n ∧ n < (cs.length : Int)) → ∃ j : Nat, n = (j : Int) ∧ j < cs.length := fun k => ⟨n.toNat, by omega, by omega⟩
    cases ac with
    | give =>
      refine ⟨_, rfl, rfl, _, rfl, ifT (by decide +kernel) ⟨_, rfl, o, dx, _, rfl, hO.ins, rfl, _, rfl, o, dx, L, M, as, cs, hsOf cs.length tk, n, rfl, hO, fun j ej hj H1 k1 t1 hO1 => ?_, fun hno H1 e1 => ?_⟩⟩
      · have hj1 : j < cs.length := by
          have := (List.getElem?_eq_some_iff.mp hj).1
          rwa [hsOf_len] at this
        rw [hsOf_get hj1] at hj
        have mem := of_decide_eq_true (Option.some.inj hj)
        rw [hsOf_erase _ nd] at hO1
        exact yes cs (tk.erase (j : Int)) (by rw [at_ j ej hj1]; simp only [stepJ]; rw [if_pos mem]) H1 (k1.up fun x hx => by rw [List.mem_singleton.mp hx]; exact List.mem_cons_self ..) t1 hO1
      · refine ⟨true, PySem.W.exm_ref T.p1 T.p2 T.p3 T.p4, fun _ ea hea => ?_, fun z => nomatch z⟩
        refine ⟨⟨rfl, rfl⟩, _, rfl, _, _, _, rfl, (fun u r => r), T.q4, (by show 1 ≤ sizeLine; decide), fun p hp => ?_⟩
        refine bad ?_ _ e1 p hp
        by_cases k : 0 ≤ n ∧ n < (cs.length : Int)
        · obtain ⟨j, ej, hj⟩ := inn k
          rw [at_ j ej hj]
          have := hno j ej
          rw [hsOf_get hj] at this
          simp only [stepJ]
          rw [if_neg fun z => this (by rw [decide_eq_true z])]
        · exact out k
    | add =>
      refine ⟨_, rfl, rfl, _, rfl, ifF (by decide +kernel) ⟨_, rfl, rfl, _, rfl, ifT (by decide +kernel) ⟨_, rfl, o, dx, _, rfl, hO.ins, rfl, _, rfl, _, rfl, o, dx, L, M, as, cs, hsOf cs.length tk, n, t, ow, rfl, hO, ht, thin, fun j ej c hc hf hp H1 k1 t1 hO1 => ?_, fun hno H1 e1 => ?_⟩⟩⟩
      · have hj1 : j < cs.length := (List.getElem?_eq_some_iff.mp hc).1
        have ec : cs[j]?.getD [] = c := by rw [hc]; rfl
        rw [freeB_hs rfl hj1] at hf
        rw [hsOf_erase _ nd] at hO1
        have ec2 : cs[j] = c := by rw [List.getElem?_eq_getElem hj1] at hc; exact Option.some.inj hc
        rw [ec2] at hf
        exact yes (cs.set j (c ++ [(t, ow)])) (tk.erase (j : Int)) (by rw [at_ j ej hj1]; simp only [stepJ, ec, hf, hp]; rfl) H1 k1 t1 hO1
      · refine ⟨true, PySem.W.exm_ref T.p1 T.p2 T.p3 T.p4, fun _ ea hea => ?_, fun z => nomatch z⟩
        refine ⟨⟨rfl, rfl⟩, _, rfl, _, _, _, rfl, (fun u r => r), T.q4, (by show 1 ≤ sizeLine; decide), fun p hp => ?_⟩
        refine bad ?_ _ e1 p hp
        by_cases k : 0 ≤ n ∧ n < (cs.length : Int)
        · obtain ⟨j, ej, hj⟩ := inn k
          rw [at_ j ej hj]
          have := hno j ej hj
          rw [freeB_hs rfl hj] at this
          have ec : cs[j]?.getD [] = cs[j] := by rw [List.getElem?_eq_getElem hj]; rfl
          simp only [stepJ, ec]
          rcases this with z | z
          · rw [z]
            rfl
          · cases ep : placeM cs ow with
            | none => exact absurd ep z
            | some i => simp
        · exact out k
    | remove =>
      refine ⟨_, rfl, rfl, _, rfl, ifF (by decide +kernel) ⟨_, rfl, rfl, _, rfl, ifF (by decide +kernel) ⟨_, rfl, rfl, _, rfl, ifT (by decide +kernel) ⟨_, rfl, o, dx, _, rfl, hO.ins, rfl, _, rfl, _, rfl, o, dx, L, M, as, cs, hsOf cs.length tk, n, t, ow, rfl, hO, ht, fun j ej c hc i hi H1 k1 t1 hO1 => ?_, fun hno H1 e1 => ?_⟩⟩⟩⟩
      · have hj1 : j < cs.length := (List.getElem?_eq_some_iff.mp hc).1
        have ec : cs[j]?.getD [] = c := by rw [hc]; rfl
        exact yes (cs.set j (c.eraseIdx i)) tk (by rw [at_ j ej hj1]; simp only [stepJ, ec, hi]) H1 k1 t1 hO1
      · refine ⟨true, PySem.W.exm_ref T.p1 T.p2 T.p3 T.p4, fun _ ea hea => ?_, fun z => nomatch z⟩
        refine ⟨⟨rfl, rfl⟩, _, rfl, _, _, _, rfl, (fun u r => r), T.q4, (by show 1 ≤ sizeLine; decide), fun p hp => ?_⟩
        refine bad ?_ _ e1 p hp
        by_cases k : 0 ≤ n ∧ n < (cs.length : Int)
        · obtain ⟨j, ej, hj⟩ := inn k
          rw [at_ j ej hj]
          have := hno j ej cs[j] (List.getElem?_eq_getElem hj)
          have ec : cs[j]?.getD [] = cs[j] := by rw [List.getElem?_eq_getElem hj]; rfl
          simp only [stepJ, ec]
          cases ea : atOw ow cs[j] with
          | none => rfl
          | some i =>
            have g1 := (at_ow_spec ea).1
            exfalso
            have hm : ow ∈ cs[j].map Prod.snd := by
              have hmem := mem_of_get g1
              obtain ⟨u, hu, eu⟩ := List.mem_map.mp hmem
              have eq : u = ow := by
                have := eqv_oD u ow
                rw [eu, (shO ow).refl] at this
                exact of_decide_eq_true this.symm
              rw [← eq]
              exact hu
            unfold owns at this
            rw [decide_eq_true hm] at this
            cases this
        · exact out k
    | hold =>
      refine ⟨_, rfl, rfl, _, rfl, ifF (by decide +kernel) ⟨_, rfl, rfl, _, rfl, ifF (by decide +kernel) ⟨_, rfl, rfl, _, rfl, ifF (by decide +kernel) ⟨_, rfl, o, dx, _, rfl, hO.ins, rfl, _, rfl, o, dx, L, M, as, cs, hsOf cs.length tk, n, rfl, hO, fun j ej hf H1 k1 t1 hO1 => ?_, fun hno H1 e1 => ?_⟩⟩⟩⟩
      · have hj1 : j < cs.length := by
          by_cases z : j < cs.length
          · exact z
          · rw [freeB_out z] at hf
            cases hf
        rw [freeB_hs rfl hj1] at hf
        rw [hsOf_add] at hO1
        have ec : cs[j]?.getD [] = cs[j] := by rw [List.getElem?_eq_getElem hj1]; rfl
        exact yes cs (tk ++ [(j : Int)]) (by rw [at_ j ej hj1]; simp only [stepJ, ec]; rw [if_pos hf]) H1 (k1.up fun x hx => by rw [List.mem_singleton.mp hx]; exact List.mem_cons_self ..) t1 hO1
      · refine ⟨true, PySem.W.exm_ref T.p1 T.p2 T.p3 T.p4, fun _ ea hea => ?_, fun z => nomatch z⟩
        refine ⟨⟨rfl, rfl⟩, _, rfl, _, _, _, rfl, (fun u r => r), T.q4, (by show 1 ≤ sizeLine; decide), fun p hp => ?_⟩
        refine bad ?_ _ e1 p hp
        by_cases k : 0 ≤ n ∧ n < (cs.length : Int)
        · obtain ⟨j, ej, hj⟩ := inn k
          rw [at_ j ej hj]
          have := hno j ej
          rw [freeB_hs rfl hj] at this
          have ec : cs[j]?.getD [] = cs[j] := by rw [List.getElem?_eq_getElem hj]; rfl
          simp only [stepJ, ec]
          rw [if_neg (by rw [this]; decide)]
        · exact out k
theorem ok__law_place (T : Txt K mg a) : FnOk P w K mg base CX0 1 a.f__law_place a.d__law_place ["lists", "owner"] (spLPlace) := by
  refine T.F__law_place.ok sc__law_place (fun vs H Q E h => ?_) (fun cdv A outer s H vs Q E hr h => ?_)
  · obtain ⟨LL, TK, tp, bs, cs, tk, ts, t, ow, rfl, _⟩ := h
    rfl
  · obtain ⟨LL, TK, tp, bs, cs, tk, ts, t, ow, rfl, hL, ht, q⟩ := h
    refine ⟨_, (pss_cons (ps_for PassesOwn.never rfl (pi_range1 rfl T.b_range (pa_cons (pe_callB call_len_seq (by rfl) T.b_len (by decide +kernel) (pa_cons (pv 0) pa_nil)) pa_nil)) (pg_name (i := 2) sc__law_place.nd rfl (Or.inl rfl))
    (pss_one (ps_if (pt_cmpR (op_inD (hu65 hr)) (pv 1) (pe_ix ix_list (pv 0) (pv 2) (fun _ _ => rfl)) rfl) (pss_one (ps_ret (pv 2))) pss_nil)))
    (pss_one (ps_ret pe_non))), ?_⟩
    have lenA := hL.rows.len
    have few := hL.few
    have eL : ((bs.map V.ref).length : Int).toNat = cs.length := by rw [List.length_map, lenA]; simp
    refine ⟨_, rfl, LL, _, rfl, .inl (SqL.of hL.lists), _, rfl, by rw [List.length_map, lenA]; omega, by rw [List.length_map, lenA]; omega, ?_⟩
    refine for_range (lo := 0) (n := ((bs.map V.ref).length : Int).toNat) (fun i σ H' => ∃ x2, σ = [some (.ref LL), some (.ref t), x2] ∧ Same H H' ∧ ∀ c ∈ cs.take i, owns ow c = false)
      ⟨none, rfl, Same.refl H, fun _ h => absurd h (by simp)⟩ ?_ ?_
    · rintro i σ H' hi ⟨x2, rfl, eS, hn⟩
      rw [eL] at hi
      have hL2 := hL.same eS
      obtain ⟨p2, h1, h2, h3, h4, _⟩ := hL2.row hi
      refine ⟨_, rfl, _, rfl, _, rfl, LL, _, _, _, rfl, rfl, SqL.of hL2.lists, at_of (j := i) (by omega) h2, oD ow, _, o_dp (eS _ _ ht), .lst (SqL.of h3) h4.dp, (shO ow).ok, (shOs _).ok, _, rfl, ?_⟩
      rw [any_oD]
      cases e : decide (ow ∈ cs[i].map Prod.snd) with
      | true =>
        refine iteT ⟨_, rfl, ?_⟩
        have := q _ eS
        have ep : placeM cs ow = some i := by
          unfold placeM
          rw [List.findIdx?_eq_some_iff_getElem]
          refine ⟨hi, e, fun k hk => ?_⟩
          have hm : cs[k] ∈ cs.take i := by
            rw [List.mem_take_iff_getElem]
            exact ⟨k, by omega, rfl⟩
          simp [hn _ hm]
        rw [ep] at this
        simpa [natV] using this
      | false =>
        refine iteF ⟨_, rfl, eS, fun c hc => ?_⟩
        rw [take_snoc (List.getElem?_eq_getElem hi)] at hc
        rcases List.mem_append.mp hc with hc | hc
        · exact hn c hc
        · rw [List.mem_singleton.mp hc]
          exact e
    · rintro σ H' ⟨x2, rfl, eS, hn⟩
      have := q H' eS
      have ep : placeM cs ow = none := by
        unfold placeM
        rw [List.findIdx?_eq_none_iff]
        intro c hc
        refine hn c ?_
        rw [eL, List.take_length]
        exact hc
      rw [ep] at this
      exact this
theorem ok__law_free (T : Txt K mg a) : FnOk P w K mg base CX0 1 a.f__law_free a.d__law_free ["lists", "taken"] (spLFree) := by
  refine T.F__law_free.ok sc__law_free (fun vs H Q E h => ?_) (fun cdv A outer s H vs Q E hr h => ?_)
  · obtain ⟨LL, TK, tp, bs, cs, tk, ts, rfl, _⟩ := h
    rfl
  · obtain ⟨LL, TK, tp, bs, cs, tk, ts, rfl, hL, q⟩ := h
    refine ⟨_, (pss_one (ps_ret (pe_lc (own := [("n", 2)]) (g := gName 2) (tt := _) rfl sc__law_free.nd (pi_range1 rfl T.b_range (pa_cons (pe_callB call_len_seq (by rfl) T.b_len (by decide +kernel) (pa_cons (pv 0) pa_nil)) pa_nil)) (blkOk_by (own := [("n", 2)]) (N := ["lists", "taken", "n"]) (sc := defScope s__law_free) (by decide +kernel)) (fun _ _ _ _ _ => (pg_name (i := 2) sc__law_free.nd rfl (Or.inl rfl))) (fun _ _ _ _ _ => (pts_one (PW.pt (pw_and (pt_cmpR ((op_eqD hr.units : OpR _ (compareOp .Eq) (rEqD K))) (pe_ix (ix_list : IxR _ (rIxL K)) (pv 0) (pv 2) (fun _ _ => rfl)) (pe_lst pa_nil) (nomark _)) (pw_and1 (pt_cmpR ((op_notInD (hu65 hr) : OpR _ (compareOp .NotIn) (rNotInD K))) (pv 2) (pv 1) rfl)))))) (fun _ _ _ _ _ => (pv 2))))), ?_⟩
    have lenA := hL.rows.len
    have few := hL.few
    have eL : ((bs.map V.ref).length : Int).toNat = cs.length := by rw [List.length_map, lenA]; simp
    refine ⟨_, rfl, LL, _, rfl, .inl (SqL.of hL.lists), _, rfl, by rw [List.length_map, lenA]; omega, by rw [List.length_map, lenA]; omega, fun D hD => ?_⟩
    refine lc_range (lo := 0) (n := ((bs.map V.ref).length : Int).toNat) (fun i H' => ∃ G, i ≤ cs.length ∧ H' = upd G D (.lst (nInt ((List.range i).filter (freeB cs (hsOf cs.length tk))))) ∧ Same H G ∧ G D = none)
      ⟨H, Nat.zero_le _, rfl, Same.refl H, hD⟩ ?_ ?_
    · rintro i H' hi ⟨G, _, rfl, eS, gD⟩
      rw [eL] at hi
      have eA := eS.trans (Same.new (o := .lst (nInt ((List.range i).filter (freeB cs (hsOf cs.length tk))))) gD)
      have hL2 := hL.same eA
      obtain ⟨p2, h1, h2, h3, h4, _⟩ := hL2.row hi
      have eF := freeB_hs (cs := cs) (tk := tk) rfl hi
      have lim : (nInt ((List.range i).filter (freeB cs (hsOf cs.length tk)))).length < sizeLine := by
        unfold nInt
        rw [List.length_map]
        exact Nat.lt_of_le_of_lt (Nat.le_trans (List.length_filter_le _ _) (by rw [List.length_range]; omega : (List.range i).length ≤ 100)) (by decide)
      refine ⟨rfl, _, rfl, _, rfl, LL, _, _, _, rfl, rfl, SqL.of hL2.lists, at_of (j := i) (by omega) h2, Nat.zero_le _, fun t ht => ?_⟩
      obtain ⟨eC, gt, gD2⟩ := new_under (o := .lst []) gD ht
      have eG : Same H (upd G t (.lst [])) := eS.trans (Same.new gt)
      have eA2 := eA.trans (Same.new (o := .lst []) ht)
      have hL3 := hL.same eA2
      have no : freeB cs (hsOf cs.length tk) i = false → ∃ G', i + 1 ≤ cs.length ∧ upd (upd G D (.lst (nInt ((List.range i).filter (freeB cs (hsOf cs.length tk)))))) t (.lst []) = upd G' D (.lst (nInt ((List.range (i + 1)).filter (freeB cs (hsOf cs.length tk))))) ∧ Same H G' ∧ G' D = none := fun k =>
        ⟨_, hi, by rw [eC, List.range_succ, List.filter_append, List.filter_cons, if_neg (by rw [k]; decide), List.filter_nil, List.append_nil], eG, gD2⟩
      refine ⟨_, .list [], .lst (SqL.of ((Same.new ht) _ _ h3)) (hL3.row hi).choose_spec.2.2.2.1.dp, .lst (SqL.of upd_same) .nil, (shOs _).ok, shNil.ok, _, rfl, ?_⟩
      rw [eqv_nilD]
      have ee : (List.map oD (List.map Prod.snd cs[i])).isEmpty = cs[i].isEmpty := by cases cs[i] <;> rfl
      rw [ee]
      cases e1 : cs[i].isEmpty with
      | false => exact iteF (iteF (no (by rw [eF, e1]; rfl)))
      | true =>
        refine iteT ⟨_, rfl, _, rfl, .int _, _, .int _, ints_dp (SqL.of hL3.taken), (sh_int _).ok, (shInts _).ok, _, rfl, ?_⟩
        rw [any_intD]
        have e0 : decide ((0 + (i : Int)) ∈ tk) = decide ((i : Int) ∈ tk) := by rw [Int.zero_add]
        rw [e0]
        cases e2 : decide ((i : Int) ∈ tk) with
        | true => exact iteF (no (by rw [eF, e1, e2]; rfl))
        | false =>
          refine iteT ⟨_, rfl, _, by rw [eC]; exact upd_same, lim, _, hi, ?_, eG, gD2⟩
          rw [eC, upd_upd, List.range_succ, List.filter_append, List.filter_cons, if_pos (by rw [eF, e1, e2]; rfl), List.filter_nil]
          unfold nInt
          rw [List.map_append]
          simp
    · rintro H' ⟨G, _, rfl, eS, gD⟩
      rw [eL]
      exact q _ D (eS.trans (Same.new gD)) hD upd_same

theorem ok__law_due (T : Txt K mg a) : FnOk P w K mg base CX0 2 a.f__law_due a.d__law_due ["lists", "taken", "act", "number", "owner"] (spDue K) := by
  refine T.F__law_due.ok sc__law_due (fun vs H Q E h => ?_) (fun cdv A outer s H vs Q E hr h => ?_)
  · obtain ⟨LL, TK, tp, bs, cs, tk, ts, ac, n, t, ow, rfl, _⟩ := h
    rfl
  · obtain ⟨LL, TK, tp, bs, cs, tk, ts, ac, n, t, ow, rfl, hL, ht, tl, thin, yes, no⟩ := h
    refine ⟨_, (pss_cons (ps_if (pt_cmpR (op_eq) (pv 2) pe_str (nomark _)) (pss_cons (ps_if (pt_cmpR (op_notInD (hu65 hr)) (pv 3) (pv 1) rfl) (pss_one (ps_ret (pe_lst (pa_cons pe_bl pa_nil)))) pss_nil)
    (pss_cons (ps_expr (pe_bm PySem.F.plainAttrs_list PySem.F.slot_list_remove PySem.F.type_list_remove mt_remove (pv 1) (pa_cons (pv 3) pa_nil)))
    (pss_one (ps_ret pe_non)))) pss_nil)
    (pss_cons (ps_if (PW.pt (pw_or (pt_cmpR (op_lt) (pv 3) pe_int (nomark _)) (pw_or1 (pt_cmpR (op_ge) (pv 3) (pe_callB call_len_seq (by rfl) T.b_len (by decide +kernel) (pa_cons (pv 0) pa_nil)) (nomark _))))) (pss_one (ps_ret (pe_lst (pa_cons pe_bl pa_nil)))) pss_nil)
    (pss_cons (ps_set (i := 5) sc__law_due.nd rfl (Or.inl rfl) (pe_and (pe_cmpR (op_eqD hr.units) (pe_ix ix_list (pv 0) (pv 3) (fun _ _ => rfl)) (pe_lst pa_nil) (nomark _)) (pe_one (pe_cmpR (op_notInD (hu65 hr)) (pv 3) (pv 1) rfl))))
    (pss_mid (ps_if (pt_cmpR (op_eq) (pv 2) pe_str (nomark _)) (pss_cons (ps_if (PW.pt (pw_or (pt_val (pv 5)) (pw_or1 (pt_cmpR (op_notN) (pe_call (ok__law_place T) (hr.mono (by decide)) rfl T.m__law_place T.F__law_place.kp T.B__law_place .nil pass0 (pa_cons (pv 0) (pa_cons (pv 4) pa_nil))) pe_non (by rfl))))) (pss_one (ps_ret (pe_lst (pa_cons pe_bl pa_nil)))) pss_nil)
    (pss_cons (ps_expr (pe_bm PySem.F.plainAttrs_list PySem.F.slot_list_append PySem.F.type_list_append mt_append (pe_ix ix_list (pv 0) (pv 3) (fun _ _ => rfl)) (pa_cons (pv 4) pa_nil)))
    (pss_one (ps_if (pt_cmpR (op_inD (hu65 hr)) (pv 3) (pv 1) rfl) (pss_one (ps_expr (pe_bm PySem.F.plainAttrs_list PySem.F.slot_list_remove PySem.F.type_list_remove mt_remove (pv 1) (pa_cons (pv 3) pa_nil)))) pss_nil)))) (pss_one (ps_if (pt_cmpR (op_eq) (pv 2) pe_str (nomark _)) (pss_cons (ps_if (pt_cmpR (op_notInD (hu65 hr)) (pv 4) (pe_ix ix_list (pv 0) (pv 3) (fun _ _ => rfl)) rfl) (pss_one (ps_ret (pe_lst (pa_cons pe_bl pa_nil)))) pss_nil)
    (pss_one (ps_expr (pe_bm PySem.F.plainAttrs_list PySem.F.slot_list_remove PySem.F.type_list_remove (mt_removeD (hu65 hr)) (pe_ix ix_list (pv 0) (pv 3) (fun _ _ => rfl)) (pa_cons (pv 4) pa_nil))))) (pss_cons (ps_if (pt_not (pt_val (pv 5))) (pss_one (ps_ret (pe_lst (pa_cons pe_bl pa_nil)))) pss_nil)
    (pss_one (ps_expr (pe_bm PySem.F.plainAttrs_list PySem.F.slot_list_append PySem.F.type_list_append mt_append (pv 1) (pa_cons (pv 3) pa_nil))))))))
    (pss_one (ps_ret pe_non)))))), ?_⟩
    have lenA := hL.rows.len
    have out : ¬ (0 ≤ n ∧ n < (cs.length : Int)) → stepM cs tk ac n t ow = none := fun k => by
      unfold stepM
      rw [if_neg k]
    have give : ∀ G : Prop, ac = .give → G → G := fun _ _ g => g
    by_cases isG : ac = .give
    · subst isG
      refine ⟨_, rfl, rfl, _, rfl, ifT (by decide +kernel) ⟨_, rfl, _, rfl, .int _, _, .int _, ints_dp (SqL.of hL.taken), (sh_int _).ok, (shInts _).ok, _, rfl, ?_⟩⟩
      rw [any_intD]
      by_cases mem : n ∈ tk
      · have hin := hL.tkin n mem
        obtain ⟨i, i1, i2, i3, i4⟩ := first_at mem
        refine ifF (by rw [decide_eq_true mem]; rfl) ⟨_, rfl, .inl ⟨rfl, _, SqL.of hL.taken⟩, _, rfl, TK, tk, _, i, rfl, rfl, hL.taken, i2, i3, ?_⟩
        rw [i4]
        refine yes cs (tk.erase n) ?_ _ (Keep.put (by simp)) (KT.lst hL.taken) (hL.setT _ (hL.tknd.erase _) fun k hk => hL.tkin k (List.mem_of_mem_erase hk))
        unfold stepM
        rw [if_pos hin]
        have e : ((n.toNat : Nat) : Int) = n := by omega
        simp only [stepJ, e]
        rw [if_pos mem]
      · refine ifT (by rw [decide_eq_false mem]; rfl) ⟨(by show 1 ≤ sizeLine; decide), fun p hp => no ?_ _ p (Same.new hp) upd_same⟩
        by_cases k : 0 ≤ n ∧ n < (cs.length : Int)
        · unfold stepM
          rw [if_pos k]
          have e : ((n.toNat : Nat) : Int) = n := by omega
          simp only [stepJ, e]
          rw [if_neg mem]
        · exact out k
    have nG : decide (V.str (acS ac) = V.str "give") = false := by
      cases ac with
      | give => exact absurd rfl isG
      | add => decide +kernel
      | remove => decide +kernel
      | hold => decide +kernel
    refine ⟨_, rfl, rfl, _, rfl, ifF nG ⟨_, rfl, _, _, rfl, rfl, _, rfl, ?_⟩⟩
    by_cases n0 : n < 0
    · exact ifT (decide_eq_true n0) (iteT ⟨(by show 1 ≤ sizeLine; decide), fun p hp => no (out fun k => by omega) _ p (Same.new hp) upd_same⟩)
    refine ifF (decide_eq_false n0) ⟨_, rfl, _, rfl, LL, _, rfl, .inl (SqL.of hL.lists), _, _, rfl, rfl, _, rfl, ?_⟩
    have eL : ((bs.map V.ref).length : Int) = (cs.length : Int) := by rw [List.length_map, lenA]
    rw [eL]
    by_cases n1 : ¬ n < (cs.length : Int)
    · exact ifT (by simp; omega) ⟨(by show 1 ≤ sizeLine; decide), fun p hp => no (out fun k => n1 k.2) _ p (Same.new hp) upd_same⟩
    refine ifF (by simp; omega) ?_
    obtain ⟨j, ej⟩ : ∃ j : Nat, n = (j : Int) := ⟨n.toNat, by omega⟩
    subst ej
    have hj : j < cs.length := by omega
    have at_ : ∀ i : Nat, j = i → i < cs.length → stepM cs tk ac (j : Int) t ow = stepJ cs tk ac i t ow := fun i ei hi => by
      subst ei
      unfold stepM
      rw [if_pos ⟨by omega, by omega⟩]
      rfl
    have ec : cs[j]?.getD [] = cs[j] := by rw [List.getElem?_eq_getElem hj]; rfl
    obtain ⟨p2, h1, h2, h3, h4, _⟩ := hL.row hj
    refine ⟨_, rfl, _, rfl, LL, _, _, _, rfl, rfl, SqL.of hL.lists, at_nat h2, Nat.zero_le _, fun t0 ht0 => ?_⟩
    have e1 := Same.new (o := .lst []) ht0
    have t0n : upd H t0 (.lst []) t0 = some (.lst []) := upd_same
    generalize upd H t0 (.lst []) = H1 at e1 t0n ⊢
    have hL1 := hL.same e1
    refine ⟨_, .list [], .lst (SqL.of (e1 _ _ h3)) (hL1.row hj).choose_spec.2.2.2.1.dp, .lst (SqL.of t0n) .nil, (shOs _).ok, shNil.ok, _, rfl, ?_⟩
    rw [eqv_nilD]
    have ee : (List.map oD (List.map Prod.snd cs[j])).isEmpty = cs[j].isEmpty := by cases cs[j] <;> rfl
    rw [ee]
    cases e0 : cs[j].isEmpty with
    | false =>
      refine iteF ?_
      have hf : (cs[j].isEmpty && !decide ((j : Int) ∈ tk)) = false := by rw [e0]; rfl
      cases ac with
      | give => exact absurd rfl isG
      | add =>
        refine ⟨fun _ H' => Q .non H', ?_, fun _ _ h => h⟩
        refine ⟨_, rfl, rfl, _, rfl, ifT (by decide +kernel) ⟨_, rfl, _, rfl, iteF ⟨_, rfl, _, rfl, LL, TK, tp, bs, cs, tk, ts, t, ow, rfl, hL1, e1 _ _ ht, fun H6 e6 => ⟨rfl, _, rfl, ?_⟩⟩⟩⟩
        cases ep : placeM cs ow with
        | some i => exact iteT ⟨(by show 1 ≤ sizeLine; decide), fun p hp => no (by rw [at_ j rfl hj]; simp only [stepJ, ec, ep]; simp) _ p ((e1.trans e6).trans (Same.new hp)) upd_same⟩
        | none =>
          have hL6 := hL1.same e6
          have e16 := e1.trans e6
          obtain ⟨p6, g1, g2, g3, g4, pm⟩ := hL6.row hj
          refine iteF ⟨_, rfl, _, rfl, LL, _, _, _, rfl, rfl, SqL.of hL6.lists, at_nat g2, .inl ⟨rfl, _, SqL.of g3⟩, _, rfl, p6, _, _, rfl, rfl, g3, ?_, ?_⟩
          · rw [List.length_map]
            exact Nat.lt_of_le_of_lt (thin _ (List.getElem_mem hj)) (by decide)
          have eA : cs[j].map wV ++ [V.ref t] = (cs[j] ++ [(t, ow)]).map wV := by rw [List.map_append]; rfl
          rw [eA]
          have ho2 : OAll H6 (cs[j] ++ [(t, ow)]) := fun z hz => by
            rcases List.mem_append.mp hz with hz | hz
            · exact g4 z hz
            · rw [List.mem_singleton.mp hz]
              exact e16 _ _ ht
          have hL7 := hL6.setR g1 ho2 (by rw [List.length_append, List.length_singleton]; have := thin _ (List.getElem_mem hj); omega)
          have kt7 : KT H6 (upd H6 p6 (.lst ((cs[j] ++ [(t, ow)]).map wV))) := KT.lst g3
          have kp7 : Keep (TK :: bs) H6 (upd H6 p6 (.lst ((cs[j] ++ [(t, ow)]).map wV))) := Keep.put (List.mem_cons_of_mem _ pm)
          generalize upd H6 p6 (.lst ((cs[j] ++ [(t, ow)]).map wV)) = H7 at hL7 kt7 kp7 ⊢
          have st : stepM cs tk .add (j : Int) t ow = some (cs.set j (cs[j] ++ [(t, ow)]), tk.erase (j : Int)) := by rw [at_ j rfl hj]; simp only [stepJ, ec, ep, hf]; rfl
          refine ⟨_, rfl, _, rfl, .int _, _, .int _, ints_dp (SqL.of hL7.taken), (sh_int _).ok, (shInts _).ok, _, rfl, ?_⟩
          rw [any_intD]
          by_cases mem : (j : Int) ∈ tk
          · obtain ⟨i, i1, i2, i3, i4⟩ := first_at mem
            refine ifT (decide_eq_true mem) ⟨_, rfl, .inl ⟨rfl, _, SqL.of hL7.taken⟩, _, rfl, TK, tk, _, i, rfl, rfl, hL7.taken, i2, i3, ?_⟩
            rw [i4]
            exact yes _ _ st _ (((Keep.same e16).trans kp7).trans (Keep.put (by simp))) (((KT.of e16).trans kt7).trans (KT.lst hL7.taken)) (hL7.setT _ (hL.tknd.erase _) fun k hk => hL7.tkin k (List.mem_of_mem_erase hk))
          · refine ifF (decide_eq_false mem) ?_
            rw [List.erase_of_not_mem mem] at st
            exact yes _ _ st _ ((Keep.same e16).trans kp7) ((KT.of e16).trans kt7) hL7
      | remove =>
        refine ⟨fun _ H' => Q .non H', ?_, fun _ _ h => h⟩
        obtain ⟨p6, g1, g2, g3, g4, pm⟩ := hL1.row hj
        refine ⟨_, rfl, rfl, _, rfl, ifF (by decide +kernel) ⟨_, rfl, rfl, _, rfl, ifT (by decide +kernel) ⟨_, rfl, _, rfl, _, rfl, LL, _, _, _, rfl, rfl, SqL.of hL1.lists, at_nat g2, oD ow, _, o_dp (e1 _ _ ht), .lst (SqL.of g3) g4.dp, (shO ow).ok, (shOs _).ok, _, rfl, ?_⟩⟩⟩
        rw [any_oD]
        cases em : decide (ow ∈ cs[j].map Prod.snd) with
        | false =>
          refine iteT ⟨(by show 1 ≤ sizeLine; decide), fun p hp => no ?_ _ p (e1.trans (Same.new hp)) upd_same⟩
          rw [at_ j rfl hj]
          simp only [stepJ, ec]
          cases ea : atOw ow cs[j] with
          | none => rfl
          | some i =>
            exfalso
            have g9 := mem_of_get (at_ow_spec ea).1
            obtain ⟨u, hu, eu⟩ := List.mem_map.mp g9
            have eq : u = ow := by
              have := eqv_oD u ow
              rw [eu, (shO ow).refl] at this
              exact of_decide_eq_true this.symm
            rw [eq] at hu
            rw [decide_eq_true hu] at em
            cases em
        | true =>
          obtain ⟨i, hi⟩ := at_ow (of_decide_eq_true em)
          obtain ⟨i1, i2, i3⟩ := at_ow_spec hi
          refine iteF ⟨_, rfl, _, rfl, LL, _, _, _, rfl, rfl, SqL.of hL1.lists, at_nat g2, .inl ⟨rfl, _, SqL.of g3⟩, _, rfl, p6, _, _, oD ow, _, i, oD ow, rfl, rfl, g3, g4.dp, o_dp (e1 _ _ ht), (shOs _).ok, (shO ow).ok, i1, (by rw [eqv_oD]; simp), i2, ?_⟩
          have eE : (cs[j].map wV).eraseIdx i = (cs[j].eraseIdx i).map wV := i3 wV
          rw [eE]
          exact yes _ _ (by rw [at_ j rfl hj]; simp only [stepJ, ec, hi]) _ ((Keep.same e1).trans (Keep.put (List.mem_cons_of_mem _ pm))) ((KT.of e1).trans (KT.lst g3)) (hL1.setR g1 (fun z hz => g4 z (List.mem_of_mem_eraseIdx hz)) (Nat.le_trans (List.length_eraseIdx_le _ _) (hL.thin _ (List.getElem_mem hj))))
      | hold =>
        refine ⟨fun _ H' => Q .non H', ?_, fun _ _ h => h⟩
        refine ⟨_, rfl, rfl, _, rfl, ifF (by decide +kernel) ⟨_, rfl, rfl, _, rfl, ifF (by decide +kernel) ⟨_, rfl, _, rfl, iteT ⟨(by show 1 ≤ sizeLine; decide), fun p hp => no (by rw [at_ j rfl hj]; simp only [stepJ, ec]; rw [if_neg (by rw [hf]; decide)]) _ p (e1.trans (Same.new hp)) upd_same⟩⟩⟩⟩
    | true =>
      refine iteT ⟨_, rfl, _, rfl, .int _, _, .int _, ints_dp (SqL.of hL1.taken), (sh_int _).ok, (shInts _).ok, ?_⟩
      rw [any_intD]
      by_cases nm : (j : Int) ∈ tk
      · rw [decide_eq_true nm]
        have hf : (cs[j].isEmpty && !decide ((j : Int) ∈ tk)) = false := by rw [decide_eq_true nm]; simp
        cases ac with
        | give => exact absurd rfl isG
        | add =>
          refine ⟨fun _ H' => Q .non H', ?_, fun _ _ h => h⟩
          refine ⟨_, rfl, rfl, _, rfl, ifT (by decide +kernel) ⟨_, rfl, _, rfl, iteF ⟨_, rfl, _, rfl, LL, TK, tp, bs, cs, tk, ts, t, ow, rfl, hL1, e1 _ _ ht, fun H6 e6 => ⟨rfl, _, rfl, ?_⟩⟩⟩⟩
          cases ep : placeM cs ow with
          | some i => exact iteT ⟨(by show 1 ≤ sizeLine; decide), fun p hp => no (by rw [at_ j rfl hj]; simp only [stepJ, ec, ep]; simp) _ p ((e1.trans e6).trans (Same.new hp)) upd_same⟩
          | none =>
            have hL6 := hL1.same e6
            have e16 := e1.trans e6
            obtain ⟨p6, g1, g2, g3, g4, pm⟩ := hL6.row hj
            refine iteF ⟨_, rfl, _, rfl, LL, _, _, _, rfl, rfl, SqL.of hL6.lists, at_nat g2, .inl ⟨rfl, _, SqL.of g3⟩, _, rfl, p6, _, _, rfl, rfl, g3, ?_, ?_⟩
            · rw [List.length_map]
              exact Nat.lt_of_le_of_lt (thin _ (List.getElem_mem hj)) (by decide)
            have eA : cs[j].map wV ++ [V.ref t] = (cs[j] ++ [(t, ow)]).map wV := by rw [List.map_append]; rfl
            rw [eA]
            have ho2 : OAll H6 (cs[j] ++ [(t, ow)]) := fun z hz => by
              rcases List.mem_append.mp hz with hz | hz
              · exact g4 z hz
              · rw [List.mem_singleton.mp hz]
                exact e16 _ _ ht
            have hL7 := hL6.setR g1 ho2 (by rw [List.length_append, List.length_singleton]; have := thin _ (List.getElem_mem hj); omega)
            have kt7 : KT H6 (upd H6 p6 (.lst ((cs[j] ++ [(t, ow)]).map wV))) := KT.lst g3
            have kp7 : Keep (TK :: bs) H6 (upd H6 p6 (.lst ((cs[j] ++ [(t, ow)]).map wV))) := Keep.put (List.mem_cons_of_mem _ pm)
            generalize upd H6 p6 (.lst ((cs[j] ++ [(t, ow)]).map wV)) = H7 at hL7 kt7 kp7 ⊢
            have st : stepM cs tk .add (j : Int) t ow = some (cs.set j (cs[j] ++ [(t, ow)]), tk.erase (j : Int)) := by rw [at_ j rfl hj]; simp only [stepJ, ec, ep, hf]; rfl
            refine ⟨_, rfl, _, rfl, .int _, _, .int _, ints_dp (SqL.of hL7.taken), (sh_int _).ok, (shInts _).ok, _, rfl, ?_⟩
            rw [any_intD]
            by_cases mem : (j : Int) ∈ tk
            · obtain ⟨i, i1, i2, i3, i4⟩ := first_at mem
              refine ifT (decide_eq_true mem) ⟨_, rfl, .inl ⟨rfl, _, SqL.of hL7.taken⟩, _, rfl, TK, tk, _, i, rfl, rfl, hL7.taken, i2, i3, ?_⟩
              rw [i4]
              exact yes _ _ st _ (((Keep.same e16).trans kp7).trans (Keep.put (by simp))) (((KT.of e16).trans kt7).trans (KT.lst hL7.taken)) (hL7.setT _ (hL.tknd.erase _) fun k hk => hL7.tkin k (List.mem_of_mem_erase hk))
            · refine ifF (decide_eq_false mem) ?_
              rw [List.erase_of_not_mem mem] at st
              exact yes _ _ st _ ((Keep.same e16).trans kp7) ((KT.of e16).trans kt7) hL7
        | remove =>
          refine ⟨fun _ H' => Q .non H', ?_, fun _ _ h => h⟩
          obtain ⟨p6, g1, g2, g3, g4, pm⟩ := hL1.row hj
          refine ⟨_, rfl, rfl, _, rfl, ifF (by decide +kernel) ⟨_, rfl, rfl, _, rfl, ifT (by decide +kernel) ⟨_, rfl, _, rfl, _, rfl, LL, _, _, _, rfl, rfl, SqL.of hL1.lists, at_nat g2, oD ow, _, o_dp (e1 _ _ ht), .lst (SqL.of g3) g4.dp, (shO ow).ok, (shOs _).ok, _, rfl, ?_⟩⟩⟩
          rw [any_oD]
          cases em : decide (ow ∈ cs[j].map Prod.snd) with
          | false =>
            refine iteT ⟨(by show 1 ≤ sizeLine; decide), fun p hp => no ?_ _ p (e1.trans (Same.new hp)) upd_same⟩
            rw [at_ j rfl hj]
            simp only [stepJ, ec]
            cases ea : atOw ow cs[j] with
            | none => rfl
            | some i =>
              exfalso
              have g9 := mem_of_get (at_ow_spec ea).1
              obtain ⟨u, hu, eu⟩ := List.mem_map.mp g9
              have eq : u = ow := by
                have := eqv_oD u ow
                rw [eu, (shO ow).refl] at this
                exact of_decide_eq_true this.symm
              rw [eq] at hu
              rw [decide_eq_true hu] at em
              cases em
          | true =>
            obtain ⟨i, hi⟩ := at_ow (of_decide_eq_true em)
            obtain ⟨i1, i2, i3⟩ := at_ow_spec hi
            refine iteF ⟨_, rfl, _, rfl, LL, _, _, _, rfl, rfl, SqL.of hL1.lists, at_nat g2, .inl ⟨rfl, _, SqL.of g3⟩, _, rfl, p6, _, _, oD ow, _, i, oD ow, rfl, rfl, g3, g4.dp, o_dp (e1 _ _ ht), (shOs _).ok, (shO ow).ok, i1, (by rw [eqv_oD]; simp), i2, ?_⟩
            have eE : (cs[j].map wV).eraseIdx i = (cs[j].eraseIdx i).map wV := i3 wV
            rw [eE]
            exact yes _ _ (by rw [at_ j rfl hj]; simp only [stepJ, ec, hi]) _ ((Keep.same e1).trans (Keep.put (List.mem_cons_of_mem _ pm))) ((KT.of e1).trans (KT.lst g3)) (hL1.setR g1 (fun z hz => g4 z (List.mem_of_mem_eraseIdx hz)) (Nat.le_trans (List.length_eraseIdx_le _ _) (hL.thin _ (List.getElem_mem hj))))
        | hold =>
          refine ⟨fun _ H' => Q .non H', ?_, fun _ _ h => h⟩
          refine ⟨_, rfl, rfl, _, rfl, ifF (by decide +kernel) ⟨_, rfl, rfl, _, rfl, ifF (by decide +kernel) ⟨_, rfl, _, rfl, iteT ⟨(by show 1 ≤ sizeLine; decide), fun p hp => no (by rw [at_ j rfl hj]; simp only [stepJ, ec]; rw [if_neg (by rw [hf]; decide)]) _ p (e1.trans (Same.new hp)) upd_same⟩⟩⟩⟩
      · rw [decide_eq_false nm]
        have hf : (cs[j].isEmpty && !decide ((j : Int) ∈ tk)) = true := by rw [decide_eq_false nm, e0]; rfl
        cases ac with
        | give => exact absurd rfl isG
        | add =>
          refine ⟨fun _ H' => Q .non H', ?_, fun _ _ h => h⟩
          refine ⟨_, rfl, rfl, _, rfl, ifT (by decide +kernel) ⟨_, rfl, _, rfl, iteT (iteT ⟨(by show 1 ≤ sizeLine; decide), fun p hp => no (by rw [at_ j rfl hj]; simp only [stepJ, ec, hf]; simp) _ p (e1.trans (Same.new hp)) upd_same⟩)⟩⟩
        | remove =>
          refine ⟨fun _ H' => Q .non H', ?_, fun _ _ h => h⟩
          obtain ⟨p6, g1, g2, g3, g4, pm⟩ := hL1.row hj
          refine ⟨_, rfl, rfl, _, rfl, ifF (by decide +kernel) ⟨_, rfl, rfl, _, rfl, ifT (by decide +kernel) ⟨_, rfl, _, rfl, _, rfl, LL, _, _, _, rfl, rfl, SqL.of hL1.lists, at_nat g2, oD ow, _, o_dp (e1 _ _ ht), .lst (SqL.of g3) g4.dp, (shO ow).ok, (shOs _).ok, _, rfl, ?_⟩⟩⟩
          rw [any_oD]
          cases em : decide (ow ∈ cs[j].map Prod.snd) with
          | false =>
            refine iteT ⟨(by show 1 ≤ sizeLine; decide), fun p hp => no ?_ _ p (e1.trans (Same.new hp)) upd_same⟩
            rw [at_ j rfl hj]
            simp only [stepJ, ec]
            cases ea : atOw ow cs[j] with
            | none => rfl
            | some i =>
              exfalso
              have g9 := mem_of_get (at_ow_spec ea).1
              obtain ⟨u, hu, eu⟩ := List.mem_map.mp g9
              have eq : u = ow := by
                have := eqv_oD u ow
                rw [eu, (shO ow).refl] at this
                exact of_decide_eq_true this.symm
              rw [eq] at hu
              rw [decide_eq_true hu] at em
              cases em
          | true =>
            obtain ⟨i, hi⟩ := at_ow (of_decide_eq_true em)
            obtain ⟨i1, i2, i3⟩ := at_ow_spec hi
            refine iteF ⟨_, rfl, _, rfl, LL, _, _, _, rfl, rfl, SqL.of hL1.lists, at_nat g2, .inl ⟨rfl, _, SqL.of g3⟩, _, rfl, p6, _, _, oD ow, _, i, oD ow, rfl, rfl, g3, g4.dp, o_dp (e1 _ _ ht), (shOs _).ok, (shO ow).ok, i1, (by rw [eqv_oD]; simp), i2, ?_⟩
            have eE : (cs[j].map wV).eraseIdx i = (cs[j].eraseIdx i).map wV := i3 wV
            rw [eE]
            exact yes _ _ (by rw [at_ j rfl hj]; simp only [stepJ, ec, hi]) _ ((Keep.same e1).trans (Keep.put (List.mem_cons_of_mem _ pm))) ((KT.of e1).trans (KT.lst g3)) (hL1.setR g1 (fun z hz => g4 z (List.mem_of_mem_eraseIdx hz)) (Nat.le_trans (List.length_eraseIdx_le _ _) (hL.thin _ (List.getElem_mem hj))))
        | hold =>
          refine ⟨fun _ H' => Q .non H', ?_, fun _ _ h => h⟩
          refine ⟨_, rfl, rfl, _, rfl, ifF (by decide +kernel) ⟨_, rfl, rfl, _, rfl, ifF (by decide +kernel) ⟨_, rfl, _, rfl, iteF ⟨_, rfl, .inl ⟨rfl, _, SqL.of hL1.taken⟩, _, rfl, TK, _, _, rfl, rfl, hL1.taken, ?_, ?_⟩⟩⟩⟩
          · rw [List.length_map]
            exact Nat.lt_of_le_of_lt tl (by decide)
          · have eA : tk.map V.int ++ [V.int (j : Int)] = (tk ++ [(j : Int)]).map V.int := by rw [List.map_append]; rfl
            rw [eA]
            exact yes _ _ (by rw [at_ j rfl hj]; simp only [stepJ, ec]; rw [if_pos hf]) _ ((Keep.same e1).trans (Keep.put (by simp))) ((KT.of e1).trans (KT.lst hL1.taken)) (hL1.setT _ (List.nodup_append.mpr ⟨hL.tknd, by simp, fun x hx y hy => by rw [List.mem_singleton.mp hy]; exact fun z => nm (z ▸ hx)⟩) fun k hk => by
              rcases List.mem_append.mp hk with hk | hk
              · exact hL.tkin k hk
              · rw [List.mem_singleton.mp hk]; omega)

theorem ok__law_victim (T : Txt K mg a) : FnOk P w K mg base CX0 1 a.f__law_victim a.d__law_victim ["lists", "place", "passed"] (spLVictim K) := by
  refine T.F__law_victim.ok sc__law_victim (fun vs H Q E h => ?_) (fun cdv A outer s H vs Q E hr h => ?_)
  · obtain ⟨LL, TK, tp, r, bs, cs, tk, ts, ps, pl, rfl, _⟩ := h
    rfl
  · obtain ⟨LL, TK, tp, r, bs, cs, tk, ts, ps, pl, rfl, hL, hP, lp, pl0, q⟩ := h
    refine ⟨_, (pss_cons (ps_for PassesOwn.never rfl (pi_range1 rfl T.b_range (pa_cons (pe_callB call_len_seq (by rfl) T.b_len (by decide +kernel) (pa_cons (pv 0) pa_nil)) pa_nil)) (pg_name (i := 3) sc__law_victim.nd rfl (Or.inl rfl))
    (pss_cons (ps_set (i := 4) sc__law_victim.nd rfl (Or.inl rfl) (pe_op op_mod (pe_op op_add (pv 1) (pv 3)) (pe_callB call_len_seq (by rfl) T.b_len (by decide +kernel) (pa_cons (pv 0) pa_nil))))
    (pss_one (ps_if (PW.pt (pw_and (pt_cmpR (op_neD hr.units) (pe_ix ix_list (pv 0) (pv 4) (fun _ _ => rfl)) (pe_lst pa_nil) (nomark _)) (pw_and1 (pt_cmpR (op_notInD (hu65 hr)) (pv 4) (pv 2) rfl)))) (pss_one (ps_ret (pv 4))) pss_nil))))
    (pss_one (ps_ret pe_non))), ?_⟩
    have few := hL.few
    have lenA := hL.rows.len
    have eLi : ((bs.map V.ref).length : Int) = (cs.length : Int) := by rw [List.length_map, lenA]
    obtain ⟨c, ec⟩ : ∃ c : Nat → Bool, c = fun n : Nat => !((cs[n]?.getD []).isEmpty) && !decide ((n : Int) ∈ ps) := ⟨_, rfl⟩
    obtain ⟨g, eg⟩ : ∃ g : Nat → Nat, g = fun d => ((pl + (d : Nat)) % (cs.length : Int)).toNat := ⟨_, rfl⟩
    have eV : vicM cs ps pl cs.length = ((List.range cs.length).map g).find? c := by rw [ec, eg]; rfl
    refine ⟨_, rfl, LL, _, rfl, .inl (SqL.of hL.lists), _, rfl, by rw [eLi]; omega, by rw [eLi]; omega, ?_⟩
    rw [eLi]
    refine for_range (lo := 0) (n := ((cs.length : Nat) : Int).toNat) (fun i σ H' => ∃ x3 x4, σ = [some (.ref LL), some (.int pl), some (.ref r), x3, x4] ∧ Same H H' ∧ ∀ d, d < i → c (g d) = false)
      ⟨none, none, rfl, Same.refl H, fun _ h => absurd h (Nat.not_lt_zero _)⟩ ?_ ?_
    · rintro i σ H' hi ⟨x3, x4, rfl, eS, hn⟩
      have hi2 : i < cs.length := by simpa using hi
      have a0 := Int.emod_nonneg (pl + (i : Int)) (by omega : (cs.length : Int) ≠ 0)
      have a1 := Int.emod_lt_of_pos (pl + (i : Int)) (by omega : (0 : Int) < (cs.length : Int))
      have hg : g i = ((pl + (i : Int)) % (cs.length : Int)).toNat := by rw [eg]
      have hgl : g i < cs.length := by rw [hg]; omega
      have ev : (pl + (0 + (i : Int))) % (cs.length : Int) = ((g i : Nat) : Int) := by rw [hg, Int.zero_add]; omega
      have hL1 := hL.same eS
      obtain ⟨p, h1, h2, h3, h4, _⟩ := hL1.row hgl
      refine ⟨_, rfl, _, rfl, _, _, rfl, rfl, _, rfl, LL, _, rfl, .inl (SqL.of hL1.lists), _, _, rfl, rfl, (by show (0 : Int) < ((bs.map V.ref).length : Int); rw [eLi]; omega), ?_⟩
      have next : c (g i) = false → ∀ d, d < i + 1 → c (g d) = false := fun k d hd => by
        by_cases e : d = i
        · rw [e]
          exact k
        · exact hn d (by omega)
      have cgi : c (g i) = (!(cs[g i].isEmpty) && !decide (((g i : Nat) : Int) ∈ ps)) := by
        rw [ec]
        simp only [List.getElem?_eq_getElem hgl, Option.getD_some]
      have ev2 : (pl + (0 + (i : Int))) % ((bs.map V.ref).length : Int) = ((g i : Nat) : Int) := by rw [eLi]; exact ev
      refine ⟨_, rfl, _, rfl, LL, _, _, .ref p, rfl, rfl, SqL.of hL1.lists, (at_of (j := g i) ev2 h2), Nat.zero_le _, fun t ht => ?_⟩
      have eS2 := eS.trans (Same.new (o := .lst []) ht)
      have hL2 := hL.same eS2
      refine ⟨_, .list [], .lst (SqL.of ((Same.new ht) _ _ h3)) (hL2.row hgl).choose_spec.2.2.2.1.dp, .lst (SqL.of upd_same) .nil, (shOs _).ok, shNil.ok, _, rfl, ?_⟩
      rw [eqv_nilD]
      have ee2 : (List.map oD (List.map Prod.snd cs[g i])).isEmpty = cs[g i].isEmpty := by cases cs[g i] <;> rfl
      rw [ee2]
      cases ee : cs[g i].isEmpty with
      | true => exact iteF (iteF ⟨_, _, rfl, eS2, next (by rw [cgi, ee]; rfl)⟩)
      | false =>
        refine iteT ⟨_, rfl, _, rfl, .int _, _, .int _, ints_dp (eS2.seq hP), (sh_int _).ok, (shInts _).ok, _, rfl, ?_⟩
        rw [any_intD, ev2]
        cases em : decide (((g i : Nat) : Int) ∈ ps) with
        | true => exact iteF ⟨_, _, rfl, eS2, next (by rw [cgi, ee, em]; rfl)⟩
        | false =>
          refine iteT ⟨_, rfl, ?_⟩
          have hit : vicM cs ps pl cs.length = some (g i) := by
            rw [eV]
            exact find_range hi2 (by rw [cgi, ee, em]; rfl) hn
          have := q _ eS2
          rw [hit] at this
          show Q (.int ((pl + (0 + (i : Int))) % ((bs.map V.ref).length : Int))) _
          rw [ev2]
          exact this
    · rintro σ H' ⟨x3, x4, rfl, eS, hn⟩
      have := q H' eS
      rw [eV, find_none fun d hd => hn d (by simpa using hd)] at this
      exact this
theorem ok__law_same (T : Txt K mg a) : FnOk P w K mg base CX0 6 a.f__law_same a.d__law_same ["owners", "lists", "taken"] (spLSame a.C_Owners a.C_Hand) := by
  refine T.F__law_same.ok sc__law_same (fun vs H Q E h => ?_) (fun cdv A outer s H vs Q E hr h => ?_)
  · obtain ⟨o, dx, L, M, hd, hx, LL, TK, tp, as, bs, cs, tk, ts, pl, rfl, _⟩ := h
    rfl
  · obtain ⟨o, dx, L, M, hd, hx, LL, TK, tp, as, bs, cs, tk, ts, pl, rfl, S, tl, q⟩ := h
    refine ⟨_, (pss_cons (ps_if (PW.pt (pw_or (pt_cmpR (op_neD hr.units) (pe_meth0 (pv 0) T.c_Owners T.M_Owners_free (ok_Owners_free T) (hr.mono (by decide)) T.B_Owners_free .nil pass0) (pe_call (ok__law_free T) (hr.mono (by decide)) rfl T.m__law_free T.F__law_free.kp T.B__law_free .nil pass0 (pa_cons (pv 1) (pa_cons (pv 2) pa_nil))) (nomark _)) (pw_or1 (pt_cmpR (op_neD hr.units) (pe_meth0 (pv 0) T.c_Owners T.M_Owners_in_hands (ok_Owners_in_hands T) (hr.mono (by decide)) T.B_Owners_in_hands .nil pass0) (pe_callB cr_sortedI (by rfl) T.b_sorted (by decide +kernel) (pa_cons (pv 2) pa_nil)) (nomark _))))) (pss_one (ps_ret pe_bl)) pss_nil)
    (pss_cons (ps_for PassesOwn.never rfl (pi_range1 rfl T.b_range (pa_cons (pe_callB call_len_seq (by rfl) T.b_len (by decide +kernel) (pa_cons (pv 1) pa_nil)) pa_nil)) (pg_name (i := 3) sc__law_same.nd rfl (Or.inl rfl))
    (pss_one (ps_if (pt_cmpR (op_neD hr.units) (pe_meth (pv 0) T.c_Owners T.M_Owners_owners (ok_Owners_owners T) (hr.mono (by decide)) T.B_Owners_owners .nil passL (pa_cons (pv 3) pa_nil)) (pe_ix ix_list (pv 1) (pv 3) (fun _ _ => rfl)) (nomark _)) (pss_one (ps_ret pe_bl)) pss_nil)))
    (pss_one (ps_ret pe_bl)))), ?_⟩
    have few := S.law.few
    have lenA := S.law.rows.len
    have eLi : ((bs.map V.ref).length : Int) = (cs.length : Int) := by rw [List.length_map, lenA]
    refine ⟨_, rfl, o, dx, _, rfl, S.own.ins, rfl, o, dx, L, M, as, cs, _, rfl, S.own, fun H1 p e1 _ hp => ?_⟩
    have S1 := S.same e1
    refine ⟨_, rfl, _, rfl, LL, TK, tp, bs, cs, tk, ts, rfl, S1.law, fun H2 p2 e2 _ hp2 => ?_⟩
    have S2 := S1.same e2
    rw [nInt_map] at hp hp2
    refine ⟨_, _, ints_dp (SqL.of (e2 _ _ hp)), ints_dp (SqL.of hp2), (shInts _).ok, (shInts _).ok, _, rfl, ifF (by rw [(shInts _).refl]; rfl) ?_⟩
    refine ⟨_, rfl, o, dx, _, rfl, S2.own.ins, rfl, o, dx, L, M, as, cs, _, rfl, S2.own, fun H3 p3 e3 _ hp3 => ?_⟩
    have S3 := S2.same e3
    refine ⟨_, rfl, TK, tk, rfl, SqL.of S3.law.taken, fun ns' p4 pm ps4 h4 => ?_⟩
    have e4 := Same.new (o := .lst (ns'.map V.int)) h4
    have S4 := S3.same e4
    rw [nInt_map, ← held_sorted S.law.tknd S.law.tkin pm ps4] at hp3
    refine ⟨_, _, ints_dp (SqL.of (e4 _ _ hp3)), ints_dp (SqL.of upd_same), (shInts _).ok, (shInts _).ok, _, rfl, ifF (by rw [(shInts _).refl]; rfl) ?_⟩
    have eH := ((e1.trans e2).trans e3).trans e4
    generalize upd H3 p4 (.lst (ns'.map V.int)) = H4 at S4 eH ⊢
    refine ⟨_, rfl, LL, _, rfl, .inl (SqL.of S4.law.lists), _, rfl, by rw [eLi]; omega, by rw [eLi]; omega, ?_⟩
    rw [eLi]
    refine for_range (lo := 0) (n := ((cs.length : Nat) : Int).toNat) (fun i σ H' => ∃ x3, σ = [some (.ref o), some (.ref LL), some (.ref TK), x3] ∧ Same H4 H')
      ⟨none, rfl, Same.refl H4⟩ ?_ ?_
    · rintro i σ H' hi ⟨x3, rfl, eS⟩
      have hi2 : i < cs.length := by simpa using hi
      have S5 := S4.same eS
      have ei : (0 + (i : Int)) = ((i : Nat) : Int) := Int.zero_add _
      refine ⟨_, rfl, o, dx, _, rfl, S5.own.ins, rfl, _, rfl, o, dx, L, M, as, cs, _, _, rfl, S5.own, fun j ej c0 hc0 tp2 htp => ?_, fun hout => absurd ⟨by omega, by omega⟩ hout⟩
      have ej2 : j = i := by omega
      subst ej2
      have ec0 : c0 = cs[j] := by rw [List.getElem?_eq_getElem hi2] at hc0; exact (Option.some.inj hc0).symm
      subst ec0
      have e5 := Same.new (o := .lst (cs[j].map wV)) htp
      have S6 := S5.same e5
      obtain ⟨p6, g1, g2, g3, g4, _⟩ := S6.law.row hi2
      refine ⟨_, rfl, _, rfl, LL, _, _, _, rfl, rfl, SqL.of S6.law.lists, at_of (j := j) (by omega) g2, _, _, .lst (SqL.of upd_same) g4.dp, .lst (SqL.of g3) g4.dp, (shOs _).ok, (shOs _).ok, _, rfl, ifF (by rw [(shOs _).refl]; rfl) ?_⟩
      exact ⟨_, rfl, eS.trans e5⟩
    · rintro σ H' ⟨x3, rfl, eS⟩
      exact q H' (eH.trans eS)
theorem ok__law_taken (T : Txt K mg a) : FnOk P w K mg base CX0 4 a.f__law_taken a.d__law_taken ["owners", "lists", "taken"] (spLTaken a.C_Owners a.C_Hand) := by
  refine T.F__law_taken.ok sc__law_taken (fun vs H Q E h => ?_) (fun cdv A outer s H vs Q E hr h => ?_)
  · obtain ⟨o, dx, L, M, hd, hx, LL, TK, tp, as, bs, cs, tk, ts, pl, rfl, _⟩ := h
    rfl
  · obtain ⟨o, dx, L, M, hd, hx, LL, TK, tp, as, bs, cs, tk, ts, pl, rfl, S, tl, q⟩ := h
    refine ⟨_, (pss_cons (ps_set (i := 3) sc__law_taken.nd rfl (Or.inl rfl) (pe_meth0 (pv 0) T.c_Owners T.M_Owners_take (ok_Owners_take T) (hr.mono (by decide)) T.B_Owners_take .nil pass0))
    (pss_cons (ps_set (i := 4) sc__law_taken.nd rfl (Or.inl rfl) (pe_call (ok__law_free T) (hr.mono (by decide)) rfl T.m__law_free T.F__law_free.kp T.B__law_free .nil pass0 (pa_cons (pv 1) (pa_cons (pv 2) pa_nil))))
    (pss_cons (ps_if (pt_cmpR (op_eqD hr.units) (pv 4) (pe_lst pa_nil) (nomark _)) (pss_one (ps_ret (pe_cmpR (op_isN) (pv 3) pe_non (by rfl)))) pss_nil)
    (pss_cons (ps_expr (pe_bm PySem.F.plainAttrs_list PySem.F.slot_list_append PySem.F.type_list_append mt_append (pv 2) (pa_cons (pe_ix ix_list (pv 4) pe_int (fun _ _ => rfl)) pa_nil)))
    (pss_one (ps_ret (pe_cmpR (op_eq) (pv 3) (pe_ix ix_list (pv 4) pe_int (fun _ _ => rfl)) (nomark _)))))))), ?_⟩
    refine ⟨_, rfl, o, dx, _, rfl, S.own.ins, rfl, o, dx, L, M, as, cs, _, rfl, S.own, fun f0 H1 e1 => ?_, fun j fj H1 k1 t1 hO1 => ?_⟩
    · have S1 := S.same e1
      refine ⟨_, rfl, _, rfl, LL, TK, tp, bs, cs, tk, ts, rfl, S1.law, fun H2 p2 e2 _ hp2 => ?_⟩
      have S2 := S1.same e2
      have ef : freeL cs (hsOf cs.length tk) = [] := by
        cases e : freeL cs (hsOf cs.length tk) with
        | nil => rfl
        | cons x r => rw [e] at f0; cases f0
      rw [ef] at hp2
      refine ⟨_, rfl, Nat.zero_le _, fun t ht => ⟨.list [], .list [], .lst (SqL.of ((Same.new ht) _ _ hp2)) .nil, .lst (SqL.of upd_same) .nil, shNil.ok, shNil.ok, _, rfl, ?_⟩⟩
      refine ifT (by rw [shNil.refl]) ⟨_, rfl, rfl, ?_⟩
      exact q _ tk (S2.same (Same.new ht)) (Nat.le_succ _) (((KT.of e1).trans (KT.of e2)).trans (KT.of (Same.new ht)))
    · have hm : j ∈ freeL cs (hsOf cs.length tk) := mem_of_get fj
      have hj : j < cs.length := List.mem_range.mp (List.mem_filter.mp hm).1
      have hfr := (List.mem_filter.mp hm).2
      rw [freeB_hs rfl hj] at hfr
      have nm : (j : Int) ∉ tk := fun z => by rw [decide_eq_true z] at hfr; simp at hfr
      rw [hsOf_add] at hO1
      have apM : ∀ p ∈ LL :: TK :: tp :: bs, p ∉ [M] := fun p hp z => by
        rw [List.mem_singleton.mp z] at hp
        exact S.apart M (by simp) hp
      have hL1 := S.law.keep k1 apM t1
      have hH1 : HandAt a.C_Hand H1 hd hx cs.length pl := ⟨k1 _ _ (fun z => ne_of S.hand.ins S.own.held (fun z => nomatch z) (List.mem_singleton.mp z)) S.hand.ins⟩
      refine ⟨_, rfl, _, rfl, LL, TK, tp, bs, cs, tk, ts, rfl, hL1, fun H2 p2 e2 _ hp2 => ?_⟩
      have hL2 := hL1.same e2
      have hO2 := hO1.same e2
      have ef : ∃ r, freeL cs (hsOf cs.length tk) = j :: r := by
        cases e : freeL cs (hsOf cs.length tk) with
        | nil => rw [e] at fj; cases fj
        | cons x r => rw [e] at fj; cases fj; exact ⟨r, rfl⟩
      obtain ⟨r, er⟩ := ef
      rw [er] at hp2
      have hp3 := hp2
      rw [nInt_map] at hp2
      refine ⟨_, rfl, Nat.zero_le _, fun t ht => ⟨_, .list [], ints_dp (SqL.of ((Same.new ht) _ _ hp2)), .lst (SqL.of upd_same) .nil, (shInts _).ok, shNil.ok, _, rfl, ?_⟩⟩
      rw [eqv_nilD]
      have e3 := Same.new (o := .lst []) ht
      have hL3 := hL2.same e3
      have hO3 := hO2.same e3
      have hp4 := e3 _ _ hp3
      have hH3 : HandAt a.C_Hand (upd H2 t (.lst [])) hd hx cs.length pl := ⟨e3 _ _ (e2 _ _ hH1.ins)⟩
      have kt3 := (t1.trans (KT.of e2)).trans (KT.of e3)
      generalize upd H2 t (.lst []) = H3 at hL3 hO3 hp4 hH3 kt3 ⊢
      refine iteF ⟨_, rfl, .inl ⟨rfl, _, SqL.of hL3.taken⟩, _, rfl, p2, _, _, _, rfl, rfl, SqL.of hp4, at_of (j := 0) rfl rfl, TK, _, _, rfl, rfl, hL3.taken, ?_, ?_⟩
      · rw [List.length_map]
        exact Nat.lt_of_le_of_lt tl (by decide)
      have eA : tk.map V.int ++ [V.int (j : Nat)] = (tk ++ [(j : Int)]).map V.int := by rw [List.map_append]; rfl
      show ∃ x, _
      rw [eA]
      have hL4 := hL3.setT (tk ++ [(j : Int)]) (List.nodup_append.mpr ⟨S.law.tknd, by simp, fun x hx y hy => by rw [List.mem_singleton.mp hy]; exact fun z => nm (z ▸ hx)⟩) fun k hk => by
        rcases List.mem_append.mp hk with hk | hk
        · exact S.law.tkin k hk
        · rw [List.mem_singleton.mp hk]; omega
      have kp4 : Keep [TK] H3 (upd H3 TK (.lst ((tk ++ [(j : Int)]).map V.int))) := Keep.put (by simp)
      have kt4 : KT H3 (upd H3 TK (.lst ((tk ++ [(j : Int)]).map V.int))) := KT.lst hL3.taken
      have hO4 := hO3.keep kp4 (fun p hp z => by
        rw [List.mem_singleton.mp z] at hp
        rcases List.mem_cons.mp hp with e | hp
        · exact ne_of hL3.taken hO3.ins (fun z => nomatch z) e
        · exact S.apart TK hp (by simp)) kt4
      have hH4 : HandAt a.C_Hand (upd H3 TK (.lst ((tk ++ [(j : Int)]).map V.int))) hd hx cs.length pl := ⟨kp4 _ _ (fun z => ne_of hH3.ins hL3.taken (fun z => nomatch z) (List.mem_singleton.mp z)) hH3.ins⟩
      have np2 : p2 ≠ TK := fun z => by
        rw [z, hL3.taken] at hp4
        have := congrArg (fun o => match o with | some (HO.lst xs) => xs.length | _ => 0) hp4
        have h5 := congrArg (fun o => match o with | some (HO.lst xs) => xs[0]? | _ => none) hp4
        cases tk with
        | nil => simp [nInt] at this
        | cons k tk =>
          simp [nInt] at h5
          exact nm (by rw [← h5]; exact List.mem_cons_self ..)
      refine ⟨_, rfl, _, rfl, p2, _, _, _, rfl, rfl, SqL.of (kp4 _ _ (fun z => np2 (List.mem_singleton.mp z)) hp4), at_of (j := 0) rfl rfl, rfl, ?_⟩
      have ed : decide (V.int ((j : Nat) : Int) = V.int ((j : Nat) : Int)) = true := by simp
      rw [ed]
      exact q _ _ ⟨hO4, hL4, hH4, S.apart, S.pl0⟩ (by rw [List.length_append, List.length_singleton]; omega) (kt3.trans kt4)

theorem ok__law_hand (T : Txt K mg a) : FnOk P w K mg base CX0 7 a.f__law_hand a.d__law_hand ["hand", "owners", "lists", "place", "passed"] (spLHand K a.C_Owners a.C_Hand) := by
  refine T.F__law_hand.ok sc__law_hand (fun vs H Q E h => ?_) (fun cdv A outer s H vs Q E hr h => ?_)
  · obtain ⟨o, dx, L, M, hd, hx, LL, TK, tp, r, as, bs, cs, tk, ts, ps, pl, rfl, _⟩ := h
    rfl
  · obtain ⟨o, dx, L, M, hd, hx, LL, TK, tp, r, as, bs, cs, tk, ts, ps, pl, rfl, S, hP, lp, q⟩ := h
    refine ⟨_, (pss_cons (ps_set (i := 5) sc__law_hand.nd rfl (Or.inl rfl) (pe_call (ok__law_victim T) (hr.mono (by decide)) rfl T.m__law_victim T.F__law_victim.kp T.B__law_victim .nil pass0 (pa_cons (pv 2) (pa_cons (pv 3) (pa_cons (pv 4) pa_nil)))))
    (pss_cons (ps_set (i := 6) sc__law_hand.nd rfl (Or.inl rfl) (pe_callTy call_list_of (by rfl) T.b_list (by decide +kernel) (pa_cons (pv 4) pa_nil)))
    (pss_cons (ps_set (i := 7) sc__law_hand.nd rfl (Or.inl rfl) (pe_meth (pv 0) T.c_Hand T.M_Hand_victim (ok_Hand_victim T) (hr.mono (by decide)) T.B_Hand_victim .nil pass0 (pa_cons (pv 1) (pa_cons (pv 4) pa_nil))))
    (pss_cons (ps_if (PW.pt (pw_or (pt_cmpR (op_neD hr.units) (pv 6) (pv 4) (nomark _)) (pw_or (pt_cmpR (op_ne) (pe_cmpR (op_isN) (pv 5) pe_non (by rfl)) (pe_cmpR (op_isN) (pv 7) pe_non (by rfl)) (nomark _)) (pw_or1 (PW.pt (pw_and (pt_cmpR (op_notN) (pv 5) pe_non (by rfl)) (pw_and1 (pt_cmpR (op_ne) (pv 7) (pv 5) (nomark _))))))))) (pss_one (ps_ret pe_non)) pss_nil)
    (pss_mid (ps_if (pt_cmpR (op_notN) (pv 5) pe_non (by rfl)) (pss_one (ps_set (i := 3) sc__law_hand.nd rfl (Or.inl rfl) (pe_op op_mod (pe_op op_add (pv 5) pe_int) (pe_callB call_len_seq (by rfl) T.b_len (by decide +kernel) (pa_cons (pv 2) pa_nil))))) pss_nil)
    (pss_cons (ps_if (pt_cmpR (op_ne) (pe_meth0 (pv 0) T.c_Hand T.M_Hand_points_to (ok_Hand_points_to T) (hr.mono (by decide)) T.B_Hand_points_to .nil pass0) (pv 3) (nomark _)) (pss_one (ps_ret pe_non)) pss_nil)
    (pss_one (ps_ret (pv 3))))))))), ?_⟩
    have lenA := S.law.rows.len
    have eLi : ((bs.map V.ref).length : Int) = (cs.length : Int) := by rw [List.length_map, lenA]
    refine ⟨_, rfl, _, rfl, _, rfl, LL, TK, tp, r, bs, cs, tk, ts, ps, pl, rfl, S.law, SqL.of hP, lp, S.pl0, fun H1 e1 => ?_⟩
    have S1 := S.same e1
    have hP1 := e1 _ _ hP
    refine ⟨_, rfl, r, _, rfl, .inl (SqL.of hP1), fun kp hk => ?_⟩
    have e2 := Same.new (o := .lst (ps.map V.int)) hk
    have S2 := S1.same e2
    have hP2 := e2 _ _ hP1
    have hK2 : upd H1 kp (.lst (ps.map V.int)) kp = some (.lst (ps.map V.int)) := upd_same
    have e12 := e1.trans e2
    generalize upd H1 kp (.lst (ps.map V.int)) = H2 at e2 S2 hP2 hK2 e12 ⊢
    refine ⟨_, rfl, hd, hx, _, rfl, S2.hand.ins, rfl, _, rfl, _, rfl, hd, hx, o, dx, L, M, r, as, cs, _, pl, ps, rfl, S2.own, S2.hand, SqL.of hP2, lp, S.pl0, fun hv H3 e3 => ?_, fun j hv H3 s3 h3 => ?_⟩
    · have S3 := S2.same e3
      rw [hv]
      refine ⟨_, rfl, _, rfl, _, _, ints_dp (SqL.of (e3 _ _ hK2)), ints_dp (SqL.of (e3 _ _ hP2)), (shInts _).ok, (shInts _).ok, _, rfl, ifF (by rw [(shInts _).refl]; rfl) ?_⟩
      refine ⟨_, rfl, rfl, _, rfl, rfl, rfl, _, rfl, ifF (by decide) ⟨_, rfl, rfl, _, rfl, iteF (iteF ?_)⟩⟩
      refine ⟨fun σ' H' => H' = H3 ∧ σ' = [some (.ref hd), some (.ref o), some (.ref LL), some (.int pl), some (.ref r), some .non, some (.ref kp), some .non], ⟨_, rfl, rfl, _, rfl, iteF ⟨rfl, rfl⟩⟩, ?_⟩
      rintro σ4 H4 ⟨rfl, rfl⟩
      refine ⟨_, rfl, hd, hx, _, rfl, S3.hand.ins, rfl, hd, hx, _, pl, rfl, S3.hand, _, rfl, rfl, _, rfl, ifF (by simp) ⟨_, rfl, ?_⟩⟩
      exact q _ pl S3 (Same.but (e12.trans e3))
    · have hjl : j < cs.length := by
        have hm := List.mem_of_find?_eq_some hv
        obtain ⟨d, hd1, hd2⟩ := List.mem_map.mp hm
        have := List.mem_range.mp hd1
        have a1 := Int.emod_lt_of_pos (pl + (d : Int)) (by omega : (0 : Int) < (cs.length : Int))
        have a0 := Int.emod_nonneg (pl + (d : Int)) (by omega : (cs.length : Int) ≠ 0)
        omega
      have nL : ∀ {x : Addr} {xs : List V}, H2 x = some (.lst xs) → x ≠ hd := fun hx2 z => ne_of hx2 S2.hand.ins (fun z => nomatch z) z
      have kt3 : KT H2 H3 := s3.kt S2.hand.ins
      have kp3 : Keep [hd] H2 H3 := fun x u n hx2 => s3 x u (fun z => n (List.mem_singleton.mpr z)) hx2
      have no : o ≠ hd := fun z => by
        have h5 := S2.own.ins
        rw [z, S2.hand.ins] at h5
        injection h5 with h5
        injection h5 with a1 a2 a3
        injection a3 with b1 b2
        injection b1 with c1 c2
        cases c2
      have hO3 := S2.own.keep kp3 (fun p hp z => by
        rw [List.mem_singleton.mp z] at hp
        rcases List.mem_cons.mp hp with e | hp
        · exact no e.symm
        rcases List.mem_cons.mp hp with e | hp
        · exact nL S2.own.own e.symm
        rcases List.mem_cons.mp hp with e | hp
        · exact nL S2.own.held e.symm
        · obtain ⟨i, hi, e⟩ := List.mem_iff_getElem.mp hp
          have hi2 : i < cs.length := by rw [← S2.own.rows.len]; exact hi
          exact nL (S2.own.rows.row i hd _ (by rw [List.getElem?_eq_getElem hi, e]) (List.getElem?_eq_getElem hi2)) rfl) kt3
      have hL3 := S2.law.keep kp3 (fun p hp z => by
        rw [List.mem_singleton.mp z] at hp
        rcases List.mem_cons.mp hp with e | hp
        · exact nL S2.law.lists e.symm
        rcases List.mem_cons.mp hp with e | hp
        · exact nL S2.law.taken e.symm
        rcases List.mem_cons.mp hp with e | hp
        · exact nL S2.law.tape e.symm
        · obtain ⟨i, hi, e⟩ := List.mem_iff_getElem.mp hp
          have hi2 : i < cs.length := by rw [← S2.law.rows.len]; exact hi
          exact nL (S2.law.rows.row i hd _ (by rw [List.getElem?_eq_getElem hi, e]) (List.getElem?_eq_getElem hi2)) rfl) kt3
      have S3 : LS a.C_Owners a.C_Hand H3 o dx L M hd hx LL TK tp as bs cs tk ts (((j : Nat) + 1) % (cs.length : Int)) := ⟨hO3, hL3, h3, S.apart, Int.emod_nonneg _ (by omega)⟩
      rw [hv]
      refine ⟨_, rfl, _, rfl, _, _, ints_dp (SqL.of (s3 _ _ (nL hK2) hK2)), ints_dp (SqL.of (s3 _ _ (nL hP2) hP2)), (shInts _).ok, (shInts _).ok, _, rfl, ifF (by rw [(shInts _).refl]; rfl) ?_⟩
      refine ⟨_, rfl, rfl, _, rfl, rfl, rfl, _, rfl, ifF (by simp [natV]) ⟨_, rfl, rfl, _, rfl, iteT ⟨_, rfl, _, rfl, rfl, _, rfl, ifF (by simp [natV]) ?_⟩⟩⟩
      refine ⟨fun σ' H' => H' = H3 ∧ σ' = [some (.ref hd), some (.ref o), some (.ref LL), some (.int (((j : Nat) + 1) % (cs.length : Int))), some (.ref r), some (.int (j : Nat)), some (.ref kp), some (.int (j : Nat))], ?_, ?_⟩
      · refine ⟨_, rfl, rfl, _, rfl, iteT ⟨_, rfl, _, _, rfl, rfl, _, rfl, LL, _, rfl, .inl (SqL.of S3.law.lists), _, _, rfl, rfl, (by show (0 : Int) < ((bs.map V.ref).length : Int); rw [eLi]; omega), ?_⟩⟩
        refine ⟨rfl, ?_⟩
        rw [eLi]
        rfl
      rintro σ4 H4 ⟨rfl, rfl⟩
      refine ⟨_, rfl, hd, hx, _, rfl, S3.hand.ins, rfl, hd, hx, _, _, rfl, S3.hand, _, rfl, rfl, _, rfl, ifF (by simp) ⟨_, rfl, ?_⟩⟩
      exact q _ _ S3 ((Same.but e12).trans s3)

def spLaw (K : PySem.W.Frag) : Sp := fun vs H Q _ => ∃ (p : Addr) (ns : List Int), vs = [.ref p] ∧ SqL K H p (ns.map V.int) ∧ ns.length ≤ 63 ∧ ∀ H', Q (.bl true) H'
theorem ok_law (T : Txt K mg a) : FnOk P w K mg base CX0 8 a.f_law a.d_law ["script"] (spLaw K) := by
  refine T.F_law.ok sc_law (fun vs H Q E h => ?_) (fun cdv A outer s H vs Q E hr h => ?_)
  · obtain ⟨p, ns, rfl, _⟩ := h
    rfl
  · obtain ⟨sp, ns, rfl, hS, hlen, q⟩ := h
    refine ⟨_, (pss_cons (ps_set (i := 1) sc_law.nd rfl (Or.inl rfl) (pe_call (ok__law_tape T) (hr.mono (by decide)) rfl T.m__law_tape T.F__law_tape.kp T.B__law_tape .nil pass0 (pa_cons (pv 0) pa_nil)))
    (pss_cons (ps_set (i := 2) sc_law.nd rfl (Or.inl rfl) (pe_op op_mod (pe_call (ok__law_at T) (hr.mono (by decide)) rfl T.m__law_at T.F__law_at.kp T.B__law_at .nil pass0 (pa_cons (pv 1) (pa_cons pe_int pa_nil))) pe_int))
    (pss_mid (ps_if (pt_cmpR (op_gt) (pe_op op_mod (pe_call (ok__law_at T) (hr.mono (by decide)) rfl T.m__law_at T.F__law_at.kp T.B__law_at .nil pass0 (pa_cons (pv 1) (pa_cons pe_int pa_nil))) pe_int) pe_int (nomark _)) (pss_one (ps_set (i := 2) sc_law.nd rfl (Or.inl rfl) (pe_op op_add pe_int (pe_op op_mod (pv 2) pe_int)))) pss_nil)
    (pss_cons (ps_set (i := 3) sc_law.nd rfl (Or.inl rfl) (pe_make T.mk_Owners (ok_Owners_init T) (hr.mono (by decide)) rfl T.m_Owners T.B_Owners_init .nil pass0 (pa_cons (pv 2) pa_nil)))
    (pss_cons (ps_set (i := 4) sc_law.nd rfl (Or.inl rfl) (pe_make T.mk_Hand (ok_Hand_init T) (hr.mono (by decide)) rfl T.m_Hand T.B_Hand_init .nil pass0 (pa_cons (pv 2) pa_nil)))
    (pss_cons (ps_setLc (i := 5) (own := [("n", 18)]) (g := gName 18) (tt := tYes) rfl sc_law.nd rfl rfl (sw_true rfl rfl rfl (by decide +kernel)) (pi_range1 rfl T.b_range (pa_cons (pv 2) pa_nil)) (blkOk_by (own := [("n", 18)]) (N := ["script", "tape", "many", "owners", "hand", "lists", "taken", "place", "k", "number", "pick", "owner", "act", "target", "at", "told", "due", "found", "n"]) (sc := defScope s_law) (by decide +kernel)) (fun _ _ _ _ _ => (pg_name (i := 18) sc_law.nd rfl (Or.inl rfl))) (fun _ _ _ _ _ => pts_nil) (fun _ _ _ _ _ => (pe_lst pa_nil)))
    (pss_cons (ps_set (i := 6) sc_law.nd rfl (Or.inl rfl) (pe_lst pa_nil))
    (pss_cons (ps_set (i := 7) sc_law.nd rfl (Or.inl rfl) pe_int)
    (pss_cons (ps_for PassesOwn.never rfl (pi_range1 rfl T.b_range (pa_cons (pe_callB (call_min2 rfl) (by rfl) T.b_min (by decide +kernel) (pa_cons pe_int (pa_cons (pe_callB (call_max2 rfl) (by rfl) T.b_max (by decide +kernel) (pa_cons pe_int (pa_cons (pe_op op_fdiv (pe_op op_sub (pe_callB call_len_seq (by rfl) T.b_len (by decide +kernel) (pa_cons (pv 1) pa_nil)) pe_int) pe_int) pa_nil))) pa_nil))) pa_nil)) (pg_name (i := 8) sc_law.nd rfl (Or.inl rfl))
    (pss_cons (ps_set (i := 9) sc_law.nd rfl (Or.inl rfl) (pe_call (ok__law_at T) (hr.mono (by decide)) rfl T.m__law_at T.F__law_at.kp T.B__law_at .nil pass0 (pa_cons (pv 1) (pa_cons (pe_op op_add (pe_op op_mul pe_int (pv 8)) pe_int) pa_nil))))
    (pss_cons (ps_set (i := 10) sc_law.nd rfl (Or.inl rfl) (pe_call (ok__law_at T) (hr.mono (by decide)) rfl T.m__law_at T.F__law_at.kp T.B__law_at .nil pass0 (pa_cons (pv 1) (pa_cons (pe_op op_add (pe_op op_mul pe_int (pv 8)) pe_int) pa_nil))))
    (pss_cons (ps_set (i := 11) sc_law.nd rfl (Or.inl rfl) (pe_ix ix_list (pe_lst (pa_cons (pe_tup (pa_cons (pe_op op_mod (pe_op op_fdiv (pv 10) pe_int) pe_int) (pa_cons (pe_op op_mod (pe_op op_fdiv (pv 10) pe_int) pe_int) pa_nil))) (pa_cons (pe_tup (pa_cons pe_str (pa_cons (pe_op op_mod (pe_op op_fdiv (pv 10) pe_int) pe_int) (pa_cons (pe_op op_mod (pe_op op_fdiv (pv 10) pe_int) pe_int) pa_nil)))) pa_nil))) (pe_callTy call_int1 (by rfl) T.b_int (by decide +kernel) (pa_cons (pe_cmpR (op_eq) (pe_op op_mod (pv 10) pe_int) pe_int (nomark _)) pa_nil)) (fun _ _ => rfl)))
    (pss_cons (ps_set (i := 12) sc_law.nd rfl (Or.inl rfl) (pe_ix ix_list (pe_lst (pa_cons pe_str (pa_cons pe_str (pa_cons pe_str (pa_cons pe_str (pa_cons pe_str (pa_cons pe_str (pa_cons pe_str (pa_cons pe_str (pa_cons pe_str (pa_cons pe_str pa_nil))))))))))) (pe_op op_mod (pv 9) pe_int) (fun _ _ => rfl)))
    (pss_mid (ps_if (pt_cmpR (op_eq) (pv 12) pe_str (nomark _)) (pss_one (ps_if (pt_not (pt_val (pe_call (ok__law_taken T) (hr.mono (by decide)) rfl T.m__law_taken T.F__law_taken.kp T.B__law_taken .nil pass0 (pa_cons (pv 3) (pa_cons (pv 5) (pa_cons (pv 6) pa_nil)))))) (pss_one (ps_ret pe_bl)) pss_nil)) (pss_one (ps_if (pt_cmpR (op_eq) (pv 12) pe_str (nomark _)) (pss_cons (ps_set (i := 7) sc_law.nd rfl (Or.inl rfl) (pe_call (ok__law_hand T) (hr.mono (by decide)) rfl T.m__law_hand T.F__law_hand.kp T.B__law_hand .nil pass0 (pa_cons (pv 4) (pa_cons (pv 3) (pa_cons (pv 5) (pa_cons (pv 7) (pa_cons (pe_slice sl_list (pe_lst (pa_cons (pe_op op_mod (pv 10) pe_int) (pa_cons (pe_op op_mod (pe_op op_fdiv (pv 10) pe_int) pe_int) pa_nil))) po_none (po_some (pe_op op_mod (pv 10) pe_int))) pa_nil)))))))
    (pss_one (ps_if (pt_cmpR (op_isN) (pv 7) pe_non (by rfl)) (pss_one (ps_ret pe_bl)) pss_nil))) (pss_cons (ps_set (i := 13) sc_law.nd rfl (Or.inl rfl) (pe_op op_sub (pe_op op_mod (pv 10) (pe_op op_add (pv 2) pe_int)) pe_int))
    (pss_cons (ps_set (i := 14) sc_law.nd rfl (Or.inl rfl) (pe_call (ok__law_place T) (hr.mono (by decide)) rfl T.m__law_place T.F__law_place.kp T.B__law_place .nil pass0 (pa_cons (pv 5) (pa_cons (pv 11) pa_nil))))
    (pss_mid (ps_if (PW.pt (pw_and (pt_cmpR (op_eq) (pv 12) pe_str (nomark _)) (pw_and (pt_cmpR (op_gt) (pe_op op_mod (pv 10) pe_int) pe_int (nomark _)) (pw_and1 (pt_cmpR (op_notN) (pv 14) pe_non (by rfl)))))) (pss_one (ps_set (i := 13) sc_law.nd rfl (Or.inl rfl) (pv 14))) pss_nil)
    (pss_cons (ps_set (i := 15) sc_law.nd rfl (Or.inl rfl) (pe_call (ok__law_do T) (hr.mono (by decide)) rfl T.m__law_do T.F__law_do.kp T.B__law_do .nil pass0 (pa_cons (pv 3) (pa_cons (pv 12) (pa_cons (pv 13) (pa_cons (pv 11) pa_nil))))))
    (pss_cons (ps_set (i := 16) sc_law.nd rfl (Or.inl rfl) (pe_call (ok__law_due T) (hr.mono (by decide)) rfl T.m__law_due T.F__law_due.kp T.B__law_due .nil pass0 (pa_cons (pv 5) (pa_cons (pv 6) (pa_cons (pv 12) (pa_cons (pv 13) (pa_cons (pv 11) pa_nil)))))))
    (pss_one (ps_if (PW.pt (pw_or (PW.pt (pw_and (pt_cmpR (op_isN) (pv 16) pe_non (by rfl)) (pw_and1 (pt_cmpR (op_notN) (pv 15) pe_non (by rfl))))) (pw_or1 (PW.pt (pw_and (pt_cmpR (op_notN) (pv 16) pe_non (by rfl)) (pw_and1 (pt_cmpR (op_neD hr.units) (pv 15) (pv 16) (nomark _)))))))) (pss_one (ps_ret pe_bl)) pss_nil))))))))))
    (pss_cons (ps_set (i := 17) sc_law.nd rfl (Or.inl rfl) (pe_meth (pv 3) T.c_Owners T.M_Owners_place_of (ok_Owners_place_of T) (hr.mono (by decide)) T.B_Owners_place_of .nil pass0 (pa_cons (pv 11) pa_nil)))
    (pss_cons (ps_set (i := 16) sc_law.nd rfl (Or.inl rfl) (pe_call (ok__law_place T) (hr.mono (by decide)) rfl T.m__law_place T.F__law_place.kp T.B__law_place .nil pass0 (pa_cons (pv 5) (pa_cons (pv 11) pa_nil))))
    (pss_one (ps_if (PW.pt (pw_or (pt_cmpR (op_ne) (pe_cmpR (op_isN) (pv 16) pe_non (by rfl)) (pe_cmpR (op_isN) (pv 17) pe_non (by rfl)) (nomark _)) (pw_or (PW.pt (pw_and (pt_cmpR (op_notN) (pv 16) pe_non (by rfl)) (pw_and1 (pt_cmpR (op_ne) (pv 17) (pv 16) (nomark _))))) (pw_or1 (pt_not (pt_val (pe_call (ok__law_same T) (hr.mono (by decide)) rfl T.m__law_same T.F__law_same.kp T.B__law_same .nil pass0 (pa_cons (pv 3) (pa_cons (pv 5) (pa_cons (pv 6) pa_nil)))))))))) (pss_one (ps_ret pe_bl)) pss_nil))))))))))
    (pss_one (ps_ret pe_bl))))))))))), ?_⟩
    refine ⟨_, rfl, sp, ns, rfl, hS, hlen, fun H1 tp ts e1 tp0 tpL dg tl => ?_⟩
    refine ⟨_, rfl, tp, ts, 0, rfl, SqL.of tpL, by decide, dg, fun x0 x0a x0b => ⟨_, _, rfl, rfl, (by show (0 : Int) < 13; decide), ?_⟩⟩
    have a0 := Int.emod_nonneg x0 (by decide : (13 : Int) ≠ 0)
    have a1 := Int.emod_lt_of_pos x0 (by decide : (0 : Int) < 13)
    refine ⟨fun σ' H' => H' = H1 ∧ ∃ m : Nat, m ≤ 12 ∧ σ' = [some (.ref sp), some (.ref tp), some (.int (m : Nat)), none, none, none, none, none, none, none, none, none, none, none, none, none, none, none, none], ?_, ?_⟩
    · refine ⟨_, rfl, tp, ts, 1, rfl, SqL.of tpL, by decide, dg, fun x1 x1a x1b => ⟨_, _, rfl, rfl, (by show (0 : Int) < 3; decide), _, _, rfl, rfl, _, rfl, ?_⟩⟩
      refine ite2 (fun c => ?_) (fun c => ?_)
      · have b0 := Int.emod_nonneg (x0 % 13) (by decide : (3 : Int) ≠ 0)
        have b1 := Int.emod_lt_of_pos (x0 % 13) (by decide : (0 : Int) < 3)
        refine ⟨_, rfl, _, _, rfl, rfl, (by show (0 : Int) < 3; decide), _, _, rfl, rfl, rfl, (2 + x0 % 13 % 3).toNat, by omega, ?_⟩
        have e : (((2 + x0 % 13 % 3).toNat : Nat) : Int) = 2 + x0 % 13 % 3 := by omega
        rw [e]
        rfl
      · refine ⟨rfl, (x0 % 13).toNat, by omega, ?_⟩
        have e : (((x0 % 13).toNat : Nat) : Int) = x0 % 13 := by omega
        rw [e]
        rfl
    rintro σ2 H2 ⟨rfl, m, hm, rfl⟩
    -- owners, hand
    refine ⟨_, rfl, fun o dx no ndx nod => ⟨o, dx, m, rfl, upd_same, by omega, fun H3 L M as s3 fL fM fas hO3 => ⟨rfl, ?_⟩⟩⟩
    have old : ∀ {x : Addr} {u : HO}, H2 x = some u → H3 x = some u := fun {x u} h => by
      have n1 : x ≠ o := ne_of_none h no
      have n2 : x ≠ dx := ne_of_none h ndx
      exact s3 _ _ n1 (by rw [upd_ne n1, upd_ne n2]; exact h)
    have tp3 := old tpL
    have ntL : ∀ {x : Addr}, upd (upd H2 dx (.own o)) o (.ins a.C_Owners dx []) x = none → tp ≠ x := fun {x} h z => by
      have n1 : tp ≠ o := ne_of_none tpL no
      have n2 : tp ≠ dx := ne_of_none tpL ndx
      rw [← z, upd_ne n1, upd_ne n2, tpL] at h
      cases h
    have tpF : ∀ p ∈ L :: M :: as, p ≠ tp := fun p hp z => by
      rcases List.mem_cons.mp hp with e | hp
      · exact ntL fL (z.symm.trans e)
      rcases List.mem_cons.mp hp with e | hp
      · exact ntL fM (z.symm.trans e)
      · exact ntL (fas p hp) z.symm
    clear s3 fL fM fas ntL
    refine ⟨_, rfl, fun hd hx nh nhx nhd => ⟨hd, hx, m, rfl, upd_same, fun H4 s4 hH4 => ⟨rfl, ?_⟩⟩⟩
    have old4 : Same H3 H4 := fun x u h => by
      have n1 : x ≠ hd := ne_of_none h nh
      have n2 : x ≠ hx := ne_of_none h nhx
      exact s4 _ _ n1 (by rw [upd_ne n1, upd_ne n2]; exact h)
    have hO4 := hO3.same old4
    have tp4 := old4 _ _ tp3
    clear s4 old
    -- lists
    refine ⟨_, rfl, _, rfl, by omega, by omega, fun LL hLL => ?_⟩
    refine lc_range (lo := 0) (n := ((m : Nat) : Int).toNat) (fun i H' => ∃ G bs, H' = upd G LL (.lst (bs.map V.ref)) ∧ Same H4 G ∧ G LL = none ∧ bs.Nodup ∧ bs.length = i ∧ i ≤ m ∧ ∀ p ∈ bs, G p = some (.lst []) ∧ H4 p = none)
      ⟨H4, [], rfl, Same.refl H4, hLL, List.nodup_nil, rfl, Nat.zero_le _, fun _ h => absurd h List.not_mem_nil⟩ ?_ ?_
    · rintro i H' hi ⟨G, bs, rfl, eS, gL, nd, el, ei, hp⟩
      have hi2 : i < m := by simpa using hi
      refine ⟨rfl, Nat.zero_le _, fun p np => ?_⟩
      obtain ⟨eC, gp, gL2⟩ := new_under (o := .lst []) gL np
      have npa : p ∉ bs := fun z => by rw [(hp p z).1] at gp; cases gp
      refine ⟨_, by rw [eC]; exact upd_same, ?_, upd G p (.lst []), bs ++ [p], ?_, eS.trans (Same.new gp), gL2, ?_, ?_, hi2, ?_⟩
      · rw [List.length_map, el]
        exact Nat.lt_of_lt_of_le (by omega : i < 101) (by decide)
      · rw [eC, upd_upd, List.map_append]
        rfl
      · exact List.nodup_append.mpr ⟨nd, by simp, fun x hx y hy => by rw [List.mem_singleton.mp hy]; exact fun z => npa (z ▸ hx)⟩
      · rw [List.length_append, List.length_singleton, el]
      · intro x hx
        rcases List.mem_append.mp hx with hx | hx
        · have nx : x ≠ p := fun z => npa (z ▸ hx)
          exact ⟨(upd_ne nx).trans (hp x hx).1, (hp x hx).2⟩
        · rw [List.mem_singleton.mp hx]
          exact ⟨upd_same, eS.free gp⟩
    rintro H5' ⟨G, bs, rfl, eG, gL, nd, el, _, hp⟩
    have el2 : bs.length = m := by simpa using el
    have e5 : Same H4 (upd G LL (.lst (bs.map V.ref))) := eG.trans (Same.new gL)
    have hL5 : upd G LL (.lst (bs.map V.ref)) LL = some (.lst (bs.map V.ref)) := upd_same
    have hb5 : ∀ p ∈ bs, upd G LL (.lst (bs.map V.ref)) p = some (.lst []) ∧ p ≠ LL ∧ H4 p = none := fun p hpp => by
      have n2 : p ≠ LL := fun z => by rw [z] at hpp; rw [(hp LL hpp).1] at gL; cases gL
      exact ⟨(upd_ne n2).trans (hp p hpp).1, n2, (hp p hpp).2⟩
    generalize upd G LL (.lst (bs.map V.ref)) = H5 at e5 hL5 hb5 ⊢
    refine ⟨Nat.zero_le _, fun TK hTK => ?_⟩
    have e6 := Same.new (o := .lst []) hTK
    have hO6 := (hO4.same e5).same e6
    have hH6 : HandAt a.C_Hand (upd H5 TK (.lst [])) hd hx m 0 := ⟨e6 _ _ (e5 _ _ hH4.ins)⟩
    have tp6 := e6 _ _ (e5 _ _ tp4)
    have hTK5 : H4 TK = none := e5.free hTK
    have inH4 : ∀ p ∈ L :: M :: as, ∃ xs, H4 p = some (.lst xs) := fun p hpp => by
      rcases List.mem_cons.mp hpp with e | hpp
      · exact ⟨_, e ▸ hO4.own⟩
      rcases List.mem_cons.mp hpp with e | hpp
      · exact ⟨_, e ▸ hO4.held⟩
      · obtain ⟨i, hi, e⟩ := List.mem_iff_getElem.mp hpp
        have hi2 : i < (List.replicate m ([] : List (Addr × Ow))).length := by rw [← hO4.rows.len]; exact hi
        exact ⟨_, hO4.rows.row i p _ (by rw [List.getElem?_eq_getElem hi, e]) (List.getElem?_eq_getElem hi2)⟩
    have S6 : LS a.C_Owners a.C_Hand (upd H5 TK (.lst [])) o dx L M hd hx LL TK tp as bs (List.replicate m []) [] ts 0 := by
      refine ⟨?_, ⟨e6 _ _ hL5, ⟨?_, ?_, ?_⟩, upd_same, tp6, ?_, ?_, ?_, List.nodup_nil, ?_⟩, ?_, ?_, Int.le_refl 0⟩
      · have : hsOf (List.replicate m ([] : List (Addr × Ow))).length [] = List.replicate m false := by
          unfold hsOf
          rw [List.length_replicate]
          apply List.ext_getElem
          · simp
          · intro i h1 h2
            simp
        rw [this]
        exact hO6
      · rw [List.length_replicate]
        exact el2
      · intro j p c h1 h2
        have ec : c = [] := List.eq_of_mem_replicate (mem_of_get h2)
        rw [ec]
        exact e6 _ _ (hb5 p (mem_of_get h1)).1
      · intro c hc
        rw [List.eq_of_mem_replicate hc]
        exact fun _ h => absurd h List.not_mem_nil
      · have nTb : TK ∉ bs := fun z => by rw [(hb5 TK z).1] at hTK; cases hTK
        have nLT : LL ≠ TK := fun z => by rw [← z, hL5] at hTK; cases hTK
        have nLtp : LL ≠ tp := fun z => by rw [z, tp4] at hLL; cases hLL
        have nTtp : TK ≠ tp := fun z => by rw [z, tp4] at hTK5; cases hTK5
        have ntb : tp ∉ bs := fun z => by have := (hb5 tp z).2.2; rw [tp4] at this; cases this
        have nLb : LL ∉ bs := fun z => (hb5 LL z).2.1 rfl
        simp only [List.nodup_cons, List.mem_cons, not_or]
        exact ⟨⟨nLT, nLtp, nLb⟩, ⟨nTtp, nTb⟩, ntb, nd⟩
      · rw [List.length_replicate]
        omega
      · intro c hc
        rw [List.eq_of_mem_replicate hc]
        exact Nat.zero_le _
      · intro k hk
        exact absurd hk List.not_mem_nil
      · rw [List.length_replicate]
        exact hH6
      · intro p hpp z
        obtain ⟨xs, hx4⟩ := inH4 p hpp
        rcases List.mem_cons.mp z with e | z
        · rw [e, hLL] at hx4; cases hx4
        rcases List.mem_cons.mp z with e | z
        · rw [e, hTK5] at hx4; cases hx4
        rcases List.mem_cons.mp z with e | z
        · exact tpF p hpp e
        · rw [(hb5 p z).2.2] at hx4; cases hx4
    generalize upd H5 TK (.lst []) = H6 at S6 ⊢
    clear hH6 tp6 inH4 hb5 e6 hO6 hL5 e5 hp eG gL hTK
    -- the loop
    refine ⟨_, rfl, tp, _, rfl, .inl (SqL.of S6.law.tape), _, _, rfl, rfl, _, _, rfl, rfl, ⟨by decide, by decide⟩, _, _, rfl, _, _, rfl, ?_⟩
    refine ⟨_, rfl, ?_, ?_, for_range (lo := 0) (n := _)
      (fun i σ H' => ∃ (x8 x9 x10 x11 x12 x13 x14 x15 x16 x17 x18 : Option V) (cs : Cs) (tk : List Int) (pl : Int), σ = [some (.ref sp), some (.ref tp), some (.int (m : Nat)), some (.ref o), some (.ref hd), some (.ref LL), some (.ref TK), some (.int pl), x8, x9, x10, x11, x12, x13, x14, x15, x16, x17, x18] ∧
        LS a.C_Owners a.C_Hand H' o dx L M hd hx LL TK tp as bs cs tk ts pl ∧ (∀ c ∈ cs, c.length ≤ i) ∧ tk.length ≤ i ∧ cs.length = m)
      ⟨none, none, none, none, none, none, none, none, none, none, none, List.replicate m [], [], 0, rfl, S6, (fun c hc => by rw [List.eq_of_mem_replicate hc]; exact Nat.le_refl _), Nat.le_refl _, by simp⟩ ?_ ?_⟩
    · split
      · split <;> omega
      · omega
    · split
      · split <;> omega
      · omega
    · rintro i σ H7 hi ⟨x8, x9, x10, x11, x12, x13, x14, x15, x16, x17, x18, cs, tk, pl, rfl, S, thin, tkl, csl⟩
      have i70 : i < 70 := by
        split at hi
        · split at hi <;> omega
        · omega
      refine ⟨_, rfl, _, rfl, _, _, rfl, rfl, .inl ⟨by decide, by decide⟩, _, _, rfl, rfl, tp, ts, _, rfl, SqL.of S.law.tape, by omega, dg, fun num n0 n1 => ?_⟩
      refine ⟨_, rfl, _, rfl, _, _, rfl, rfl, .inl ⟨by decide, by decide⟩, _, _, rfl, rfl, tp, ts, _, rfl, SqL.of S.law.tape, by omega, dg, fun pick p0 p1 => ?_⟩
      -- owner
      refine ⟨_, rfl, _, _, rfl, rfl, ⟨by decide, by decide⟩, _, _, rfl, rfl, (by show (0 : Int) < 4; decide), _, rfl, _, _, rfl, rfl, ⟨by decide, by decide⟩, _, _, rfl, rfl, (by show (0 : Int) < 8; decide), (by show 2 ≤ sizeLine; decide), fun t1 h1 =>
        ⟨_, rfl, _, _, rfl, rfl, ⟨by decide, by decide⟩, _, _, rfl, rfl, (by show (0 : Int) < 2; decide), _, rfl, _, _, rfl, rfl, ⟨by decide, by decide⟩, _, _, rfl, rfl, (by show (0 : Int) < 4; decide), (by show 3 ≤ sizeLine; decide), fun t2 h2 => ⟨(by show 2 ≤ sizeLine; decide), fun l3 h3 => ?_⟩⟩⟩
      have g3 := Same.new (o := .lst [.ref t1, .ref t2]) h3
      have g2 := (Same.new (o := .tup [.str "file", .int (pick / 16 % 2), .int (pick / 64 % 4)]) h2).trans g3
      have g1 := (Same.new (o := .tup [.int (pick / 16 % 4), .int (pick / 64 % 8)]) h1).trans g2
      refine ⟨_, rfl, _, _, rfl, rfl, (by show (0 : Int) < 7; decide), rfl, .inr ⟨_, rfl, ?_⟩⟩
      obtain ⟨t, ow, hat, ht⟩ : ∃ (t : Addr) (ow : Ow), atI [V.ref t1, V.ref t2] (if decide (V.int (pick % 7) = V.int 6) = true then 1 else 0) = some (.ref t) ∧
          upd (upd (upd H7 t1 (.tup [.int (pick / 16 % 4), .int (pick / 64 % 8)])) t2 (.tup [.str "file", .int (pick / 16 % 2), .int (pick / 64 % 4)])) l3 (.lst [.ref t1, .ref t2]) t = some (.tup (oV ow)) := by
        by_cases c : decide (V.int (pick % 7) = V.int 6) = true
        · exact ⟨t2, .fl (pick / 16 % 2) (pick / 64 % 4), by rw [if_pos c]; exact at_of (j := 1) rfl rfl, g3 _ _ upd_same⟩
        · exact ⟨t1, .pr (pick / 16 % 4) (pick / 64 % 8), by rw [if_neg c]; exact at_of (j := 0) rfl rfl, g2 _ _ upd_same⟩
      refine ⟨l3, _, _, _, rfl, rfl, SqL.of upd_same, hat, ?_⟩
      have S8 := S.same g1
      generalize upd (upd (upd H7 t1 (.tup [.int (pick / 16 % 4), .int (pick / 64 % 8)])) t2 (.tup [.str "file", .int (pick / 16 % 2), .int (pick / 64 % 4)])) l3 (.lst [.ref t1, .ref t2]) = H8 at S8 ht ⊢
      clear g1 g2 g3 h1 h2 h3 hat
      refine ⟨(by show 10 ≤ sizeLine; decide), fun l4 h4 => ?_⟩
      have m0 := Int.emod_nonneg num (by decide : (10 : Int) ≠ 0)
      have m1 := Int.emod_lt_of_pos num (by decide : (0 : Int) < 10)
      obtain ⟨ac, hact, hac⟩ : ∃ ac : Str, atI [V.str "take", V.str "take", V.str "add", V.str "add", V.str "add", V.str "remove", V.str "remove", V.str "give", V.str "hold", V.str "hand"] (num % 10) = some (.str ac) ∧ (ac = "take" ∨ ac = "hand" ∨ ∃ b : Ac, ac = acS b) := by
        rcases (by omega : num % 10 = 0 ∨ num % 10 = 1 ∨ num % 10 = 2 ∨ num % 10 = 3 ∨ num % 10 = 4 ∨ num % 10 = 5 ∨ num % 10 = 6 ∨ num % 10 = 7 ∨ num % 10 = 8 ∨ num % 10 = 9) with z | z | z | z | z | z | z | z | z | z
        · exact ⟨_, at_of (j := 0) z rfl, .inl rfl⟩
        · exact ⟨_, at_of (j := 1) z rfl, .inl rfl⟩
        · exact ⟨_, at_of (j := 2) z rfl, .inr (.inr ⟨.add, rfl⟩)⟩
        · exact ⟨_, at_of (j := 3) z rfl, .inr (.inr ⟨.add, rfl⟩)⟩
        · exact ⟨_, at_of (j := 4) z rfl, .inr (.inr ⟨.add, rfl⟩)⟩
        · exact ⟨_, at_of (j := 5) z rfl, .inr (.inr ⟨.remove, rfl⟩)⟩
        · exact ⟨_, at_of (j := 6) z rfl, .inr (.inr ⟨.remove, rfl⟩)⟩
        · exact ⟨_, at_of (j := 7) z rfl, .inr (.inr ⟨.give, rfl⟩)⟩
        · exact ⟨_, at_of (j := 8) z rfl, .inr (.inr ⟨.hold, rfl⟩)⟩
        · exact ⟨_, at_of (j := 9) z rfl, .inr (.inl rfl)⟩
      have e9 := Same.new (o := .lst [V.str "take", V.str "take", V.str "add", V.str "add", V.str "add", V.str "remove", V.str "remove", V.str "give", V.str "hold", V.str "hand"]) h4
      refine ⟨_, rfl, _, _, rfl, rfl, (by show (0 : Int) < 10; decide), l4, _, _, _, rfl, rfl, SqL.of upd_same, hact, ?_⟩
      have S9 := S8.same e9
      have ht9 := e9 _ _ ht
      generalize upd H8 l4 (.lst [V.str "take", V.str "take", V.str "add", V.str "add", V.str "add", V.str "remove", V.str "remove", V.str "give", V.str "hold", V.str "hand"]) = H9 at S9 ht9 ⊢
      clear e9 h4 hact S8 ht
      refine ⟨fun σ' H' => ∃ (y12 y13 y14 y15 y16 : Option V) (cs' : Cs) (tk' : List Int) (pl' : Int), σ' = [some (.ref sp), some (.ref tp), some (.int (m : Nat)), some (.ref o), some (.ref hd), some (.ref LL), some (.ref TK), some (.int pl'), some (.int (0 + (i : Int))), some (.int num), some (.int pick), some (.ref t), y12, y13, y14, y15, y16, x17, x18] ∧
        LS a.C_Owners a.C_Hand H' o dx L M hd hx LL TK tp as bs cs' tk' ts pl' ∧ H' t = some (.tup (oV ow)) ∧ (∀ c ∈ cs', c.length ≤ i + 1) ∧ tk'.length ≤ i + 1 ∧ cs'.length = m, ?_, ?_⟩
      · rcases hac with rfl | rfl | ⟨b, rfl⟩
        · refine ⟨_, rfl, rfl, _, rfl, ifT (by decide +kernel) ⟨_, rfl, _, rfl, _, rfl, o, dx, L, M, hd, hx, LL, TK, tp, as, bs, cs, tk, ts, pl, rfl, S9, by omega, fun H10 tk' S10 tl' kt => ⟨_, rfl, iteF ?_⟩⟩⟩
          exact ⟨_, _, _, _, _, cs, tk', pl, rfl, S10, kt _ _ ht9 (by cases ow <;> exact True.intro), fun c hc => Nat.le_succ_of_le (thin c hc), by omega, csl⟩
        · refine ⟨_, rfl, rfl, _, rfl, ifF (by decide +kernel) ⟨_, rfl, rfl, _, rfl, ifT (by decide +kernel) ⟨_, rfl, _, rfl, _, rfl, _, rfl, _, rfl, _, _, rfl, rfl, (by show (0 : Int) < 13; decide), _, rfl, _, _, rfl, rfl, ⟨by decide, by decide⟩, _, _, rfl, rfl, (by show (0 : Int) < 13; decide),
            (by show 2 ≤ sizeLine; decide), fun l5 h5 => ⟨_, rfl, _, _, rfl, rfl, (by show (0 : Int) < 3; decide), _, rfl, l5, _, rfl, SqL.of upd_same, fun l6 h6 => ?_⟩⟩⟩⟩
          obtain ⟨ps, eps, lps⟩ := cut_ints [pick % 13, pick / 13 % 13] none (some (pick % 3))
          have eps2 : cutV [V.int (pick % 13), V.int (pick / 13 % 13)] none (some (pick % 3)) = ps.map V.int := eps
          have e10 := (Same.new (o := .lst [V.int (pick % 13), V.int (pick / 13 % 13)]) h5).trans (Same.new (o := .lst (cutV [V.int (pick % 13), V.int (pick / 13 % 13)] none (some (pick % 3)))) h6)
          refine ⟨o, dx, L, M, hd, hx, LL, TK, tp, l6, as, bs, cs, tk, ts, ps, pl, rfl, S9.same e10, ?_, Nat.le_trans lps (by show 2 ≤ 1000; decide), fun H11 pl' S11 s11 => ?_⟩
          · rw [← eps2]
            exact upd_same
          refine ⟨_, rfl, rfl, _, rfl, iteF ?_⟩
          have ntd : t ≠ hd := fun z => by
            rw [z, S9.hand.ins] at ht9
            cases ow <;> cases ht9
          exact ⟨_, _, _, _, _, cs, tk, pl', rfl, S11, s11 _ _ ntd (e10 _ _ ht9), fun c hc => Nat.le_succ_of_le (thin c hc), by omega, csl⟩
        · have nT : decide (V.str (acS b) = V.str "take") = false := by cases b <;> decide +kernel
          have nH : decide (V.str (acS b) = V.str "hand") = false := by cases b <;> decide +kernel
          refine ⟨_, rfl, rfl, _, rfl, ifF nT ⟨_, rfl, rfl, _, rfl, ifF nH ?_⟩⟩
          refine ⟨_, rfl, _, rfl, _, _, rfl, rfl, _, _, rfl, rfl, (by show (0 : Int) < ((m : Nat) : Int) + 2; omega), _, _, rfl, rfl, ?_⟩
          refine ⟨_, rfl, _, rfl, LL, TK, tp, bs, cs, tk, ts, t, ow, rfl, S9.law, ht9, fun H10 e10 => ?_⟩
          have S10 := S9.same e10
          have ht10 := e10 _ _ ht9
          refine ⟨fun σ' H' => H' = H10 ∧ ∃ n : Int, σ' = [some (.ref sp), some (.ref tp), some (.int (m : Nat)), some (.ref o), some (.ref hd), some (.ref LL), some (.ref TK), some (.int pl), some (.int (0 + (i : Int))), some (.int num), some (.int pick), some (.ref t), some (.str (acS b)), some (.int n), some (natV (placeM cs ow)), x15, x16, x17, x18], ?_, ?_⟩
          · refine ⟨_, rfl, rfl, _, rfl, ?_⟩
            refine ite2 (fun c => ?_) (fun c => iteF ⟨rfl, _, rfl⟩)
            refine ⟨_, rfl, _, _, rfl, rfl, (by show (0 : Int) < 3; decide), _, _, rfl, rfl, _, rfl, ?_⟩
            refine ite2 (fun c => ?_) (fun c => iteF ⟨rfl, _, rfl⟩)
            refine ⟨_, rfl, rfl, _, rfl, ?_⟩
            cases ep : placeM cs ow with
            | none => exact iteF ⟨rfl, _, rfl⟩
            | some j => exact iteT ⟨_, rfl, rfl, (j : Int), rfl⟩
          rintro σ11 H11 ⟨rfl, n, rfl⟩
          have thin9 : ∀ c ∈ cs, c.length ≤ 900 := fun c hc => Nat.le_trans (thin c hc) (by omega)
          have len' : ∀ {cs' tk'}, stepM cs tk b n t ow = some (cs', tk') → (∀ c ∈ cs', c.length ≤ i + 1) ∧ tk'.length ≤ i + 1 ∧ cs'.length = m := fun {cs' tk'} st => by
            obtain ⟨k1, k2, k3⟩ := step_len thin st
            exact ⟨k1, by omega, by rw [k3, csl]⟩
          refine ⟨_, rfl, _, rfl, _, rfl, _, rfl, o, dx, L, M, as, cs, tk, b, n, t, ow, rfl, S10.own, S10.law.tknd, ht10, thin9, S10.law.tkin, fun cs' tk' st H12 k12 t12 hO12 => ?_, fun st H12 p12 e12 hp12 => ?_⟩
          · have apM : ∀ p ∈ LL :: TK :: tp :: bs, p ∉ M :: as := fun p hp z => S10.apart p (List.mem_cons_of_mem _ z) hp
            have hL12 := S10.law.keep k12 apM t12
            have ht12 : H12 t = some (.tup (oV ow)) := t12 _ _ ht10 (by cases ow <;> exact True.intro)
            have nL1 : ∀ p ∈ M :: as, ∃ xs, H11 p = some (.lst xs) := fun p hpp => by
              rcases List.mem_cons.mp hpp with e | hpp
              · exact ⟨_, e ▸ S10.own.held⟩
              · obtain ⟨j, hj, e⟩ := List.mem_iff_getElem.mp hpp
                have hj2 : j < cs.length := by rw [← S10.own.rows.len]; exact hj
                exact ⟨_, S10.own.rows.row j p _ (by rw [List.getElem?_eq_getElem hj, e]) (List.getElem?_eq_getElem hj2)⟩
            have hH12 : HandAt a.C_Hand H12 hd hx cs.length pl := ⟨k12 _ _ (fun z => by
              obtain ⟨xs, h5⟩ := nL1 hd z
              exact ne_of S10.hand.ins h5 (fun z => nomatch z) rfl) S10.hand.ins⟩
            refine ⟨_, rfl, _, rfl, _, rfl, _, rfl, _, rfl, LL, TK, tp, bs, cs, tk, ts, b, n, t, ow, rfl, hL12, ht12, by omega, thin9, fun cs2 tk2 st2 H13 k13 t13 hL13 => ?_, fun st2 => by rw [st] at st2; cases st2⟩
            rw [st] at st2
            cases st2
            obtain ⟨b1, b2, b3⟩ := len' st
            have nL2 : ∀ p ∈ TK :: bs, ∃ xs, H12 p = some (.lst xs) := fun p hpp => by
              rcases List.mem_cons.mp hpp with e | hpp
              · exact ⟨_, e ▸ hL12.taken⟩
              · obtain ⟨j, hj, e⟩ := List.mem_iff_getElem.mp hpp
                have hj2 : j < cs.length := by rw [← hL12.rows.len]; exact hj
                exact ⟨_, hL12.rows.row j p _ (by rw [List.getElem?_eq_getElem hj, e]) (List.getElem?_eq_getElem hj2)⟩
            have hO13 := hO12.keep k13 (fun p hp z => by
              rcases List.mem_cons.mp hp with e | hp
              · obtain ⟨xs, h5⟩ := nL2 p z
                exact ne_of h5 hO12.ins (fun z => nomatch z) e
              · refine S10.apart p hp ?_
                rcases List.mem_cons.mp z with e | z
                · rw [e]; simp
                · simp [z]) t13
            have hH13 : HandAt a.C_Hand H13 hd hx cs.length pl := ⟨k13 _ _ (fun z => by
              obtain ⟨xs, h5⟩ := nL2 hd z
              exact ne_of hH12.ins h5 (fun z => nomatch z) rfl) hH12.ins⟩
            refine ⟨_, rfl, rfl, _, rfl, iteT ⟨_, rfl, rfl, _, rfl, iteF ⟨_, rfl, rfl, _, rfl, iteF (iteF ?_)⟩⟩⟩
            have b4 : cs'.length = cs.length := by rw [b3, csl]
            exact ⟨_, _, _, _, _, cs', tk', pl, rfl, ⟨by rw [b4]; exact hO13, hL13, by rw [b4]; exact hH13, S10.apart, S10.pl0⟩, t13 _ _ ht12 (by cases ow <;> exact True.intro), b1, b2, b3⟩
          · have S12 := S10.same e12
            refine ⟨_, rfl, _, rfl, _, rfl, _, rfl, _, rfl, LL, TK, tp, bs, cs, tk, ts, b, n, t, ow, rfl, S12.law, e12 _ _ ht10, by omega, thin9, (fun cs2 tk2 st2 => by rw [st] at st2; cases st2), fun _ H13 p13 e13 hp13 => ?_⟩
            have shB : Sh 1 (.list [.bool true]) := sh_lst (sh_c (sh_bool _) sh_n)
            refine ⟨_, rfl, rfl, _, rfl, iteF (iteF ⟨_, rfl, rfl, _, rfl, iteT ⟨_, rfl, _, rfl, _, _, .lst (SqL.of (e13 _ _ hp12)) (.cons (.bl _) .nil), .lst (SqL.of hp13) (.cons (.bl _) .nil), shB.ok, shB.ok, _, rfl, ifF (by rw [shB.refl]; rfl) ?_⟩⟩)⟩
            exact ⟨_, _, _, _, _, cs, tk, pl, rfl, S12.same e13, e13 _ _ (e12 _ _ ht10), fun c hc => Nat.le_succ_of_le (thin c hc), by omega, csl⟩
      · rintro σ12 H12 ⟨y12, y13, y14, y15, y16, cs', tk', pl', rfl, S12, ht12, b1, b2, b3⟩
        refine ⟨_, rfl, o, dx, _, rfl, S12.own.ins, rfl, _, rfl, o, dx, L, M, as, cs', _, t, ow, rfl, S12.own, ht12, fun H13 e13 => ?_⟩
        have S13 := S12.same e13
        refine ⟨_, rfl, _, rfl, LL, TK, tp, bs, cs', tk', ts, t, ow, rfl, S13.law, e13 _ _ ht12, fun H14 e14 => ?_⟩
        have S14 := S13.same e14
        refine ⟨_, rfl, rfl, _, rfl, rfl, rfl, _, rfl, ifF (by simp) ?_⟩
        cases ep : placeM cs' ow with
        | none =>
          refine ⟨_, rfl, rfl, _, rfl, iteF (iteF ⟨_, rfl, _, rfl, _, rfl, o, dx, L, M, hd, hx, LL, TK, tp, as, bs, cs', tk', ts, pl', rfl, S14, by omega, fun H15 e15 => ⟨_, rfl, iteF ?_⟩⟩)⟩
          exact ⟨_, _, _, _, _, _, _, _, _, _, _, cs', tk', pl', rfl, S14.same e15, b1, b2, b3⟩
        | some j =>
          refine ⟨_, rfl, rfl, _, rfl, iteT ⟨_, rfl, _, rfl, rfl, _, rfl, ifF (by simp) ⟨_, rfl, _, rfl, _, rfl, o, dx, L, M, hd, hx, LL, TK, tp, as, bs, cs', tk', ts, pl', rfl, S14, by omega, fun H15 e15 => ⟨_, rfl, iteF ?_⟩⟩⟩⟩
          exact ⟨_, _, _, _, _, _, _, _, _, _, _, cs', tk', pl', rfl, S14.same e15, b1, b2, b3⟩
    · rintro σ H' _
      exact q _
end
theorem all_mk {l : PySem.W.OpenLaw} {w : World} {K : PySem.W.Frag} {h : Heap} {mg : Str → Option Value} {fa : Addr} (X : K.In h) (G : h.Ns mainGlobals mg) (hfa : mg "law" = some (.ref fa))
    {C_PageError C_NotValid C_Owners C_Hand f_PageError_init f_is_whole f_is_number_below f_Owners_init f_Owners_take f_Owners_give_back f_Owners_add f_Owners_remove f_Owners_hold f_Owners_owners f_Owners_place_of f_Owners_free f_Owners_in_hands f_Owners__check f_Owners__is_free f_Hand_init f_Hand_victim f_Hand_points_to f__law_tape f__law_at f__law_do f__law_free f__law_place f__law_due f__law_victim f__law_same f__law_taken f__law_hand f_law : Addr}
    {od_PageError_init an_PageError_init : Option Addr} {sl_PageError_init : Array (Option Value)} {oc_PageError_init kV_PageError_init dc_PageError_init pm_PageError_init cd_PageError_init ct_PageError_init : Value}
    {od_is_whole an_is_whole : Option Addr} {sl_is_whole : Array (Option Value)} {oc_is_whole kV_is_whole dc_is_whole pm_is_whole cd_is_whole ct_is_whole : Value}
    {od_is_number_below an_is_number_below : Option Addr} {sl_is_number_below : Array (Option Value)} {oc_is_number_below kV_is_number_below dc_is_number_below pm_is_number_below cd_is_number_below ct_is_number_below : Value}
    {od_Owners_init an_Owners_init : Option Addr} {sl_Owners_init : Array (Option Value)} {oc_Owners_init kV_Owners_init dc_Owners_init pm_Owners_init cd_Owners_init ct_Owners_init : Value}
    {od_Owners_take an_Owners_take : Option Addr} {sl_Owners_take : Array (Option Value)} {oc_Owners_take kV_Owners_take dc_Owners_take pm_Owners_take cd_Owners_take ct_Owners_take : Value}
    {od_Owners_give_back an_Owners_give_back : Option Addr} {sl_Owners_give_back : Array (Option Value)} {oc_Owners_give_back kV_Owners_give_back dc_Owners_give_back pm_Owners_give_back cd_Owners_give_back ct_Owners_give_back : Value}
    {od_Owners_add an_Owners_add : Option Addr} {sl_Owners_add : Array (Option Value)} {oc_Owners_add kV_Owners_add dc_Owners_add pm_Owners_add cd_Owners_add ct_Owners_add : Value}
    {od_Owners_remove an_Owners_remove : Option Addr} {sl_Owners_remove : Array (Option Value)} {oc_Owners_remove kV_Owners_remove dc_Owners_remove pm_Owners_remove cd_Owners_remove ct_Owners_remove : Value}
    {od_Owners_hold an_Owners_hold : Option Addr} {sl_Owners_hold : Array (Option Value)} {oc_Owners_hold kV_Owners_hold dc_Owners_hold pm_Owners_hold cd_Owners_hold ct_Owners_hold : Value}
    {od_Owners_owners an_Owners_owners : Option Addr} {sl_Owners_owners : Array (Option Value)} {oc_Owners_owners kV_Owners_owners dc_Owners_owners pm_Owners_owners cd_Owners_owners ct_Owners_owners : Value}
    {od_Owners_place_of an_Owners_place_of : Option Addr} {sl_Owners_place_of : Array (Option Value)} {oc_Owners_place_of kV_Owners_place_of dc_Owners_place_of pm_Owners_place_of cd_Owners_place_of ct_Owners_place_of : Value}
    {od_Owners_free an_Owners_free : Option Addr} {sl_Owners_free : Array (Option Value)} {oc_Owners_free kV_Owners_free dc_Owners_free pm_Owners_free cd_Owners_free ct_Owners_free : Value}
    {od_Owners_in_hands an_Owners_in_hands : Option Addr} {sl_Owners_in_hands : Array (Option Value)} {oc_Owners_in_hands kV_Owners_in_hands dc_Owners_in_hands pm_Owners_in_hands cd_Owners_in_hands ct_Owners_in_hands : Value}
    {od_Owners__check an_Owners__check : Option Addr} {sl_Owners__check : Array (Option Value)} {oc_Owners__check kV_Owners__check dc_Owners__check pm_Owners__check cd_Owners__check ct_Owners__check : Value}
    {od_Owners__is_free an_Owners__is_free : Option Addr} {sl_Owners__is_free : Array (Option Value)} {oc_Owners__is_free kV_Owners__is_free dc_Owners__is_free pm_Owners__is_free cd_Owners__is_free ct_Owners__is_free : Value}
    {od_Hand_init an_Hand_init : Option Addr} {sl_Hand_init : Array (Option Value)} {oc_Hand_init kV_Hand_init dc_Hand_init pm_Hand_init cd_Hand_init ct_Hand_init : Value}
    {od_Hand_victim an_Hand_victim : Option Addr} {sl_Hand_victim : Array (Option Value)} {oc_Hand_victim kV_Hand_victim dc_Hand_victim pm_Hand_victim cd_Hand_victim ct_Hand_victim : Value}
    {od_Hand_points_to an_Hand_points_to : Option Addr} {sl_Hand_points_to : Array (Option Value)} {oc_Hand_points_to kV_Hand_points_to dc_Hand_points_to pm_Hand_points_to cd_Hand_points_to ct_Hand_points_to : Value}
    {od__law_tape an__law_tape : Option Addr} {sl__law_tape : Array (Option Value)} {oc__law_tape kV__law_tape dc__law_tape pm__law_tape cd__law_tape ct__law_tape : Value}
    {od__law_at an__law_at : Option Addr} {sl__law_at : Array (Option Value)} {oc__law_at kV__law_at dc__law_at pm__law_at cd__law_at ct__law_at : Value}
    {od__law_do an__law_do : Option Addr} {sl__law_do : Array (Option Value)} {oc__law_do kV__law_do dc__law_do pm__law_do cd__law_do ct__law_do : Value}
    {od__law_free an__law_free : Option Addr} {sl__law_free : Array (Option Value)} {oc__law_free kV__law_free dc__law_free pm__law_free cd__law_free ct__law_free : Value}
    {od__law_place an__law_place : Option Addr} {sl__law_place : Array (Option Value)} {oc__law_place kV__law_place dc__law_place pm__law_place cd__law_place ct__law_place : Value}
    {od__law_due an__law_due : Option Addr} {sl__law_due : Array (Option Value)} {oc__law_due kV__law_due dc__law_due pm__law_due cd__law_due ct__law_due : Value}
    {od__law_victim an__law_victim : Option Addr} {sl__law_victim : Array (Option Value)} {oc__law_victim kV__law_victim dc__law_victim pm__law_victim cd__law_victim ct__law_victim : Value}
    {od__law_same an__law_same : Option Addr} {sl__law_same : Array (Option Value)} {oc__law_same kV__law_same dc__law_same pm__law_same cd__law_same ct__law_same : Value}
    {od__law_taken an__law_taken : Option Addr} {sl__law_taken : Array (Option Value)} {oc__law_taken kV__law_taken dc__law_taken pm__law_taken cd__law_taken ct__law_taken : Value}
    {od__law_hand an__law_hand : Option Addr} {sl__law_hand : Array (Option Value)} {oc__law_hand kV__law_hand dc__law_hand pm__law_hand cd__law_hand ct__law_hand : Value}
    {od_law an_law : Option Addr} {sl_law : Array (Option Value)} {oc_law kV_law dc_law pm_law cd_law ct_law : Value}
    {nmX qX : Str} {NX : Addr} {bsX : List Value} {snX : List Str} {subX : List Value} {abX : Bool} {colX : Option Bool} {ddX : Option Addr} {x0 x1 x2 x3 x5 : Option Value}
    (g_PageError : PySem.W.nsIn K mainGlobals "PageError" = some (some (.ref C_PageError)))
    (g_NotValid : PySem.W.nsIn K mainGlobals "NotValid" = some (some (.ref C_NotValid)))
    (g_Owners : PySem.W.nsIn K mainGlobals "Owners" = some (some (.ref C_Owners)))
    (g_Hand : PySem.W.nsIn K mainGlobals "Hand" = some (some (.ref C_Hand)))
    (a_PageError_init : PySem.W.findIn K (.ref C_PageError) "__init__" = some (some (.ref f_PageError_init)))
    (i_PageError_init : PySem.W.isFn K (.ref f_PageError_init) = true)
    (l_PageError_init : K.lookup f_PageError_init = some ⟨oc_PageError_init, od_PageError_init, .func (PySem.W.fnOf "__init__" "PageError.__init__" (defArgs s_PageError_init) (defBody s_PageError_init) (defScope s_PageError_init) .none kV_PageError_init dc_PageError_init pm_PageError_init an_PageError_init cd_PageError_init ct_PageError_init), sl_PageError_init⟩)
    (c_PageError_init : PySem.W.codeIn K cd_PageError_init "PageError.__init__" = true)
    (k_PageError_init : PySem.W.keepIn K (.ref f_PageError_init) = true)
    (a_is_whole : PySem.W.nsIn K mainGlobals "is_whole" = some (some (.ref f_is_whole)))
    (l_is_whole : K.lookup f_is_whole = some ⟨oc_is_whole, od_is_whole, .func (PySem.W.fnOf "is_whole" "is_whole" (defArgs s_is_whole) (defBody s_is_whole) (defScope s_is_whole) .none kV_is_whole dc_is_whole pm_is_whole an_is_whole cd_is_whole ct_is_whole), sl_is_whole⟩)
    (c_is_whole : PySem.W.codeIn K cd_is_whole "is_whole" = true)
    (k_is_whole : PySem.W.keepIn K (.ref f_is_whole) = true)
    (a_is_number_below : PySem.W.nsIn K mainGlobals "is_number_below" = some (some (.ref f_is_number_below)))
    (l_is_number_below : K.lookup f_is_number_below = some ⟨oc_is_number_below, od_is_number_below, .func (PySem.W.fnOf "is_number_below" "is_number_below" (defArgs s_is_number_below) (defBody s_is_number_below) (defScope s_is_number_below) .none kV_is_number_below dc_is_number_below pm_is_number_below an_is_number_below cd_is_number_below ct_is_number_below), sl_is_number_below⟩)
    (c_is_number_below : PySem.W.codeIn K cd_is_number_below "is_number_below" = true)
    (k_is_number_below : PySem.W.keepIn K (.ref f_is_number_below) = true)
    (a_Owners_init : PySem.W.findIn K (.ref C_Owners) "__init__" = some (some (.ref f_Owners_init)))
    (i_Owners_init : PySem.W.isFn K (.ref f_Owners_init) = true)
    (l_Owners_init : K.lookup f_Owners_init = some ⟨oc_Owners_init, od_Owners_init, .func (PySem.W.fnOf "__init__" "Owners.__init__" (defArgs s_Owners_init) (defBody s_Owners_init) (defScope s_Owners_init) .none kV_Owners_init dc_Owners_init pm_Owners_init an_Owners_init cd_Owners_init ct_Owners_init), sl_Owners_init⟩)
    (c_Owners_init : PySem.W.codeIn K cd_Owners_init "Owners.__init__" = true)
    (k_Owners_init : PySem.W.keepIn K (.ref f_Owners_init) = true)
    (a_Owners_take : PySem.W.findIn K (.ref C_Owners) "take" = some (some (.ref f_Owners_take)))
    (i_Owners_take : PySem.W.isFn K (.ref f_Owners_take) = true)
    (l_Owners_take : K.lookup f_Owners_take = some ⟨oc_Owners_take, od_Owners_take, .func (PySem.W.fnOf "take" "Owners.take" (defArgs s_Owners_take) (defBody s_Owners_take) (defScope s_Owners_take) .none kV_Owners_take dc_Owners_take pm_Owners_take an_Owners_take cd_Owners_take ct_Owners_take), sl_Owners_take⟩)
    (c_Owners_take : PySem.W.codeIn K cd_Owners_take "Owners.take" = true)
    (k_Owners_take : PySem.W.keepIn K (.ref f_Owners_take) = true)
    (a_Owners_give_back : PySem.W.findIn K (.ref C_Owners) "give_back" = some (some (.ref f_Owners_give_back)))
    (i_Owners_give_back : PySem.W.isFn K (.ref f_Owners_give_back) = true)
    (l_Owners_give_back : K.lookup f_Owners_give_back = some ⟨oc_Owners_give_back, od_Owners_give_back, .func (PySem.W.fnOf "give_back" "Owners.give_back" (defArgs s_Owners_give_back) (defBody s_Owners_give_back) (defScope s_Owners_give_back) .none kV_Owners_give_back dc_Owners_give_back pm_Owners_give_back an_Owners_give_back cd_Owners_give_back ct_Owners_give_back), sl_Owners_give_back⟩)
    (c_Owners_give_back : PySem.W.codeIn K cd_Owners_give_back "Owners.give_back" = true)
    (k_Owners_give_back : PySem.W.keepIn K (.ref f_Owners_give_back) = true)
    (a_Owners_add : PySem.W.findIn K (.ref C_Owners) "add" = some (some (.ref f_Owners_add)))
    (i_Owners_add : PySem.W.isFn K (.ref f_Owners_add) = true)
    (l_Owners_add : K.lookup f_Owners_add = some ⟨oc_Owners_add, od_Owners_add, .func (PySem.W.fnOf "add" "Owners.add" (defArgs s_Owners_add) (defBody s_Owners_add) (defScope s_Owners_add) .none kV_Owners_add dc_Owners_add pm_Owners_add an_Owners_add cd_Owners_add ct_Owners_add), sl_Owners_add⟩)
    (c_Owners_add : PySem.W.codeIn K cd_Owners_add "Owners.add" = true)
    (k_Owners_add : PySem.W.keepIn K (.ref f_Owners_add) = true)
    (a_Owners_remove : PySem.W.findIn K (.ref C_Owners) "remove" = some (some (.ref f_Owners_remove)))
    (i_Owners_remove : PySem.W.isFn K (.ref f_Owners_remove) = true)
    (l_Owners_remove : K.lookup f_Owners_remove = some ⟨oc_Owners_remove, od_Owners_remove, .func (PySem.W.fnOf "remove" "Owners.remove" (defArgs s_Owners_remove) (defBody s_Owners_remove) (defScope s_Owners_remove) .none kV_Owners_remove dc_Owners_remove pm_Owners_remove an_Owners_remove cd_Owners_remove ct_Owners_remove), sl_Owners_remove⟩)
    (c_Owners_remove : PySem.W.codeIn K cd_Owners_remove "Owners.remove" = true)
    (k_Owners_remove : PySem.W.keepIn K (.ref f_Owners_remove) = true)
    (a_Owners_hold : PySem.W.findIn K (.ref C_Owners) "hold" = some (some (.ref f_Owners_hold)))
    (i_Owners_hold : PySem.W.isFn K (.ref f_Owners_hold) = true)
    (l_Owners_hold : K.lookup f_Owners_hold = some ⟨oc_Owners_hold, od_Owners_hold, .func (PySem.W.fnOf "hold" "Owners.hold" (defArgs s_Owners_hold) (defBody s_Owners_hold) (defScope s_Owners_hold) .none kV_Owners_hold dc_Owners_hold pm_Owners_hold an_Owners_hold cd_Owners_hold ct_Owners_hold), sl_Owners_hold⟩)
    (c_Owners_hold : PySem.W.codeIn K cd_Owners_hold "Owners.hold" = true)
    (k_Owners_hold : PySem.W.keepIn K (.ref f_Owners_hold) = true)
    (a_Owners_owners : PySem.W.findIn K (.ref C_Owners) "owners" = some (some (.ref f_Owners_owners)))
    (i_Owners_owners : PySem.W.isFn K (.ref f_Owners_owners) = true)
    (l_Owners_owners : K.lookup f_Owners_owners = some ⟨oc_Owners_owners, od_Owners_owners, .func (PySem.W.fnOf "owners" "Owners.owners" (defArgs s_Owners_owners) (defBody s_Owners_owners) (defScope s_Owners_owners) .none kV_Owners_owners dc_Owners_owners pm_Owners_owners an_Owners_owners cd_Owners_owners ct_Owners_owners), sl_Owners_owners⟩)
    (c_Owners_owners : PySem.W.codeIn K cd_Owners_owners "Owners.owners" = true)
    (k_Owners_owners : PySem.W.keepIn K (.ref f_Owners_owners) = true)
    (a_Owners_place_of : PySem.W.findIn K (.ref C_Owners) "place_of" = some (some (.ref f_Owners_place_of)))
    (i_Owners_place_of : PySem.W.isFn K (.ref f_Owners_place_of) = true)
    (l_Owners_place_of : K.lookup f_Owners_place_of = some ⟨oc_Owners_place_of, od_Owners_place_of, .func (PySem.W.fnOf "place_of" "Owners.place_of" (defArgs s_Owners_place_of) (defBody s_Owners_place_of) (defScope s_Owners_place_of) .none kV_Owners_place_of dc_Owners_place_of pm_Owners_place_of an_Owners_place_of cd_Owners_place_of ct_Owners_place_of), sl_Owners_place_of⟩)
    (c_Owners_place_of : PySem.W.codeIn K cd_Owners_place_of "Owners.place_of" = true)
    (k_Owners_place_of : PySem.W.keepIn K (.ref f_Owners_place_of) = true)
    (a_Owners_free : PySem.W.findIn K (.ref C_Owners) "free" = some (some (.ref f_Owners_free)))
    (i_Owners_free : PySem.W.isFn K (.ref f_Owners_free) = true)
    (l_Owners_free : K.lookup f_Owners_free = some ⟨oc_Owners_free, od_Owners_free, .func (PySem.W.fnOf "free" "Owners.free" (defArgs s_Owners_free) (defBody s_Owners_free) (defScope s_Owners_free) .none kV_Owners_free dc_Owners_free pm_Owners_free an_Owners_free cd_Owners_free ct_Owners_free), sl_Owners_free⟩)
    (c_Owners_free : PySem.W.codeIn K cd_Owners_free "Owners.free" = true)
    (k_Owners_free : PySem.W.keepIn K (.ref f_Owners_free) = true)
    (a_Owners_in_hands : PySem.W.findIn K (.ref C_Owners) "in_hands" = some (some (.ref f_Owners_in_hands)))
    (i_Owners_in_hands : PySem.W.isFn K (.ref f_Owners_in_hands) = true)
    (l_Owners_in_hands : K.lookup f_Owners_in_hands = some ⟨oc_Owners_in_hands, od_Owners_in_hands, .func (PySem.W.fnOf "in_hands" "Owners.in_hands" (defArgs s_Owners_in_hands) (defBody s_Owners_in_hands) (defScope s_Owners_in_hands) .none kV_Owners_in_hands dc_Owners_in_hands pm_Owners_in_hands an_Owners_in_hands cd_Owners_in_hands ct_Owners_in_hands), sl_Owners_in_hands⟩)
    (c_Owners_in_hands : PySem.W.codeIn K cd_Owners_in_hands "Owners.in_hands" = true)
    (k_Owners_in_hands : PySem.W.keepIn K (.ref f_Owners_in_hands) = true)
    (a_Owners__check : PySem.W.findIn K (.ref C_Owners) "_check" = some (some (.ref f_Owners__check)))
    (i_Owners__check : PySem.W.isFn K (.ref f_Owners__check) = true)
    (l_Owners__check : K.lookup f_Owners__check = some ⟨oc_Owners__check, od_Owners__check, .func (PySem.W.fnOf "_check" "Owners._check" (defArgs s_Owners__check) (defBody s_Owners__check) (defScope s_Owners__check) .none kV_Owners__check dc_Owners__check pm_Owners__check an_Owners__check cd_Owners__check ct_Owners__check), sl_Owners__check⟩)
    (c_Owners__check : PySem.W.codeIn K cd_Owners__check "Owners._check" = true)
    (k_Owners__check : PySem.W.keepIn K (.ref f_Owners__check) = true)
    (a_Owners__is_free : PySem.W.findIn K (.ref C_Owners) "_is_free" = some (some (.ref f_Owners__is_free)))
    (i_Owners__is_free : PySem.W.isFn K (.ref f_Owners__is_free) = true)
    (l_Owners__is_free : K.lookup f_Owners__is_free = some ⟨oc_Owners__is_free, od_Owners__is_free, .func (PySem.W.fnOf "_is_free" "Owners._is_free" (defArgs s_Owners__is_free) (defBody s_Owners__is_free) (defScope s_Owners__is_free) .none kV_Owners__is_free dc_Owners__is_free pm_Owners__is_free an_Owners__is_free cd_Owners__is_free ct_Owners__is_free), sl_Owners__is_free⟩)
    (c_Owners__is_free : PySem.W.codeIn K cd_Owners__is_free "Owners._is_free" = true)
    (k_Owners__is_free : PySem.W.keepIn K (.ref f_Owners__is_free) = true)
    (a_Hand_init : PySem.W.findIn K (.ref C_Hand) "__init__" = some (some (.ref f_Hand_init)))
    (i_Hand_init : PySem.W.isFn K (.ref f_Hand_init) = true)
    (l_Hand_init : K.lookup f_Hand_init = some ⟨oc_Hand_init, od_Hand_init, .func (PySem.W.fnOf "__init__" "Hand.__init__" (defArgs s_Hand_init) (defBody s_Hand_init) (defScope s_Hand_init) .none kV_Hand_init dc_Hand_init pm_Hand_init an_Hand_init cd_Hand_init ct_Hand_init), sl_Hand_init⟩)
    (c_Hand_init : PySem.W.codeIn K cd_Hand_init "Hand.__init__" = true)
    (k_Hand_init : PySem.W.keepIn K (.ref f_Hand_init) = true)
    (a_Hand_victim : PySem.W.findIn K (.ref C_Hand) "victim" = some (some (.ref f_Hand_victim)))
    (i_Hand_victim : PySem.W.isFn K (.ref f_Hand_victim) = true)
    (l_Hand_victim : K.lookup f_Hand_victim = some ⟨oc_Hand_victim, od_Hand_victim, .func (PySem.W.fnOf "victim" "Hand.victim" (defArgs s_Hand_victim) (defBody s_Hand_victim) (defScope s_Hand_victim) .none kV_Hand_victim dc_Hand_victim pm_Hand_victim an_Hand_victim cd_Hand_victim ct_Hand_victim), sl_Hand_victim⟩)
    (c_Hand_victim : PySem.W.codeIn K cd_Hand_victim "Hand.victim" = true)
    (k_Hand_victim : PySem.W.keepIn K (.ref f_Hand_victim) = true)
    (a_Hand_points_to : PySem.W.findIn K (.ref C_Hand) "points_to" = some (some (.ref f_Hand_points_to)))
    (i_Hand_points_to : PySem.W.isFn K (.ref f_Hand_points_to) = true)
    (l_Hand_points_to : K.lookup f_Hand_points_to = some ⟨oc_Hand_points_to, od_Hand_points_to, .func (PySem.W.fnOf "points_to" "Hand.points_to" (defArgs s_Hand_points_to) (defBody s_Hand_points_to) (defScope s_Hand_points_to) .none kV_Hand_points_to dc_Hand_points_to pm_Hand_points_to an_Hand_points_to cd_Hand_points_to ct_Hand_points_to), sl_Hand_points_to⟩)
    (c_Hand_points_to : PySem.W.codeIn K cd_Hand_points_to "Hand.points_to" = true)
    (k_Hand_points_to : PySem.W.keepIn K (.ref f_Hand_points_to) = true)
    (a__law_tape : PySem.W.nsIn K mainGlobals "_law_tape" = some (some (.ref f__law_tape)))
    (l__law_tape : K.lookup f__law_tape = some ⟨oc__law_tape, od__law_tape, .func (PySem.W.fnOf "_law_tape" "_law_tape" (defArgs s__law_tape) (defBody s__law_tape) (defScope s__law_tape) .none kV__law_tape dc__law_tape pm__law_tape an__law_tape cd__law_tape ct__law_tape), sl__law_tape⟩)
    (c__law_tape : PySem.W.codeIn K cd__law_tape "_law_tape" = true)
    (k__law_tape : PySem.W.keepIn K (.ref f__law_tape) = true)
    (a__law_at : PySem.W.nsIn K mainGlobals "_law_at" = some (some (.ref f__law_at)))
    (l__law_at : K.lookup f__law_at = some ⟨oc__law_at, od__law_at, .func (PySem.W.fnOf "_law_at" "_law_at" (defArgs s__law_at) (defBody s__law_at) (defScope s__law_at) .none kV__law_at dc__law_at pm__law_at an__law_at cd__law_at ct__law_at), sl__law_at⟩)
    (c__law_at : PySem.W.codeIn K cd__law_at "_law_at" = true)
    (k__law_at : PySem.W.keepIn K (.ref f__law_at) = true)
    (a__law_do : PySem.W.nsIn K mainGlobals "_law_do" = some (some (.ref f__law_do)))
    (l__law_do : K.lookup f__law_do = some ⟨oc__law_do, od__law_do, .func (PySem.W.fnOf "_law_do" "_law_do" (defArgs s__law_do) (defBody s__law_do) (defScope s__law_do) .none kV__law_do dc__law_do pm__law_do an__law_do cd__law_do ct__law_do), sl__law_do⟩)
    (c__law_do : PySem.W.codeIn K cd__law_do "_law_do" = true)
    (k__law_do : PySem.W.keepIn K (.ref f__law_do) = true)
    (a__law_free : PySem.W.nsIn K mainGlobals "_law_free" = some (some (.ref f__law_free)))
    (l__law_free : K.lookup f__law_free = some ⟨oc__law_free, od__law_free, .func (PySem.W.fnOf "_law_free" "_law_free" (defArgs s__law_free) (defBody s__law_free) (defScope s__law_free) .none kV__law_free dc__law_free pm__law_free an__law_free cd__law_free ct__law_free), sl__law_free⟩)
    (c__law_free : PySem.W.codeIn K cd__law_free "_law_free" = true)
    (k__law_free : PySem.W.keepIn K (.ref f__law_free) = true)
    (a__law_place : PySem.W.nsIn K mainGlobals "_law_place" = some (some (.ref f__law_place)))
    (l__law_place : K.lookup f__law_place = some ⟨oc__law_place, od__law_place, .func (PySem.W.fnOf "_law_place" "_law_place" (defArgs s__law_place) (defBody s__law_place) (defScope s__law_place) .none kV__law_place dc__law_place pm__law_place an__law_place cd__law_place ct__law_place), sl__law_place⟩)
    (c__law_place : PySem.W.codeIn K cd__law_place "_law_place" = true)
    (k__law_place : PySem.W.keepIn K (.ref f__law_place) = true)
    (a__law_due : PySem.W.nsIn K mainGlobals "_law_due" = some (some (.ref f__law_due)))
    (l__law_due : K.lookup f__law_due = some ⟨oc__law_due, od__law_due, .func (PySem.W.fnOf "_law_due" "_law_due" (defArgs s__law_due) (defBody s__law_due) (defScope s__law_due) .none kV__law_due dc__law_due pm__law_due an__law_due cd__law_due ct__law_due), sl__law_due⟩)
    (c__law_due : PySem.W.codeIn K cd__law_due "_law_due" = true)
    (k__law_due : PySem.W.keepIn K (.ref f__law_due) = true)
    (a__law_victim : PySem.W.nsIn K mainGlobals "_law_victim" = some (some (.ref f__law_victim)))
    (l__law_victim : K.lookup f__law_victim = some ⟨oc__law_victim, od__law_victim, .func (PySem.W.fnOf "_law_victim" "_law_victim" (defArgs s__law_victim) (defBody s__law_victim) (defScope s__law_victim) .none kV__law_victim dc__law_victim pm__law_victim an__law_victim cd__law_victim ct__law_victim), sl__law_victim⟩)
    (c__law_victim : PySem.W.codeIn K cd__law_victim "_law_victim" = true)
    (k__law_victim : PySem.W.keepIn K (.ref f__law_victim) = true)
    (a__law_same : PySem.W.nsIn K mainGlobals "_law_same" = some (some (.ref f__law_same)))
    (l__law_same : K.lookup f__law_same = some ⟨oc__law_same, od__law_same, .func (PySem.W.fnOf "_law_same" "_law_same" (defArgs s__law_same) (defBody s__law_same) (defScope s__law_same) .none kV__law_same dc__law_same pm__law_same an__law_same cd__law_same ct__law_same), sl__law_same⟩)
    (c__law_same : PySem.W.codeIn K cd__law_same "_law_same" = true)
    (k__law_same : PySem.W.keepIn K (.ref f__law_same) = true)
    (a__law_taken : PySem.W.nsIn K mainGlobals "_law_taken" = some (some (.ref f__law_taken)))
    (l__law_taken : K.lookup f__law_taken = some ⟨oc__law_taken, od__law_taken, .func (PySem.W.fnOf "_law_taken" "_law_taken" (defArgs s__law_taken) (defBody s__law_taken) (defScope s__law_taken) .none kV__law_taken dc__law_taken pm__law_taken an__law_taken cd__law_taken ct__law_taken), sl__law_taken⟩)
    (c__law_taken : PySem.W.codeIn K cd__law_taken "_law_taken" = true)
    (k__law_taken : PySem.W.keepIn K (.ref f__law_taken) = true)
    (a__law_hand : PySem.W.nsIn K mainGlobals "_law_hand" = some (some (.ref f__law_hand)))
    (l__law_hand : K.lookup f__law_hand = some ⟨oc__law_hand, od__law_hand, .func (PySem.W.fnOf "_law_hand" "_law_hand" (defArgs s__law_hand) (defBody s__law_hand) (defScope s__law_hand) .none kV__law_hand dc__law_hand pm__law_hand an__law_hand cd__law_hand ct__law_hand), sl__law_hand⟩)
    (c__law_hand : PySem.W.codeIn K cd__law_hand "_law_hand" = true)
    (k__law_hand : PySem.W.keepIn K (.ref f__law_hand) = true)
    (a_law : PySem.W.nsIn K mainGlobals "law" = some (some (.ref f_law)))
    (l_law : K.lookup f_law = some ⟨oc_law, od_law, .func (PySem.W.fnOf "law" "law" (defArgs s_law) (defBody s_law) (defScope s_law) .none kV_law dc_law pm_law an_law cd_law ct_law), sl_law⟩)
    (c_law : PySem.W.codeIn K cd_law "law" = true)
    (k_law : PySem.W.keepIn K (.ref f_law) = true)
    (pg_Owners : PySem.W.plainGet K C_Owners Str.empty = true)
    (hd_Owners : PySem.W.hasDictIn K C_Owners = true)
    (po_Owners : PySem.W.plainOver K C_Owners = true)
    (sa_Owners : PySem.W.findIn K (.ref C_Owners) "__setattr__" = some (some (.builtin "object.__setattr__")))
    (mk_Owners : PySem.W.makesIn K C_Owners = true)
    (kc_Owners : PySem.W.keepIn K (.ref C_Owners) = true)
    (n_Owners__owners : PySem.W.findIn K (.ref C_Owners) "_owners" = some none)
    (n_Owners__held : PySem.W.findIn K (.ref C_Owners) "_held" = some none)
    (pg_Hand : PySem.W.plainGet K C_Hand Str.empty = true)
    (hd_Hand : PySem.W.hasDictIn K C_Hand = true)
    (po_Hand : PySem.W.plainOver K C_Hand = true)
    (sa_Hand : PySem.W.findIn K (.ref C_Hand) "__setattr__" = some (some (.builtin "object.__setattr__")))
    (mk_Hand : PySem.W.makesIn K C_Hand = true)
    (kc_Hand : PySem.W.keepIn K (.ref C_Hand) = true)
    (n_Hand__many : PySem.W.findIn K (.ref C_Hand) "_many" = some none)
    (n_Hand__frame : PySem.W.findIn K (.ref C_Hand) "_frame" = some none)
    (z_ValueError : PySem.W.nsIn K mainGlobals "ValueError" = some none)
    (z_abs : PySem.W.nsIn K mainGlobals "abs" = some none)
    (z_bool : PySem.W.nsIn K mainGlobals "bool" = some none)
    (z_enumerate : PySem.W.nsIn K mainGlobals "enumerate" = some none)
    (z_int : PySem.W.nsIn K mainGlobals "int" = some none)
    (z_isinstance : PySem.W.nsIn K mainGlobals "isinstance" = some none)
    (z_len : PySem.W.nsIn K mainGlobals "len" = some none)
    (z_list : PySem.W.nsIn K mainGlobals "list" = some none)
    (z_max : PySem.W.nsIn K mainGlobals "max" = some none)
    (z_min : PySem.W.nsIn K mainGlobals "min" = some none)
    (z_range : PySem.W.nsIn K mainGlobals "range" = some none)
    (z_sorted : PySem.W.nsIn K mainGlobals "sorted" = some none)
    (y_xL : K.lookup C_NotValid = some (excClassObj nmX qX C_NotValid NX bsX [.ref C_PageError, .type "ValueError", .type "Exception", .type "BaseException", .type "object"] true snX subX abX colX ddX x0 x1 x2 x3 x5 "ValueError.__new__"))
    (y_vV : PySem.W.findCls K (.type "ValueError") (.type "type") "__init__" = some (.val (.builtin "ValueError.__init__")))
    (y_xi_NotValid : PySem.W.findIn K (.ref C_NotValid) "__init__" = some (some (.ref f_PageError_init)))
    (y_xt_NotValid : PySem.W.typeIn K (.ref f_PageError_init) = some (.type "function"))
    (y_xs_NotValid : PySem.W.findIn K (.ref C_NotValid) "__setattr__" = some (some (.builtin "object.__setattr__")))
    (y_xb_NotValid : PySem.W.subIn K (.ref C_NotValid) (.type "BaseException") = some true)
    (y_xy_NotValid : PySem.W.typeIn K (.ref C_NotValid) = some (.type "type"))
    (y_xk_NotValid : PySem.W.keepIn K (.ref C_NotValid) = true)
    (y_e1 : PySem.W.findIn K (.ref C_NotValid) "__getattribute__" = some (some (.builtin "BaseException.__getattribute__")))
    (y_e2 : PySem.W.findIn K (.ref C_NotValid) "__getattr__" = some none)
    (y_e4 : PySem.W.hasDictIn K C_NotValid = true)
    (y_e5 : PySem.W.findIn K (.ref C_NotValid) "__class__" = some (some (.builtin "object.__class__")))
    (y_e6 : PySem.W.specialIn K (.builtin "object.__class__") "__get__" = some (some (.builtin "getset_descriptor.__get__")))
    (y_e7 : PySem.W.takesIn K (.builtin "object.__class__") = some true)
    (y_e8 : PySem.W.mroIn K C_NotValid (.type "object") = some true)
    (y_p1 : PySem.W.subIn K (.ref C_PageError) (.type "BaseException") = some true)
    (y_p2 : PySem.W.hasDictIn K C_PageError = true)
    (y_p3 : PySem.W.typeIn K (.ref C_PageError) = some (.type "type"))
    (y_p4 : PySem.W.subIn K (.ref C_NotValid) (.ref C_PageError) = some true)
    (y_q4 : PySem.W.kitOne K (.ref C_NotValid) (.ref C_NotValid) = some true)
    : ∃ fd : FuncData, (∀ (s : Shared) (v : Value), BindsTo s fd ⟨[v], []⟩ [("script", v)]) ∧ ∀ base : Heap, K.In base → base.Ns mainGlobals mg → FnOk l.prog w K mg base CX0 9 fa fd ["script"] (spLaw K) := by
  have e := hfa.symm.trans (PySem.W.mg_of X G a_law)
  cases e
  have T : Txt K mg ⟨C_PageError, C_NotValid, C_Owners, C_Hand, f_PageError_init, f_is_whole, f_is_number_below, f_Owners_init, f_Owners_take, f_Owners_give_back, f_Owners_add, f_Owners_remove, f_Owners_hold, f_Owners_owners, f_Owners_place_of, f_Owners_free, f_Owners_in_hands, f_Owners__check, f_Owners__is_free, f_Hand_init, f_Hand_victim, f_Hand_points_to, f__law_tape, f__law_at, f__law_do, f__law_free, f__law_place, f__law_due, f__law_victim, f__law_same, f__law_taken, f__law_hand, fa, PySem.W.fnOf "__init__" "PageError.__init__" (defArgs s_PageError_init) (defBody s_PageError_init) (defScope s_PageError_init) .none kV_PageError_init dc_PageError_init pm_PageError_init an_PageError_init cd_PageError_init ct_PageError_init, PySem.W.fnOf "is_whole" "is_whole" (defArgs s_is_whole) (defBody s_is_whole) (defScope s_is_whole) .none kV_is_whole dc_is_whole pm_is_whole an_is_whole cd_is_whole ct_is_whole, PySem.W.fnOf "is_number_below" "is_number_below" (defArgs s_is_number_below) (defBody s_is_number_below) (defScope s_is_number_below) .none kV_is_number_below dc_is_number_below pm_is_number_below an_is_number_below cd_is_number_below ct_is_number_below, PySem.W.fnOf "__init__" "Owners.__init__" (defArgs s_Owners_init) (defBody s_Owners_init) (defScope s_Owners_init) .none kV_Owners_init dc_Owners_init pm_Owners_init an_Owners_init cd_Owners_init ct_Owners_init, PySem.W.fnOf "take" "Owners.take" (defArgs s_Owners_take) (defBody s_Owners_take) (defScope s_Owners_take) .none kV_Owners_take dc_Owners_take pm_Owners_take an_Owners_take cd_Owners_take ct_Owners_take, PySem.W.fnOf "give_back" "Owners.give_back" (defArgs s_Owners_give_back) (defBody s_Owners_give_back) (defScope s_Owners_give_back) .none kV_Owners_give_back dc_Owners_give_back pm_Owners_give_back an_Owners_give_back cd_Owners_give_back ct_Owners_give_back, PySem.W.fnOf "add" "Owners.add" (defArgs s_Owners_add) (defBody s_Owners_add) (defScope s_Owners_add) .none kV_Owners_add dc_Owners_add pm_Owners_add an_Owners_add cd_Owners_add ct_Owners_add, PySem.W.fnOf "remove" "Owners.remove" (defArgs s_Owners_remove) (defBody s_Owners_remove) (defScope s_Owners_remove) .none kV_Owners_remove dc_Owners_remove pm_Owners_remove an_Owners_remove cd_Owners_remove ct_Owners_remove, PySem.W.fnOf "hold" "Owners.hold" (defArgs s_Owners_hold) (defBody s_Owners_hold) (defScope s_Owners_hold) .none kV_Owners_hold dc_Owners_hold pm_Owners_hold an_Owners_hold cd_Owners_hold ct_Owners_hold, PySem.W.fnOf "owners" "Owners.owners" (defArgs s_Owners_owners) (defBody s_Owners_owners) (defScope s_Owners_owners) .none kV_Owners_owners dc_Owners_owners pm_Owners_owners an_Owners_owners cd_Owners_owners ct_Owners_owners, PySem.W.fnOf "place_of" "Owners.place_of" (defArgs s_Owners_place_of) (defBody s_Owners_place_of) (defScope s_Owners_place_of) .none kV_Owners_place_of dc_Owners_place_of pm_Owners_place_of an_Owners_place_of cd_Owners_place_of ct_Owners_place_of, PySem.W.fnOf "free" "Owners.free" (defArgs s_Owners_free) (defBody s_Owners_free) (defScope s_Owners_free) .none kV_Owners_free dc_Owners_free pm_Owners_free an_Owners_free cd_Owners_free ct_Owners_free, PySem.W.fnOf "in_hands" "Owners.in_hands" (defArgs s_Owners_in_hands) (defBody s_Owners_in_hands) (defScope s_Owners_in_hands) .none kV_Owners_in_hands dc_Owners_in_hands pm_Owners_in_hands an_Owners_in_hands cd_Owners_in_hands ct_Owners_in_hands, PySem.W.fnOf "_check" "Owners._check" (defArgs s_Owners__check) (defBody s_Owners__check) (defScope s_Owners__check) .none kV_Owners__check dc_Owners__check pm_Owners__check an_Owners__check cd_Owners__check ct_Owners__check, PySem.W.fnOf "_is_free" "Owners._is_free" (defArgs s_Owners__is_free) (defBody s_Owners__is_free) (defScope s_Owners__is_free) .none kV_Owners__is_free dc_Owners__is_free pm_Owners__is_free an_Owners__is_free cd_Owners__is_free ct_Owners__is_free, PySem.W.fnOf "__init__" "Hand.__init__" (defArgs s_Hand_init) (defBody s_Hand_init) (defScope s_Hand_init) .none kV_Hand_init dc_Hand_init pm_Hand_init an_Hand_init cd_Hand_init ct_Hand_init, PySem.W.fnOf "victim" "Hand.victim" (defArgs s_Hand_victim) (defBody s_Hand_victim) (defScope s_Hand_victim) .none kV_Hand_victim dc_Hand_victim pm_Hand_victim an_Hand_victim cd_Hand_victim ct_Hand_victim, PySem.W.fnOf "points_to" "Hand.points_to" (defArgs s_Hand_points_to) (defBody s_Hand_points_to) (defScope s_Hand_points_to) .none kV_Hand_points_to dc_Hand_points_to pm_Hand_points_to an_Hand_points_to cd_Hand_points_to ct_Hand_points_to, PySem.W.fnOf "_law_tape" "_law_tape" (defArgs s__law_tape) (defBody s__law_tape) (defScope s__law_tape) .none kV__law_tape dc__law_tape pm__law_tape an__law_tape cd__law_tape ct__law_tape, PySem.W.fnOf "_law_at" "_law_at" (defArgs s__law_at) (defBody s__law_at) (defScope s__law_at) .none kV__law_at dc__law_at pm__law_at an__law_at cd__law_at ct__law_at, PySem.W.fnOf "_law_do" "_law_do" (defArgs s__law_do) (defBody s__law_do) (defScope s__law_do) .none kV__law_do dc__law_do pm__law_do an__law_do cd__law_do ct__law_do, PySem.W.fnOf "_law_free" "_law_free" (defArgs s__law_free) (defBody s__law_free) (defScope s__law_free) .none kV__law_free dc__law_free pm__law_free an__law_free cd__law_free ct__law_free, PySem.W.fnOf "_law_place" "_law_place" (defArgs s__law_place) (defBody s__law_place) (defScope s__law_place) .none kV__law_place dc__law_place pm__law_place an__law_place cd__law_place ct__law_place, PySem.W.fnOf "_law_due" "_law_due" (defArgs s__law_due) (defBody s__law_due) (defScope s__law_due) .none kV__law_due dc__law_due pm__law_due an__law_due cd__law_due ct__law_due, PySem.W.fnOf "_law_victim" "_law_victim" (defArgs s__law_victim) (defBody s__law_victim) (defScope s__law_victim) .none kV__law_victim dc__law_victim pm__law_victim an__law_victim cd__law_victim ct__law_victim, PySem.W.fnOf "_law_same" "_law_same" (defArgs s__law_same) (defBody s__law_same) (defScope s__law_same) .none kV__law_same dc__law_same pm__law_same an__law_same cd__law_same ct__law_same, PySem.W.fnOf "_law_taken" "_law_taken" (defArgs s__law_taken) (defBody s__law_taken) (defScope s__law_taken) .none kV__law_taken dc__law_taken pm__law_taken an__law_taken cd__law_taken ct__law_taken, PySem.W.fnOf "_law_hand" "_law_hand" (defArgs s__law_hand) (defBody s__law_hand) (defScope s__law_hand) .none kV__law_hand dc__law_hand pm__law_hand an__law_hand cd__law_hand ct__law_hand, PySem.W.fnOf "law" "law" (defArgs s_law) (defBody s_law) (defScope s_law) .none kV_law dc_law pm_law an_law cd_law ct_law⟩ := {
    m_PageError := PySem.W.mg_of X G g_PageError
    m_NotValid := PySem.W.mg_of X G g_NotValid
    m_Owners := PySem.W.mg_of X G g_Owners
    m_Hand := PySem.W.mg_of X G g_Hand
    F_PageError_init := fun_mk (st := s_PageError_init) l_PageError_init c_PageError_init k_PageError_init
    B_PageError_init := (fun_mk (st := s_PageError_init) l_PageError_init c_PageError_init k_PageError_init).binds (ps := ["self"]) fun _ _ _ _ _ _ us hl => match us, hl with | [_], _ => rfl
    F_is_whole := fun_mk (st := s_is_whole) l_is_whole c_is_whole k_is_whole
    B_is_whole := (fun_mk (st := s_is_whole) l_is_whole c_is_whole k_is_whole).binds (ps := ["value"]) fun _ _ _ _ _ _ us hl => match us, hl with | [_], _ => rfl
    m_is_whole := PySem.W.mg_of X G a_is_whole
    F_is_number_below := fun_mk (st := s_is_number_below) l_is_number_below c_is_number_below k_is_number_below
    B_is_number_below := (fun_mk (st := s_is_number_below) l_is_number_below c_is_number_below k_is_number_below).binds (ps := ["value", "many"]) fun _ _ _ _ _ _ us hl => match us, hl with | [_, _], _ => rfl
    m_is_number_below := PySem.W.mg_of X G a_is_number_below
    F_Owners_init := fun_mk (st := s_Owners_init) l_Owners_init c_Owners_init k_Owners_init
    B_Owners_init := (fun_mk (st := s_Owners_init) l_Owners_init c_Owners_init k_Owners_init).binds (ps := ["self", "many"]) fun _ _ _ _ _ _ us hl => match us, hl with | [_, _], _ => rfl
    F_Owners_take := fun_mk (st := s_Owners_take) l_Owners_take c_Owners_take k_Owners_take
    B_Owners_take := (fun_mk (st := s_Owners_take) l_Owners_take c_Owners_take k_Owners_take).binds (ps := ["self"]) fun _ _ _ _ _ _ us hl => match us, hl with | [_], _ => rfl
    M_Owners_take := ⟨a_Owners_take, i_Owners_take, k_Owners_take⟩
    F_Owners_give_back := fun_mk (st := s_Owners_give_back) l_Owners_give_back c_Owners_give_back k_Owners_give_back
    B_Owners_give_back := (fun_mk (st := s_Owners_give_back) l_Owners_give_back c_Owners_give_back k_Owners_give_back).binds (ps := ["self", "number"]) fun _ _ _ _ _ _ us hl => match us, hl with | [_, _], _ => rfl
    M_Owners_give_back := ⟨a_Owners_give_back, i_Owners_give_back, k_Owners_give_back⟩
    F_Owners_add := fun_mk (st := s_Owners_add) l_Owners_add c_Owners_add k_Owners_add
    B_Owners_add := (fun_mk (st := s_Owners_add) l_Owners_add c_Owners_add k_Owners_add).binds (ps := ["self", "number", "owner"]) fun _ _ _ _ _ _ us hl => match us, hl with | [_, _, _], _ => rfl
    M_Owners_add := ⟨a_Owners_add, i_Owners_add, k_Owners_add⟩
    F_Owners_remove := fun_mk (st := s_Owners_remove) l_Owners_remove c_Owners_remove k_Owners_remove
    B_Owners_remove := (fun_mk (st := s_Owners_remove) l_Owners_remove c_Owners_remove k_Owners_remove).binds (ps := ["self", "number", "owner"]) fun _ _ _ _ _ _ us hl => match us, hl with | [_, _, _], _ => rfl
    M_Owners_remove := ⟨a_Owners_remove, i_Owners_remove, k_Owners_remove⟩
    F_Owners_hold := fun_mk (st := s_Owners_hold) l_Owners_hold c_Owners_hold k_Owners_hold
    B_Owners_hold := (fun_mk (st := s_Owners_hold) l_Owners_hold c_Owners_hold k_Owners_hold).binds (ps := ["self", "number"]) fun _ _ _ _ _ _ us hl => match us, hl with | [_, _], _ => rfl
    M_Owners_hold := ⟨a_Owners_hold, i_Owners_hold, k_Owners_hold⟩
    F_Owners_owners := fun_mk (st := s_Owners_owners) l_Owners_owners c_Owners_owners k_Owners_owners
    B_Owners_owners := (fun_mk (st := s_Owners_owners) l_Owners_owners c_Owners_owners k_Owners_owners).binds (ps := ["self", "number"]) fun _ _ _ _ _ _ us hl => match us, hl with | [_, _], _ => rfl
    M_Owners_owners := ⟨a_Owners_owners, i_Owners_owners, k_Owners_owners⟩
    F_Owners_place_of := fun_mk (st := s_Owners_place_of) l_Owners_place_of c_Owners_place_of k_Owners_place_of
    B_Owners_place_of := (fun_mk (st := s_Owners_place_of) l_Owners_place_of c_Owners_place_of k_Owners_place_of).binds (ps := ["self", "owner"]) fun _ _ _ _ _ _ us hl => match us, hl with | [_, _], _ => rfl
    M_Owners_place_of := ⟨a_Owners_place_of, i_Owners_place_of, k_Owners_place_of⟩
    F_Owners_free := fun_mk (st := s_Owners_free) l_Owners_free c_Owners_free k_Owners_free
    B_Owners_free := (fun_mk (st := s_Owners_free) l_Owners_free c_Owners_free k_Owners_free).binds (ps := ["self"]) fun _ _ _ _ _ _ us hl => match us, hl with | [_], _ => rfl
    M_Owners_free := ⟨a_Owners_free, i_Owners_free, k_Owners_free⟩
    F_Owners_in_hands := fun_mk (st := s_Owners_in_hands) l_Owners_in_hands c_Owners_in_hands k_Owners_in_hands
    B_Owners_in_hands := (fun_mk (st := s_Owners_in_hands) l_Owners_in_hands c_Owners_in_hands k_Owners_in_hands).binds (ps := ["self"]) fun _ _ _ _ _ _ us hl => match us, hl with | [_], _ => rfl
    M_Owners_in_hands := ⟨a_Owners_in_hands, i_Owners_in_hands, k_Owners_in_hands⟩
    F_Owners__check := fun_mk (st := s_Owners__check) l_Owners__check c_Owners__check k_Owners__check
    B_Owners__check := (fun_mk (st := s_Owners__check) l_Owners__check c_Owners__check k_Owners__check).binds (ps := ["self", "number"]) fun _ _ _ _ _ _ us hl => match us, hl with | [_, _], _ => rfl
    M_Owners__check := ⟨a_Owners__check, i_Owners__check, k_Owners__check⟩
    F_Owners__is_free := fun_mk (st := s_Owners__is_free) l_Owners__is_free c_Owners__is_free k_Owners__is_free
    B_Owners__is_free := (fun_mk (st := s_Owners__is_free) l_Owners__is_free c_Owners__is_free k_Owners__is_free).binds (ps := ["self", "number"]) fun _ _ _ _ _ _ us hl => match us, hl with | [_, _], _ => rfl
    M_Owners__is_free := ⟨a_Owners__is_free, i_Owners__is_free, k_Owners__is_free⟩
    F_Hand_init := fun_mk (st := s_Hand_init) l_Hand_init c_Hand_init k_Hand_init
    B_Hand_init := (fun_mk (st := s_Hand_init) l_Hand_init c_Hand_init k_Hand_init).binds (ps := ["self", "many"]) fun _ _ _ _ _ _ us hl => match us, hl with | [_, _], _ => rfl
    F_Hand_victim := fun_mk (st := s_Hand_victim) l_Hand_victim c_Hand_victim k_Hand_victim
    B_Hand_victim := (fun_mk (st := s_Hand_victim) l_Hand_victim c_Hand_victim k_Hand_victim).binds (ps := ["self", "owners", "passed_over"]) fun _ _ _ _ _ _ us hl => match us, hl with | [_, _, _], _ => rfl
    M_Hand_victim := ⟨a_Hand_victim, i_Hand_victim, k_Hand_victim⟩
    F_Hand_points_to := fun_mk (st := s_Hand_points_to) l_Hand_points_to c_Hand_points_to k_Hand_points_to
    B_Hand_points_to := (fun_mk (st := s_Hand_points_to) l_Hand_points_to c_Hand_points_to k_Hand_points_to).binds (ps := ["self"]) fun _ _ _ _ _ _ us hl => match us, hl with | [_], _ => rfl
    M_Hand_points_to := ⟨a_Hand_points_to, i_Hand_points_to, k_Hand_points_to⟩
    F__law_tape := fun_mk (st := s__law_tape) l__law_tape c__law_tape k__law_tape
    B__law_tape := (fun_mk (st := s__law_tape) l__law_tape c__law_tape k__law_tape).binds (ps := ["script"]) fun _ _ _ _ _ _ us hl => match us, hl with | [_], _ => rfl
    m__law_tape := PySem.W.mg_of X G a__law_tape
    F__law_at := fun_mk (st := s__law_at) l__law_at c__law_at k__law_at
    B__law_at := (fun_mk (st := s__law_at) l__law_at c__law_at k__law_at).binds (ps := ["tape", "k"]) fun _ _ _ _ _ _ us hl => match us, hl with | [_, _], _ => rfl
    m__law_at := PySem.W.mg_of X G a__law_at
    F__law_do := fun_mk (st := s__law_do) l__law_do c__law_do k__law_do
    B__law_do := (fun_mk (st := s__law_do) l__law_do c__law_do k__law_do).binds (ps := ["owners", "act", "number", "owner"]) fun _ _ _ _ _ _ us hl => match us, hl with | [_, _, _, _], _ => rfl
    m__law_do := PySem.W.mg_of X G a__law_do
    F__law_free := fun_mk (st := s__law_free) l__law_free c__law_free k__law_free
    B__law_free := (fun_mk (st := s__law_free) l__law_free c__law_free k__law_free).binds (ps := ["lists", "taken"]) fun _ _ _ _ _ _ us hl => match us, hl with | [_, _], _ => rfl
    m__law_free := PySem.W.mg_of X G a__law_free
    F__law_place := fun_mk (st := s__law_place) l__law_place c__law_place k__law_place
    B__law_place := (fun_mk (st := s__law_place) l__law_place c__law_place k__law_place).binds (ps := ["lists", "owner"]) fun _ _ _ _ _ _ us hl => match us, hl with | [_, _], _ => rfl
    m__law_place := PySem.W.mg_of X G a__law_place
    F__law_due := fun_mk (st := s__law_due) l__law_due c__law_due k__law_due
    B__law_due := (fun_mk (st := s__law_due) l__law_due c__law_due k__law_due).binds (ps := ["lists", "taken", "act", "number", "owner"]) fun _ _ _ _ _ _ us hl => match us, hl with | [_, _, _, _, _], _ => rfl
    m__law_due := PySem.W.mg_of X G a__law_due
    F__law_victim := fun_mk (st := s__law_victim) l__law_victim c__law_victim k__law_victim
    B__law_victim := (fun_mk (st := s__law_victim) l__law_victim c__law_victim k__law_victim).binds (ps := ["lists", "place", "passed"]) fun _ _ _ _ _ _ us hl => match us, hl with | [_, _, _], _ => rfl
    m__law_victim := PySem.W.mg_of X G a__law_victim
    F__law_same := fun_mk (st := s__law_same) l__law_same c__law_same k__law_same
    B__law_same := (fun_mk (st := s__law_same) l__law_same c__law_same k__law_same).binds (ps := ["owners", "lists", "taken"]) fun _ _ _ _ _ _ us hl => match us, hl with | [_, _, _], _ => rfl
    m__law_same := PySem.W.mg_of X G a__law_same
    F__law_taken := fun_mk (st := s__law_taken) l__law_taken c__law_taken k__law_taken
    B__law_taken := (fun_mk (st := s__law_taken) l__law_taken c__law_taken k__law_taken).binds (ps := ["owners", "lists", "taken"]) fun _ _ _ _ _ _ us hl => match us, hl with | [_, _, _], _ => rfl
    m__law_taken := PySem.W.mg_of X G a__law_taken
    F__law_hand := fun_mk (st := s__law_hand) l__law_hand c__law_hand k__law_hand
    B__law_hand := (fun_mk (st := s__law_hand) l__law_hand c__law_hand k__law_hand).binds (ps := ["hand", "owners", "lists", "place", "passed"]) fun _ _ _ _ _ _ us hl => match us, hl with | [_, _, _, _, _], _ => rfl
    m__law_hand := PySem.W.mg_of X G a__law_hand
    F_law := fun_mk (st := s_law) l_law c_law k_law
    B_law := (fun_mk (st := s_law) l_law c_law k_law).binds (ps := ["script"]) fun _ _ _ _ _ _ us hl => match us, hl with | [_], _ => rfl
    m_law := PySem.W.mg_of X G a_law
    c_Owners := ⟨pg_Owners, hd_Owners, po_Owners, sa_Owners⟩
    mk_Owners := ⟨mk_Owners, a_Owners_init, i_Owners_init, kc_Owners⟩
    n_Owners__owners := n_Owners__owners
    n_Owners__held := n_Owners__held
    c_Hand := ⟨pg_Hand, hd_Hand, po_Hand, sa_Hand⟩
    mk_Hand := ⟨mk_Hand, a_Hand_init, i_Hand_init, kc_Hand⟩
    n_Hand__many := n_Hand__many
    n_Hand__frame := n_Hand__frame
    b_ValueError := PySem.W.mg_none_of X G z_ValueError
    b_abs := PySem.W.mg_none_of X G z_abs
    b_bool := PySem.W.mg_none_of X G z_bool
    b_enumerate := PySem.W.mg_none_of X G z_enumerate
    b_int := PySem.W.mg_none_of X G z_int
    b_isinstance := PySem.W.mg_none_of X G z_isinstance
    b_len := PySem.W.mg_none_of X G z_len
    b_list := PySem.W.mg_none_of X G z_list
    b_max := PySem.W.mg_none_of X G z_max
    b_min := PySem.W.mg_none_of X G z_min
    b_range := PySem.W.mg_none_of X G z_range
    b_sorted := PySem.W.mg_none_of X G z_sorted
    vV := y_vV
    xi_NotValid := y_xi_NotValid
    xt_NotValid := y_xt_NotValid
    xs_NotValid := y_xs_NotValid
    xb_NotValid := y_xb_NotValid
    xy_NotValid := y_xy_NotValid
    xk_NotValid := y_xk_NotValid
    e1 := y_e1
    e2 := y_e2
    e4 := y_e4
    e5 := y_e5
    e6 := y_e6
    e7 := y_e7
    e8 := y_e8
    p1 := y_p1
    p2 := y_p2
    p3 := y_p3
    p4 := y_p4
    q4 := y_q4
    x_NotValid := ⟨⟨nmX, qX, NX, bsX, _, snX, subX, abX, colX, ddX, x0, x1, x2, x3, x5, y_xL, rfl⟩, y_xs_NotValid, y_xb_NotValid, y_xy_NotValid, y_xk_NotValid⟩
    e_NotValid := ⟨y_e1, y_e2, y_xb_NotValid, y_e4, y_e5, y_e6, y_e7, y_e8⟩
  }
  exact ⟨_, fun s v => .of_eq rfl, fun base _ _ => (ok_law (base := base) (P := l.prog) (w := w) T).mono (by decide)⟩
theorem walk {l : PySem.W.OpenLaw} {q : Program} {loose : List Str} {XP : (Str → Option Value) → Heap → Prop} {YP : World → Heap → Prop} {d : DefRec} {K : Params → PySem.W.Frag} (hn : l.most = some 63) (hdf : d.params.defaults = [])
    (hY : ∀ (w : World) (h : Heap), YP w h → (K w.params).In h)
    (F : ∀ (w : World) (mg : Str → Option Value) (fa : Addr) (h : Heap), (K w.params).In h → h.Ns mainGlobals mg → mg d.name = some (.ref fa) →
      ∃ fd : FuncData, (∀ (s : Shared) (u : Value), BindsTo s fd ⟨[u], []⟩ [("script", u)]) ∧ ∀ base : Heap, (K w.params).In base → base.Ns mainGlobals mg → FnOk l.prog w (K w.params) mg base CX0 9 fa fd ["script"] (spLaw (K w.params))) :
    PySem.W.WalkO q loose XP YP l.row.toRowW d [] (fun f vs => PySem.call f vs) :=
  L2.walk_of (n := 63) (k := 9) (x := "script") (CX := fun _ => CX0) (sp := fun w => spLaw (K w.params)) hn (by decide) hdf ⟨rfl, by decide, by decide⟩ hY F (fun _ _ a ns hl _ hS => ⟨a, ns, rfl, hS, hl, fun _ => rfl⟩) fun _ _ _ _ _ z => z
end K07

open PySem PySem.W PyProof.Rows in
set_option maxRecDepth 100000 in
set_option maxHeartbeats 0 in
theorem PySem.Challenge.cw_frametally_k07_owners_and_hand_holds : PySem.Challenge.rw_frametally_k07_owners_and_hand.Holds := by
  w_on; o_law; k_head; (case hw => w_witness2)
  k_fill
  refine K07.walk (l := PySem.Challenge.rw_frametally_k07_owners_and_hand) rfl rfl (fun w h Y => PySem.W.kIn_of Y) ?F
  case F =>
    intro w mg fa h KX G hmg
    refine' K07.all_mk KX G hmg ?g_PageError ?g_NotValid ?g_Owners ?g_Hand ?a_PageError_init ?i_PageError_init ?l_PageError_init ?c_PageError_init ?k_PageError_init ?a_is_whole ?l_is_whole ?c_is_whole ?k_is_whole ?a_is_number_below ?l_is_number_below ?c_is_number_below ?k_is_number_below ?a_Owners_init ?i_Owners_init ?l_Owners_init ?c_Owners_init ?k_Owners_init ?a_Owners_take ?i_Owners_take ?l_Owners_take ?c_Owners_take ?k_Owners_take ?a_Owners_give_back ?i_Owners_give_back ?l_Owners_give_back ?c_Owners_give_back ?k_Owners_give_back ?a_Owners_add ?i_Owners_add ?l_Owners_add ?c_Owners_add ?k_Owners_add ?a_Owners_remove ?i_Owners_remove ?l_Owners_remove ?c_Owners_remove ?k_Owners_remove ?a_Owners_hold ?i_Owners_hold ?l_Owners_hold ?c_Owners_hold ?k_Owners_hold ?a_Owners_owners ?i_Owners_owners ?l_Owners_owners ?c_Owners_owners ?k_Owners_owners ?a_Owners_place_of ?i_Owners_place_of ?l_Owners_place_of ?c_Owners_place_of ?k_Owners_place_of ?a_Owners_free ?i_Owners_free ?l_Owners_free ?c_Owners_free ?k_Owners_free ?a_Owners_in_hands ?i_Owners_in_hands ?l_Owners_in_hands ?c_Owners_in_hands ?k_Owners_in_hands ?a_Owners__check ?i_Owners__check ?l_Owners__check ?c_Owners__check ?k_Owners__check ?a_Owners__is_free ?i_Owners__is_free ?l_Owners__is_free ?c_Owners__is_free ?k_Owners__is_free ?a_Hand_init ?i_Hand_init ?l_Hand_init ?c_Hand_init ?k_Hand_init ?a_Hand_victim ?i_Hand_victim ?l_Hand_victim ?c_Hand_victim ?k_Hand_victim ?a_Hand_points_to ?i_Hand_points_to ?l_Hand_points_to ?c_Hand_points_to ?k_Hand_points_to ?a__law_tape ?l__law_tape ?c__law_tape ?k__law_tape ?a__law_at ?l__law_at ?c__law_at ?k__law_at ?a__law_do ?l__law_do ?c__law_do ?k__law_do ?a__law_free ?l__law_free ?c__law_free ?k__law_free ?a__law_place ?l__law_place ?c__law_place ?k__law_place ?a__law_due ?l__law_due ?c__law_due ?k__law_due ?a__law_victim ?l__law_victim ?c__law_victim ?k__law_victim ?a__law_same ?l__law_same ?c__law_same ?k__law_same ?a__law_taken ?l__law_taken ?c__law_taken ?k__law_taken ?a__law_hand ?l__law_hand ?c__law_hand ?k__law_hand ?a_law ?l_law ?c_law ?k_law ?pg_Owners ?hd_Owners ?po_Owners ?sa_Owners ?mk_Owners ?kc_Owners ?n_Owners__owners ?n_Owners__held ?pg_Hand ?hd_Hand ?po_Hand ?sa_Hand ?mk_Hand ?kc_Hand ?n_Hand__many ?n_Hand__frame ?z_ValueError ?z_abs ?z_bool ?z_enumerate ?z_int ?z_isinstance ?z_len ?z_list ?z_max ?z_min ?z_range ?z_sorted ?y_xL ?y_vV ?y_xi_NotValid ?y_xt_NotValid ?y_xs_NotValid ?y_xb_NotValid ?y_xy_NotValid ?y_xk_NotValid ?y_e1 ?y_e2 ?y_e4 ?y_e5 ?y_e6 ?y_e7 ?y_e8 ?y_p1 ?y_p2 ?y_p3 ?y_p4 ?y_q4
    (case g_PageError => k_is)
    (case g_NotValid => k_is)
    (case g_Owners => k_is)
    (case g_Hand => k_is)
    (case a_PageError_init => k_is)
    (case i_PageError_init => k_is)
    (case l_PageError_init => k_is)
    (case c_PageError_init => k_is)
    (case k_PageError_init => k_is)
    (case a_is_whole => k_is)
    (case l_is_whole => k_is)
    (case c_is_whole => k_is)
    (case k_is_whole => k_is)
    (case a_is_number_below => k_is)
    (case l_is_number_below => k_is)
    (case c_is_number_below => k_is)
    (case k_is_number_below => k_is)
    (case a_Owners_init => k_is)
    (case i_Owners_init => k_is)
    (case l_Owners_init => k_is)
    (case c_Owners_init => k_is)
    (case k_Owners_init => k_is)
    (case a_Owners_take => k_is)
    (case i_Owners_take => k_is)
    (case l_Owners_take => k_is)
    (case c_Owners_take => k_is)
    (case k_Owners_take => k_is)
    (case a_Owners_give_back => k_is)
    (case i_Owners_give_back => k_is)
    (case l_Owners_give_back => k_is)
    (case c_Owners_give_back => k_is)
    (case k_Owners_give_back => k_is)
    (case a_Owners_add => k_is)
    (case i_Owners_add => k_is)
    (case l_Owners_add => k_is)
    (case c_Owners_add => k_is)
    (case k_Owners_add => k_is)
    (case a_Owners_remove => k_is)
    (case i_Owners_remove => k_is)
    (case l_Owners_remove => k_is)
    (case c_Owners_remove => k_is)
    (case k_Owners_remove => k_is)
    (case a_Owners_hold => k_is)
    (case i_Owners_hold => k_is)
    (case l_Owners_hold => k_is)
    (case c_Owners_hold => k_is)
    (case k_Owners_hold => k_is)
    (case a_Owners_owners => k_is)
    (case i_Owners_owners => k_is)
    (case l_Owners_owners => k_is)
    (case c_Owners_owners => k_is)
    (case k_Owners_owners => k_is)
    (case a_Owners_place_of => k_is)
    (case i_Owners_place_of => k_is)
    (case l_Owners_place_of => k_is)
    (case c_Owners_place_of => k_is)
    (case k_Owners_place_of => k_is)
    (case a_Owners_free => k_is)
    (case i_Owners_free => k_is)
    (case l_Owners_free => k_is)
    (case c_Owners_free => k_is)
    (case k_Owners_free => k_is)
    (case a_Owners_in_hands => k_is)
    (case i_Owners_in_hands => k_is)
    (case l_Owners_in_hands => k_is)
    (case c_Owners_in_hands => k_is)
    (case k_Owners_in_hands => k_is)
    (case a_Owners__check => k_is)
    (case i_Owners__check => k_is)
    (case l_Owners__check => k_is)
    (case c_Owners__check => k_is)
    (case k_Owners__check => k_is)
    (case a_Owners__is_free => k_is)
    (case i_Owners__is_free => k_is)
    (case l_Owners__is_free => k_is)
    (case c_Owners__is_free => k_is)
    (case k_Owners__is_free => k_is)
    (case a_Hand_init => k_is)
    (case i_Hand_init => k_is)
    (case l_Hand_init => k_is)
    (case c_Hand_init => k_is)
    (case k_Hand_init => k_is)
    (case a_Hand_victim => k_is)
    (case i_Hand_victim => k_is)
    (case l_Hand_victim => k_is)
    (case c_Hand_victim => k_is)
    (case k_Hand_victim => k_is)
    (case a_Hand_points_to => k_is)
    (case i_Hand_points_to => k_is)
    (case l_Hand_points_to => k_is)
    (case c_Hand_points_to => k_is)
    (case k_Hand_points_to => k_is)
    (case a__law_tape => k_is)
    (case l__law_tape => k_is)
    (case c__law_tape => k_is)
    (case k__law_tape => k_is)
    (case a__law_at => k_is)
    (case l__law_at => k_is)
    (case c__law_at => k_is)
    (case k__law_at => k_is)
    (case a__law_do => k_is)
    (case l__law_do => k_is)
    (case c__law_do => k_is)
    (case k__law_do => k_is)
    (case a__law_free => k_is)
    (case l__law_free => k_is)
    (case c__law_free => k_is)
    (case k__law_free => k_is)
    (case a__law_place => k_is)
    (case l__law_place => k_is)
    (case c__law_place => k_is)
    (case k__law_place => k_is)
    (case a__law_due => k_is)
    (case l__law_due => k_is)
    (case c__law_due => k_is)
    (case k__law_due => k_is)
    (case a__law_victim => k_is)
    (case l__law_victim => k_is)
    (case c__law_victim => k_is)
    (case k__law_victim => k_is)
    (case a__law_same => k_is)
    (case l__law_same => k_is)
    (case c__law_same => k_is)
    (case k__law_same => k_is)
    (case a__law_taken => k_is)
    (case l__law_taken => k_is)
    (case c__law_taken => k_is)
    (case k__law_taken => k_is)
    (case a__law_hand => k_is)
    (case l__law_hand => k_is)
    (case c__law_hand => k_is)
    (case k__law_hand => k_is)
    (case a_law => k_is)
    (case l_law => k_is)
    (case c_law => k_is)
    (case k_law => k_is)
    (case pg_Owners => k_is)
    (case hd_Owners => k_is)
    (case po_Owners => k_is)
    (case sa_Owners => k_is)
    (case mk_Owners => k_is)
    (case kc_Owners => k_is)
    (case n_Owners__owners => k_is)
    (case n_Owners__held => k_is)
    (case pg_Hand => k_is)
    (case hd_Hand => k_is)
    (case po_Hand => k_is)
    (case sa_Hand => k_is)
    (case mk_Hand => k_is)
    (case kc_Hand => k_is)
    (case n_Hand__many => k_is)
    (case n_Hand__frame => k_is)
    (case z_ValueError => k_is)
    (case z_abs => k_is)
    (case z_bool => k_is)
    (case z_enumerate => k_is)
    (case z_int => k_is)
    (case z_isinstance => k_is)
    (case z_len => k_is)
    (case z_list => k_is)
    (case z_max => k_is)
    (case z_min => k_is)
    (case z_range => k_is)
    (case z_sorted => k_is)
    (case y_xL => k_is)
    (case y_vV => k_is)
    (case y_xi_NotValid => k_is)
    (case y_xt_NotValid => k_is)
    (case y_xs_NotValid => k_is)
    (case y_xb_NotValid => k_is)
    (case y_xy_NotValid => k_is)
    (case y_xk_NotValid => k_is)
    (case y_e1 => k_is)
    (case y_e2 => k_is)
    (case y_e4 => k_is)
    (case y_e5 => k_is)
    (case y_e6 => k_is)
    (case y_e7 => k_is)
    (case y_e8 => k_is)
    (case y_p1 => k_is)
    (case y_p2 => k_is)
    (case y_p3 => k_is)
    (case y_p4 => k_is)
    (case y_q4 => first | rfl | k_is)
